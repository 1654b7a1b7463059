import PyProof.Rows.All
import Wide.All
import OpenK.AllK
import Wide.FinOn
import Lean
import PyProof.EqAt
import PyProof.EqKinds
import PyProof.TupleCall
import PySem.Challenge.RW_motiffield_k39_whole_one_form
set_option compiler.extract_closed false
set_option Elab.async false
set_option linter.all false
set_option maxRecDepth 100000
set_option maxHeartbeats 4000000
local macro_rules|`(#[$x,*])=>`(⟨$x,*⟩)
theorem t8{p:Prop}(h:p:=by lia):p:=h
theorem y8{p:Prop}(h:p:=by decide):p:=h
theorem IA{p:Prop}(h:p:=by decide+kernel):p:=h
theorem IU{p:Prop}(h:p:=by omega):p:=h
theorem IV{p:Prop}(h:p:=by simp):p:=h
theorem I0{p:Prop}(h:p:=by k_memK):p:=h
theorem J2{p:Prop}(h:p:=by show(2:Nat)<=1000;decide):p:=h
theorem J4{p:Prop}(h:p:=by walk_at "b2"):p:=h
theorem J9{p:Prop}(h:p:=by grind):p:=h
theorem KK{p:Prop}(h:p:=by show(1:Nat)<=1000;decide):p:=h
theorem KS{p:Prop}(h:p:=by walk_at "b1"):p:=h
theorem Mn{p:Prop}(h:p:=by walk_at "b3"):p:=h
theorem Np{p:Prop}(h:p:=by rw[<-hY];rfl):p:=h
theorem Nw{p:Prop}(h:p:=by simp;lia):p:=h
theorem NB{p:Prop}(h:p:=by walk_at "b4"):p:=h
open PySem renaming Str->t6
open Option renaming some->be,none->m_
open PySem renaming Value->KB,Addr->KF,Shared->KM,wpAny_bind->Os,mainGlobals->Pi,Stmt->P3,Expr->QG,Program->QH,wpAny->QI,model->QJ,wpAny_pure->QK,World->QL,Around->QM,Heap->QN,assignEach->QO,starEach->QP,attributeBase->QQ,FuncData->QR,eval->QS,Pos->QT,wpAny_newObj_type->QU,wpAny_mono->QV,compareOp->QW,Obj->QY,bootBuiltins->QZ,wpAny_Call_Name_kw->Q0,swapsWith->Q1,PassesOwn->Q2,ExceptHandler->Q3,binaryOp->Q4,wpAny_passesOwn->Q5,behindInMarks->Q6,sysModules->Q7,excClassObj->Q8,Scope->Q9,wpAny_standAt->Q_,wpAny_getItem_str_slice->Ra,wpAny_holding->Rb,swapsWithSole->Rc,swappedStores->Rf,wpAny_field->Rg,sliceBounds->Rh,NameKind->Ri,wpAny_execs_nil->Rj,assign->Rk,bindArgs->Rl,backTo->Rm,wpAny_truthy_bool->Rn,wpAny_pyIter_enum->Ro,wpAny_loadPart_at->Rp,keywordEach->Rq,holding->Rr,Env->Rt,tupleKind->Rv,noteFrame->Rw,rawInt->Rx,codeAny_mono->Ry,post_val_or_str->Rz,letOwnedTupleGo->RA,wpAny_setField->RB,standAt->RC,codeAny->RD,Keyword->RE,wpAny_isSubtype_exc->RF,wpAny_assign_Name->RH,callerA->RI,cLine->RJ,backToKw->RK,BindsTo->RN,setFlight->RO,IsPart->RP,sizeLine_eq->RQ,atKey->RR,valueAt->RS,wpAny_letOwnedTupleGo_enum->RT,handleBy->RU,dictSetDefault->RV,wpAny_comprehension_free->RW,assignInOrder->RY,getMethod->RZ,bindL->R1,bindC->R3,seqIndex_neg->R5,leaving->R6,getItem->R7,codeAny_compStart_list->R8,call_meetsIn->R9,wpAny_newFunctionEnv->R',seqIndex_of->R_,bindName->Sa,Sem->Sb,wpAny_rule->Sd,wpAny_entryPlaceOf->Se,wpAny_call->Sf,wpAny_Name->Sg,typeIs_str->Sh,tupleKind_room_in1->Si,builtinsNs->Sj,wpAny_frameOf_fun->Sk,relabel->Sl,foldedSetIterable->Sm,Model->So,CmpOp->Sq
open PyProof.Rows renaming envOfC->QX,AllBare->Ru,assignInOrder_cons->RG,IntsAre->RL,subscriptTail_builtinR->R4,assignInOrder_nil->Sn
open PySem.W renaming Frag->Ex,OpenLaw->G5,WalkO->Hx
open Nat renaming le_refl->E5,ne_of_lt->Ff,le_trans->Fh,lt_of_lt_of_le->Fz,zero_le->FB,pow_succ->FY,ne_of_gt->F5,not_lt_zero->F8,lt_irrefl->Gc,le_succ->Gf,lt_or_ge->Gk,pow_le_pow_right->Gp,le_of_not_lt->Gw,succ_mul->GA,le_of_lt->GC,le_of_eq->GE,mul_le_mul->GN,pow_pos->GT,lt_succ_of_lt->G9,min_eq_left->Hm,min_eq_right->Hn,lt_succ_self->Hs,lt_of_le_of_lt->Hy,lt_trans->Hz,log2_lt->HB,succ_ne_self->HI,lt_of_succ_lt_succ->HK,mul_le_mul_right->HP,le_max_left->HR,le_max_right->HS,pow_add->HU,add_sub_cancel->HZ,mod_eq_of_lt->Ig,zero_add->Ij
open List renaming mem_singleton->E6,range->E7,mem_cons->E8,length_map->E9,size_toArray->Fb,mem_cons_of_mem->Fc,mem_cons_self->Fd,length_cons->Fe,getElem?_map->Fg,map_cons->Fi,getElem?_eq_some_iff->Fj,length_append->Fn,getElem?_eq_getElem->Fo,lookup_cons->Fq,set_cons_succ->Ft,getElem?_set_ne->Fu,set_cons_zero->Fw,mem_append_right->Fx,mem_append->Fy,mem_map->FA,getElem_mem->FC,map_append->FD,getElem?_append_left->FK,getD->FL,getElem?_set_self->FM,append_nil->FN,all_cons->FO,all_eq_true->FP,getElem?_eq_none->FQ,append_assoc->FR,getElem?_range->FS,nodup_cons->FT,replicate->FU,getElem?_append_right->FV,map_nil->FW,length_set->FX,not_mem_nil->F4,lookup->F7,mem_append_left->Gd,mem_of_getElem?->Gg,length_drop->Gh,any_cons->Gi,find?_cons->Gj,range_succ->Gm,take_of_length_le->Gn,drop_eq_getElem_cons->Gr,length->Gu,length_take->Gv,getElem?_set->Gx,drop->Gy,nodup_append->Gz,filterMap_cons->GD,ext_getElem?->GJ,getElem_toArray->GL,take_length->GS,map->G1,of_mem_zip->G3,getElem?_replicate->G4,contains_cons->G6,all_map->G7,map_congr_left->Ha,map_map->Hi,length_range->Hj,drop_eq_nil_of_le->Hl,mem_filter->Ho,mem_filterMap->Hr,getElem?_take_of_lt->Ht,filterMap_map->Hu,nodup_nil->HA,range_succ_eq_map->HD,forIn_cons->HE,take_succ->HG,dropLast_cons₂->HH,eq_nil_of_length_eq_zero->HJ,drop_zero->Ih,set_append_left->Ik,set_append_right->Il,mem_or_eq_of_mem_set->Im,map_set->Io,mem_of_mem_drop->Iq,take_append_drop->Ir,drop_length->Iv,mem_iff_getElem?->Iw,length_pos_of_mem->Ix
open Bool renaming false_ne_true->Fk,and_eq_true->Fv,eq_false_iff->FH,eq_iff_iff->F6,or_true->GH,and_true->GK,and_false->Hw
open Int renaming mul_pos->Fl,mul_le_mul_of_nonneg_right->Fp,mul_comm->Fs,toNat_of_nonneg->FE,emod_nonneg->FF,emod_lt_of_pos->FG,mul_ediv_cancel->FI,emod_def->FJ,mul_neg->FZ,natAbs_mul->F9,neg_mul->Ga,mul_nonpos_of_nonpos_of_nonneg->Gb,eq_of_mul_eq_mul_right->Go,emod_add_mul_ediv->Gq,lt_trichotomy->Gs,zero_mul->GB,toNat_natCast->GF,mul_emod_left->GM,mul_le_mul_of_nonneg_left->GO,dvd_mul_of_dvd_right->GP,sub_zero->GQ,mul_eq_zero->GR,sub_mul->GU,add_mul->GV,add_zero->GW,mul_zero->GX,mul_neg_of_neg_of_pos->GY,neg_add->GZ,add_comm->G0,le_trans->G2,mul_nonneg->Hb,fmod_eq_zero_of_dvd->Hc,natCast_mul->Hd,eq_of_mul_eq_mul_left->Hf,dvd_add->Hg,zero_add->Hk,natAbs_eq_zero->HC,le_total->HL,fmod_nonneg_of_pos->HM,fmod_lt_of_pos->HN,dvd_mul_of_dvd_left->HQ,mul_fdiv_cancel_of_fmod_eq_zero->HV,dvd_antisymm->HW,sub_self->HX,mul_le_mul->HY,add_mul_emod_self_right->H8,dvd_add_left->H9,dvd_mul_right->Ia,add_assoc->Ib,sub_eq_add_neg->Ic,natCast_add->Ie,neg_neg->Ii,one_mul->Ip,ediv_nonneg->Iu
open Array renaming length_toList->Ge,getElem?_eq_some_iff->GI,toList->Hq,all_toList->HF,toList_inj->H4
open Option renaming map_some->G8,getD_none->Hv
open PySem.W (InitBack InstAt any_some bind_fn callWith_K callWith_K0 cellsFrom_some clsIn codeIn codeRec_of emptyDict eq_bytes findCls findIn findObj_own fnOf get_value handedIn hasDictIn hideAll hideAll_get hideAll_none hideAll_size instObj isFn isNs_of_in kIn_of keepIn ki_setAt ki_setBack kia_one kitOne kitx_bool kitx_dict kitx_float kitx_int kitx_list kitx_none kitx_own kitx_str kitx_tuple kun_itemsOf len_bytes lookIn looks_clsIn looks_findIn make_core makesIn makes_of methodCall_KW methodObj method_fn mg_none_of mg_of mroIn ne_bytes nsIn nsMap_none_of_in nsOkIn of_hideAll osa_open plainGet plainGet_of plainOver readsIn set_plain specialIn tailIn tail_of_in takerIn takesIn truthy_bytes typeIn)
def qZ0(_:0=0:=by rfl):=0
def zA0:=qZ0._auto_1
def qZ1(_:0=0:=by decide):=0
def zA1:=qZ1._auto_1
def qZ2(_:0=0:=by exact λ_=>rfl):=0
def zA2:=qZ2._auto_1
def qZ3(_:0=0:=by first|exact .inl rfl|exact .inr rfl|assumption):=0
def zA3:=qZ3._auto_1
def qZ4(_:0=0:=by first|exact Or.inl rfl|exact Or.inr rfl):=0
def zA4:=qZ4._auto_1
def qZ5(_:0=0:=by first|exact Or.inl rfl|exact Or.inr (Or.inl rfl)|exact Or.inr (Or.inr rfl)):=0
def zA5:=qZ5._auto_1
def qZ6(_:0=0:=by exact λ_ _=>rfl):=0
def zA6:=qZ6._auto_1
namespace PySem.W.Fast
def tw11622869623073459324:=Nat
def tw7263978808414046045:=Nat
def tw15824371246434634362:=Nat
def tw13281484470837945598:=Nat
def tw3888129666585003028:=Nat
def tw17176874911663677518:=Nat
def tw14283587686790454109:=Nat
def tw155092527165933863:=Nat
def tw147234744705992055:=Nat
def tw8311951004653062521:=Nat
def tw15134492717775387962:=Nat
def tw12797321448768447657:=Nat
def tw1894161412587144059:=Nat
def tw10898105166053602495:=Nat
def tw7000155097134012732:=Nat
def tw17357910423978174223:=Nat
def tw5764489494731098093:=Nat
def tw6570479328384286776:=Nat
def tw12992586318327500307:=Nat
def tw2706896173981276410:=Nat
def tw8456696958492057385:=Nat
def tw12216440368561681974:=Nat
def tw16423491420046228475:=Nat
def tw3529304930001390297:=Nat
def tw13866903382168715188:=Nat
def tw17403384754420850963:=Nat
def tw7840528011986485390:=Nat
def tw7347845133485532551:=Nat
def tw15165489639942615631:=Nat
def tw17358400074636879465:=Nat
def tw14945197468227041590:=Nat
def tw6149866753592874158:=Nat
def tw11510773990911678007:=Nat
def tw13093992130793736169:=Nat
def tw2710626686897567150:=Nat
def tw2614250106235021763:=Nat
def tw8522073235688297356:=Nat
def tw6865985396743865494:=Nat
def tw13760206896488513169:=Nat
def tw4085721852971727432:=Nat
def tw5883378989779926377:=Nat
def tw16662319096176723247:=Nat
def tw7709010086287708477:=Nat
def tw14039659659601499750:=Nat
def tw17530107062706294990:=Nat
def tw966180079583234973:=Nat
def tw10449988858681787308:=Nat
def tw1240432883114876503:=Nat
def tw14981635236661291830:=Nat
def tw11466503546855646233:=Nat
def tw167542572476771431:=Nat
def tw9203101561103391218:=Nat
def tw11470065275150741208:=Nat
def tw9513999131393742445:=Nat
def tw5729260875785839146:=Nat
def tw14851521685936241207:=Nat
def tw16275606959281042122:=Nat
def tw17223315670397906711:=Nat
def tw12789392443769315362:=Nat
def tw14851738485656169461:=Nat
def tw17299454999806117917:=Nat
def tw9426429236544855794:=Nat
def tw16672496394838826130:=Nat
def tw3562307022220051439:=Nat
def tw11763756305379034719:=Nat
def tw10580043807600506424:=Nat
def tw17896593232092388359:=Nat
def tw296252523514736139:=Nat
def tw13759087722644428756:=Nat
def tw2430422220057974838:=Nat
def tw1559546387956847892:=Nat
def tw32030395179587275:=Nat
def tw15633004140966707360:=Nat
def tw10625181564600284091:=Nat
def tw11144244016802651464:=Nat
def tw11000764785337976761:=Nat
def tw9969631727661323596:=Nat
def tw18059814033131204753:=Nat
def tw2314031493909496405:=Nat
def tw17829834528872184394:=Nat
def tw8906304021994080259:=Nat
def tw11920501801922886920:=Nat
def tw15132698277939418764:=Nat
def tw7280117858140209379:=Nat
def tw14543922748715755024:=Nat
def tw11909828765616677027:=Nat
def tw13560372739367120918:=Nat
def tw13357492772209753572:=Nat
def tw3195329891120734497:=Nat
def tw632753289526517274:=Nat
def tw510791532253348789:=Nat
def tw7688698889720220121:=Nat
def tw7073191963675613010:=Nat
def tw6301603592005493699:=Nat
def tw1807094054415283395:=Nat
def tw18094447781135504325:=Nat
def tw12213681933374766989:=Nat
def tw3392472294250314180:=Nat
def tw14197752287671920126:=Nat
def tw6500515399162015383:=Nat
def tw12708608917357980442:=Nat
def tw7963695977771431705:=Nat
def tw16694841989706303248:=Nat
def tw17948742958158204897:=Nat
def tw9356042701907572767:=Nat
def tw2003066428427204640:=Nat
def tw16324687046781670912:=Nat
def tw17876203402688917294:=Nat
def tw9143924645378992752:=Nat
def tw4932327903504716963:=Nat
def tw10419804900357130325:=Nat
def tw680480450910182525:=Nat
def tw10246155705893312106:=Nat
def tw16460770669502709834:=Nat
def tw6094994922169160277:=Nat
def tw16366364956502507308:=Nat
def tw3885666295803296019:=Nat
def tw9243853633285381615:=Nat
def tw9233490943141585992:=Nat
def tw841360120366048070:=Nat
def tw14653880456902799342:=Nat
def tw14944017572103568086:=Nat
def tw4086128830149836552:=Nat
def tw14499114812565909263:=Nat
def tw4735251439044405062:=Nat
def tw5110807781430887780:=Nat
def tw17388805120098020802:=Nat
def tw15027945539103308463:=Nat
def tw30152724863778831:=Nat
def tw5133927026904344292:=Nat
def tw1148554057823712047:=Nat
def tw14951475367782444508:=Nat
def tw17269032517566294896:=Nat
def tw2288282518776310592:=Nat
def tw16540519982015778959:=Nat
def tw7131273667193161356:=Nat
def tw2916939228436305437:=Nat
def tw16419583968811031022:=Nat
def tw12794856031520639386:=Nat
def tw8434813280057387261:=Nat
def tw202112960666335341:=Nat
def tw12087390486144026543:=Nat
def tw13465379223215486917:=Nat
def tw14250012436443822506:=Nat
def tw15586480256473392873:=Nat
def tw1123010082617431998:=Nat
def tw6909834592960645577:=Nat
def tw9100858314215153358:=Nat
def tw10789885001576175220:=Nat
def tw17891696935087336315:=Nat
def tw13954831082150067985:=Nat
def tw15084531529363182181:=Nat
def tw16604828546316269832:=Nat
def tw480139962866068624:=Nat
def tw8573505754533488798:=Nat
def tw14729262417366758240:=Nat
def tw13397236624127718773:=Nat
def tw9151350910784444042:=Nat
def tw967088638350977443:=Nat
def tw14091955306415095148:=Nat
def tw487189722719591750:=Nat
def tw2984866877946574583:=Nat
def tw18022651373983887829:=Nat
def tw9867159306985402641:=Nat
def tw14845952333368547311:=Nat
def tw8154561104480641979:=Nat
def tw15258744784178940228:=Nat
def tw9836797914003352302:=Nat
def tw16356755676832181582:=Nat
def tw8862754530154434345:=Nat
def tw5967519130434990853:=Nat
def tw10067708730336972360:=Nat
def tw3854334592526397959:=Nat
def tw13671067285434348156:=Nat
def tw17954959384727250061:=Nat
def tw8150677016846416804:=Nat
def tw14647583909635952291:=Nat
def tw16802494533094345709:=Nat
def tw1280058389244424027:=Nat
def tw6188865012775948474:=Nat
def tw12146484137310073594:=Nat
def tw9575906177121863615:=Nat
def tw1774843635529397190:=Nat
def tw529933298845394153:=Nat
def tw12127488206228809334:=Nat
def tw10693301983929918845:=Nat
def tw10282627264488839678:=Nat
def tw9124442056166999465:=Nat
def tw9987911053153452396:=Nat
def tw9266388781476992951:=Nat
def tw6967896426171293110:=Nat
def tw6496212595652583727:=Nat
def tw7973395111462145852:=Nat
def tw5431285346349625809:=Nat
def tw12954395636053913730:=Nat
def tw14144222210541539420:=Nat
def tw13953044323957060921:=Nat
def tw6869555050109275847:=Nat
def tw11844449007610943366:=Nat
def tw17260780637551502918:=Nat
def tw1532236015616877463:=Nat
def tw514031310359677262:=Nat
def tw12190936239034688512:=Nat
def tw6877203577643979267:=Nat
def tw12880831920075062685:=Nat
def tw6622656640299706400:=Nat
def tw18247390890927340581:=Nat
def tw3505772050972507601:=Nat
def tw1355209349043854687:=Nat
def tw14001883612897526747:=Nat
def tw17225096768960712249:=Nat
def tw1434783101708899108:=Nat
def tw12880452798945436715:=Nat
def tw371069589556567342:=Nat
def tw6970155888173224739:=Nat
def tw713154149205445121:=Nat
def tw17405451761514366430:=Nat
def tw3968775570092579176:=Nat
def tw17859268740146870552:=Nat
def tw14031556171135151325:=Nat
def tw6214756539847622723:=Nat
def tw10763162770873059495:=Nat
def tw15322676393538815695:=Nat
def tw3567515721190515584:=Nat
def tw10617517748554743332:=Nat
def tw12707463004726916661:=Nat
def tw17317717377105368024:=Nat
def tw7561488404377662567:=Nat
def tw5323631798615343729:=Nat
def tw4446751760290831074:=Nat
def tw760949570258555751:=Nat
def tw5352610777428834647:=Nat
def tw11979565083458541695:=Nat
def tw11388430613350380239:=Nat
def tw16747896618024353485:=Nat
def tw4898381123715026426:=Nat
def tw16250401525903739794:=Nat
def tw10459862832814347608:=Nat
def tw12986841051811228728:=Nat
def tw2408699098111802383:=Nat
def tw1364830864696843027:=Nat
def tw16114603366184965451:=Nat
def tw7904112752671704029:=Nat
def tw44185072245090778:=Nat
def tw1217212520388199324:=Nat
def tw3158683696366882270:=Nat
def tw14580716021562747608:=Nat
def tw15389279617748977401:=Nat
def tw16509162136561791871:=Nat
def tw15400550676107130656:=Nat
def tw12927915560184913412:=Nat
def tw2188647918826647203:=Nat
def tw4268964140772540799:=Nat
def tw16059106678883876395:=Nat
def tw10411800727739882321:=Nat
def tw1887562082667774034:=Nat
def tw10724376033268382617:=Nat
def tw12524179739193483756:=Nat
def tw6687030908181789953:=Nat
def tw1459616306058375466:=Nat
def tw16133930322698385810:=Nat
def tw7691750265996939442:=Nat
def tw9737452668271930719:=Nat
def tw11537173793073577871:=Nat
def tw13475107409580456663:=Nat
def tw2663768536227947636:=Nat
def tw16393394628700922368:=Nat
def tw3436760642092449738:=Nat
def tw14111035735166641888:=Nat
def tw15249398605254171028:=Nat
def tw6492305326216142135:=Nat
def tw6377126900772215309:=Nat
def tw13677515963471265754:=Nat
def tw4604373364144561834:=Nat
def tw8053964674321151900:=Nat
def tw16692771036218668214:=Nat
def tw18282956483428044104:=Nat
def tw1778841389276838490:=Nat
def tw16823678849864544965:=Nat
def tw3058678831489078900:=Nat
def tw13353907454981473887:=Nat
def tw9415439442911934074:=Nat
def tw4722618116392119271:=Nat
def tw9374341777588273468:=Nat
def tw15429652212711763515:=Nat
def tw15733149471198103290:=Nat
def tw18349536653186680622:=Nat
def tw9510526738955606595:=Nat
def tw13974662788404099010:=Nat
def tw8657280364921744247:=Nat
def tw12978596325833153172:=Nat
def tw10411240174895922417:=Nat
def tw13173374129110740800:=Nat
def tw9183736368339337115:=Nat
def tw13574639400519366753:=Nat
def tw13429063907854891080:=Nat
def tw8127425328425118905:=Nat
def tw14179757024379986699:=Nat
def tw16458982089396896841:=Nat
def tw2135293622503417751:=Nat
def tw3423111132415110343:=Nat
def tw10226991026533336061:=Nat
def tw2177160024723640216:=Nat
def tw15921110092900958725:=Nat
def tw15904954158726290019:=Nat
def tw9307316823078766908:=Nat
def tw5142107050800838419:=Nat
def tw305946377507551447:=Nat
def tw13404848222038571444:=Nat
def tw5391642771951248366:=Nat
def tw18411833712691934330:=Nat
def tw17842512406076644976:=Nat
def tw9104267005481076807:=Nat
def tw3848916226672549286:=Nat
def tw15668913812928714624:=Nat
def tw9168118855737458145:=Nat
def tw5022009914053483220:=Nat
def tw9108260406517529414:=Nat
def tw8599816043178801195:=Nat
def tw1729560435452524677:=Nat
def tw1373921892429545959:=Nat
def tw3597058909346513659:=Nat
def tw7091579939755278392:=Nat
def tw3320153701621680193:=Nat
def tw10899160117773141797:=Nat
def tw11281089337144627082:=Nat
def tw1846790376628225309:=Nat
def tw17748637024269841160:=Nat
def tw2619334319003236034:=Nat
def tw10078792054776992171:=Nat
def tw1618632757411506925:=Nat
def tw7402620367553499060:=Nat
def tw7479143339760777626:=Nat
def tw7780095927859867406:=Nat
def tw1862618354138744000:=Nat
def tw12367444207920610808:=Nat
def tw6174398956080822192:=Nat
def tw7763480725818207568:=Nat
def tw9977622864291089743:=Nat
def tw3684004502644721937:=Nat
def tw8242993899063060147:=Nat
def tw10841714119709413844:=Nat
def tw7869867947729685243:=Nat
def tw16201365604793224331:=Nat
def tw7732081289597276173:=Nat
def tw12391511859626367630:=Nat
def tw6948955754299197886:=Nat
def tw12757615672190450565:=Nat
def tw2014535781654975321:=Nat
def tw2064146651412798556:=Nat
def tw12349060831661319085:=Nat
def tw5393130919815061514:=Nat
def tw16764170697623411223:=Nat
def tw16320844079587438464:=Nat
def tw6074855279219434834:=Nat
def tw13755675372581274503:=Nat
def tw1365431449503044018:=Nat
def tw13407063362748156820:=Nat
def tw14100269872784481582:=Nat
def tw3893326469851355098:=Nat
def tw6521749716990822585:=Nat
def tw17473348024485037039:=Nat
def tw12485195152620904253:=Nat
def tw14977126522900076201:=Nat
def tw5811889128402170748:=Nat
def tw16098960109748417179:=Nat
def tw11213449037328590440:=Nat
def tw6245297150748540385:=Nat
def tw3508645482247380757:=Nat
def tw15361436855528348399:=Nat
def tw497157336769296458:=Nat
def tw15295767919956524947:=Nat
def tw10782851015854388768:=Nat
def tw13640496120027448396:=Nat
def tw2758012227333332696:=Nat
def tw7741598739351452381:=Nat
def tw1650141495727001237:=Nat
def tw6867117722617316688:=Nat
def tw10294122939221338741:=Nat
def tw11857404896654393880:=Nat
def tw12391365548369117076:=Nat
def tw16961182650634833947:=Nat
def tw1257302859679796627:=Nat
def tw8839168878427550675:=Nat
def tw14485670251145866011:=Nat
def tw5296538122436867961:=Nat
def tw11896011951411873332:=Nat
def tw9773389545259756041:=Nat
def tw3191630886171804155:=Nat
def tw8653216121710994303:=Nat
def tw7023278555065222186:=Nat
def tw8682971531514115471:=Nat
def tw13286480220703852151:=Nat
def tw5726099661726250212:=Nat
def tw17572315042087397329:=Nat
def tw1606704336518522427:=Nat
def tw4877088148864983947:=Nat
def tw4998938505810166463:=Nat
def tw8524841799164550558:=Nat
def tw13567956590081982766:=Nat
def tw17823379608301178079:=Nat
def tw3049200006086116854:=Nat
def tw296876467227622472:=Nat
def tw9371369906032307178:=Nat
def tw10685595378413054690:=Nat
def tw6377007268313776700:=Nat
def tw13862382655225604974:=Nat
def tw3751729889882317543:=Nat
def tw15249060640985267350:=Nat
def tw9261153098611637817:=Nat
def tw1401929694588793837:=Nat
def tw12837293811826015552:=Nat
def tw10392283639743370017:=Nat
def tw11842547952862411301:=Nat
def tw11782310190889480415:=Nat
def tw7591005257487353624:=Nat
def tw2845900889541718339:=Nat
def tw490724248439990978:=Nat
def tw13450472904131339847:=Nat
def tw9352127768126692:=Nat
def tw15949027363660294646:=Nat
def tw17748547333777668184:=Nat
def tw4474485873358574026:=Nat
def tw7713343990657983933:=Nat
def tw953261982039740447:=Nat
def tw10406627033270378445:=Nat
def tw17425327030537895056:=Nat
def tw7046775891116766597:=Nat
def tw2401896391344525829:=Nat
def tw7801930902795280808:=Nat
def tw17756287185398739676:=Nat
def tw11544205495387817540:=Nat
def tw12571884552220791114:=Nat
def tw12204833222052850953:=Nat
def tw13658140148708738021:=Nat
def tw14778755819787261521:=Nat
def tw1645473502447094265:=Nat
def tw4170540947487882265:=Nat
def tw6390745683554466446:=Nat
def tw1009723269125395552:=Nat
def tw8820505810566752166:=Nat
def tw823017399457087649:=Nat
def tw14072847887863898909:=Nat
def tw17191833119546802145:=Nat
def tw6207200068830184591:=Nat
def tw15680893255268758857:=Nat
def tw1292073900542884806:=Nat
def tw12701904177757983454:=Nat
def tw7877697599967061254:=Nat
def tw2767335968028800259:=Nat
def tw13627651097855801082:=Nat
def tw7115184660768787538:=Nat
def tw3449123628357741857:=Nat
def tw14032734232361934268:=Nat
def tw6486791032374016203:=Nat
def tw968107498622043021:=Nat
def tw14538288668664676416:=Nat
def tw13490435424538067008:=Nat
def tw2333595510272066831:=Nat
def tw10480937855813440145:=Nat
def tw2463815617891638398:=Nat
def tw14728547046545708939:=Nat
def tw13954170777917658621:=Nat
def tw15887522953266833333:=Nat
def tw1600496026285769018:=Nat
def tw11020786105206521:=Nat
def tw8791652177944547484:=Nat
def tw10403189397227067569:=Nat
def tw6385461007540986408:=Nat
def tw3067398148782658461:=Nat
def tw184604256051235877:=Nat
def tw2931024089110601026:=Nat
def tw16775550448511090757:=Nat
def tw17579422601057525835:=Nat
def tw14733520690977107240:=Nat
def tw16668506617640018163:=Nat
def tw14563567709788497007:=Nat
def tw4130971775938794977:=Nat
def tw17976443332808068353:=Nat
def tw2061943418180525699:=Nat
def tw4418993674199573505:=Nat
def tw6857740755559912315:=Nat
def tw8708483089808527315:=Nat
def tw4015629358254880876:=Nat
def tw15842983388185107552:=Nat
def tw10841497719829743514:=Nat
def tw16881924380425784424:=Nat
def tw7959620413332097497:=Nat
def tw8489635622580108276:=Nat
def tw8169868747458652655:=Nat
def tw15317800868842411171:=Nat
def tw7938308410281785342:=Nat
def tw6982745550271278695:=Nat
def tw1054647036667169358:=Nat
def tw12264620251215821679:=Nat
def tw8827893840037050018:=Nat
def tw7377352717302946736:=Nat
def tw12318104201460925054:=Nat
def tw13917550800357768693:=Nat
def tw15819958435809666771:=Nat
def tw8538966833106837455:=Nat
def tw3557812116277094320:=Nat
def tw7095959190244580005:=Nat
def tw8278757653072102563:=Nat
def tw16163785697926547037:=Nat
def tw9184162894484390935:=Nat
def tw1571718506293061829:=Nat
def tw5478830599932399901:=Nat
def tw8747885220678883832:=Nat
def tw6429818996392239969:=Nat
def tw11129110589453985951:=Nat
def tw11504388571757833743:=Nat
def tw9244044307543783294:=Nat
def tw5471855899312673412:=Nat
def tw7116802757062725686:=Nat
def tw2054464418699776027:=Nat
def tw12083036164135225971:=Nat
def tw1350788584105838977:=Nat
def tw7979087787443221108:=Nat
def tw10392860227245868482:=Nat
def tw8275694665155618624:=Nat
def tw7710743102020080762:=Nat
def tw5231241994082648850:=Nat
def tw10863516895103346482:=Nat
def tw14250706072260109667:=Nat
def tw12807334132790853258:=Nat
def tw3173540114366353630:=Nat
def tw3117816003768489271:=Nat
def tw1200908162022853845:=Nat
def tw4004653238250027031:=Nat
def tw10148295686705297136:=Nat
def tw685259705275559382:=Nat
def tw17862039788744713525:=Nat
def tw16725791810902815318:=Nat
def tw13792326480010344588:=Nat
def tw14373157940998350572:=Nat
def tw66945052059345281:=Nat
def tw15873352364344799279:=Nat
def tw8583232755254465349:=Nat
def tw9160800291945360299:=Nat
def tw4716998090600646833:=Nat
def tw4131978569279692415:=Nat
def tw15767499641497607480:=Nat
def tw10570422491047904748:=Nat
def tw17785140089830378079:=Nat
end PySem.W.Fast
section
namespace L2
open PySem PySem.Spec PyProof.Rows
abbrev Key:=Sum Int t6
def dF:Key->KB->Bool
 |.inl k,v=>Value.isInt k v
 |.inr x,v=>Value.isStrOf x v
def keyH(w:QL):Key->Int
 |.inl k=>hashInt k
 |.inr x=>hashStr w x
def keyIs_shape:∀{k:Key} {v:KB},dF k v=true->(∃i t,k=Sum.inl i/\v=Value.int i t)\/(∃x t,k=Sum.inr x/\v=Value.str x t)
 |.inl i,v,h=>by
  obtain⟨t,e⟩:=Value.isInt_shape (k:=i) (v:=v) h;exact .inl #[i,t,rfl,e]
 |.inr x,v,h=>by
  obtain⟨t,e⟩:=Value.isStrOf_shape (x:=x) (v:=v) h;exact .inr #[x,t,rfl,e]
def uu(i:Int)(t:Tok):dF (.inl i) (.int i t)=true:=by simp[dF,Value.isInt]
def uv(x:t6)(t:Tok):dF (.inr x) (.str x t)=true:=by simp[dF,Value.isStrOf]
def uw(a b:Int):decide ((Sum.inl a:Key)=Sum.inl b)=(a==b):=by
 by_cases e:a=b
 .subst e;simp
 .have h:¬(Sum.inl a:Key)=Sum.inl b:=λq=>e (Sum.inl.inj q);rw[decide_eq_false h];exact(beq_eq_false_iff_ne.mpr e).symm
def ux(a b:t6):decide ((Sum.inr a:Key)=Sum.inr b)=decide (a=b):=by
 by_cases e:a=b
 .subst e;simp
 .have h:¬(Sum.inr a:Key)=Sum.inr b:=λq=>e (Sum.inr.inj q);rw[decide_eq_false h,decide_eq_false e]
def uy(a:Int)(b:t6):decide ((Sum.inl a:Key)=Sum.inr b)=false:=decide_eq_false (λq=>nomatch q)
def uz(a:t6)(b:Int):decide ((Sum.inr a:Key)=Sum.inl b)=false:=decide_eq_false (λq=>nomatch q)
def bH(prog:QH)(w:QL):PySem.KeyKind prog w Key where
 is:=dF
 hash:=keyH w
 inj:=λv a b ha hb=>by
  rcases keyIs_shape ha with⟨i,t,rfl,rfl⟩|⟨x,t,rfl,rfl⟩
  .rcases keyIs_shape hb with⟨j,u,rfl,e⟩|⟨y,u,rfl,e⟩
   .injection e with e1 _;rw[e1]
   .exact nomatch e
  .rcases keyIs_shape hb with⟨j,u,rfl,e⟩|⟨y,u,rfl,e⟩
   .exact nomatch e
   .injection e with e1 _;rw[e1]
 byValue:=λk v h=>by
  rcases keyIs_shape h with⟨i,t,rfl,rfl⟩|⟨x,t,rfl,rfl⟩<;>rfl
 pyHash:=λhv h=>by
  rcases keyIs_shape hv with⟨i,t,rfl,rfl⟩|⟨x,t,rfl,rfl⟩
  .exact wpAny_pyHash_int h
  .exact wpAny_pyHash_str h
 eqBool:=λhu hv h=>by
  rcases keyIs_shape hu with⟨i,t,rfl,rfl⟩|⟨x,t,rfl,rfl⟩
  .rcases keyIs_shape hv with⟨j,u,rfl,rfl⟩|⟨y,u,rfl,rfl⟩
   .rw[uw]at h;exact wpAny_eqBool_int h
   .rw[uy]at h;exact SeqAt.EqAt.int_str i t y u _ _ _ _ h
  .rcases keyIs_shape hv with⟨j,u,rfl,rfl⟩|⟨y,u,rfl,rfl⟩
   .rw[uz]at h;exact SeqAt.EqAt.str_int x t j u _ _ _ _ h
   .rw[ux]at h;exact wpAny_eqBool_str h
 «strs»:=λk x t v h=>by
  rcases keyIs_shape h with⟨i,u,rfl,e⟩|⟨y,u,rfl,e⟩
  .exact nomatch e
  .injection e with e1 _;subst e1;cases v<;>rfl
def mixKind_int(prog:QH)(w:QL)(i:Int)(t:Tok):(bH prog w).is (.inl i) (.int i t)=true:=uu i t
def va(prog:QH)(w:QL)(x:t6)(t:Tok):(bH prog w).is (.inr x) (.str x t)=true:=uv x t
inductive V where
 |non|bl (b:Bool)|int (i:Int)|str (x:Str)|byt (b:Array UInt8)|flt (b:UInt64)|ref (a:KF)|ty (n:String)
 deriving DecidableEq
def RelV:V->KB->Prop
 |.non,u=>u=Value.none
 |.bl b,u=>u=Value.bool b
 |.int i,u=>∃t,u=Value.int i t
 |.str x,u=>∃t,u=Value.str x t
 |.byt b,u=>∃t,u=Value.bytes b t
 |.flt b,u=>∃t,u=Value.float b t
 |.ref a,u=>u=Value.ref a
 |.ty n,u=>u=Value.type n
abbrev Vals:List V->List KB->Prop:=Paired RelV
variable{xs:List V}{us:List KB}
def Vals.length(r:Vals xs us):xs.length=us.length:=Paired.length r
def Vals.get:∀{xs:List V} {us:List KB} {i:Nat} {x:V},Vals xs us->xs[i]?=be x->∃u,us[i]?=be u/\RelV x u
 |_,_,_,_,.nil,e=>by simp at e
 |_,_,0,_,.cons r _,e=>by simp at e;subst e;exact#[_,rfl,r]
 |_,_,i+1,x,.cons _ t,e=>by
  obtain⟨u,h1,h2⟩:=Vals.get (i:=i) (x:=x) t (by simpa using e);exact#[u,by simpa using h1,h2]
def Vals.set{x:V}{u:KB}(r:RelV x u):∀{xs:List V} {us:List KB} (i:Nat),Vals xs us->Vals (xs.set i x) (us.set i u)
 |_,_,_,.nil=>.nil
 |_,_,0,.cons _ t=>.cons r t
 |_,_,i+1,.cons q t=>.cons q (Vals.set r i t)
def Vals.append:∀{xs ys:List V} {us ws:List KB},Vals xs us->Vals ys ws->Vals (xs++ys) (us++ws):=by
 intro xs ys us ws h s;induction h with
 |nil=>exact s
 |cons r _ e=>exact .cons r e
def Vals.take:∀{xs:List V} {us:List KB} (n:Nat),Vals xs us->Vals (xs.take n) (us.take n)
 |_,_,0,_=>.nil
 |_,_,_+1,.nil=>.nil
 |_,_,n+1,.cons r t=>.cons r (Vals.take n t)
def Vals.drop:∀{xs:List V} {us:List KB} (n:Nat),Vals xs us->Vals (xs.drop n) (us.drop n)
 |_,_,0,r=>r
 |_,_,_+1,.nil=>.nil
 |_,_,n+1,.cons _ t=>Vals.drop n t
def RelO:Option V->Option KB->Prop
 |some v,be u=>RelV v u
 |none,m_=>True
 |_,_=>False
def KV{κ:Type}:List (κ×V)->List (κ×KB)->Prop:=Paired λ(p:κ×V) (q:κ×KB)=>p.1=q.1/\RelV p.2 q.2
def kV:Key->V
 |.inl i=>.int i
 |.inr x=>.str x
inductive HO where
  |lst (xs:List V)
  |tup (xs:List V)
  |dK (a8:List (Key×V))|dT (a8:List (List Key×V))
  |set (S:Int->Bool) (n:Nat)
  |ins (C dx:KF) (fs:List (t6×V))
  |own (x:KF)
  |xd (fs:List (t6×V))
  |met (f x:KF)
  |rng (lo hi:Int)
  |frz (o:QY) (u:HO)
  |tbl (ps:Array KB)
  |ext (φ:QN->Prop)
abbrev Hp:=KF->Option HO
def upd(H:Hp)(a:KF)(o:HO):Hp:=λb=>if b=a then be o else H b
variable{H:Hp}{a:KF}{o:HO}
def aG:upd H a o a=be o:=by unfold upd;rw[if_pos rfl]
variable{b:KF}
def ay(h:b≠a):upd H a o b=H b:=by unfold upd;rw[if_neg h]
def vb{u:HO}(h:H a=be o)(h':H b=be u)(d:o≠u):a≠b:=by
 intro e;subst e;rw[h]at h';exact d (Option.some.inj h')
def cJ(h:H a=be o)(h':H b=m_):a≠b:=by
 intro e;subst e;rw[h]at h';cases h'
section
variable (P:QH)(w:QL)
def ObjOk(H:Hp)(h:QN)(a:KF):HO->Prop
 |.lst xs=>xs.length<=sizeLine/\∃(its:List KB) (n:Nat),Vals xs its/\h.get? a=be {cls:=.type "list",data:=.seq its.toArray n}
 |.tup xs=>xs.length<=sizeLine/\∃its:List KB,Vals xs its/\IsTup h a its.toArray
 |.dK a8=>a8.length<=sizeLine/\(a==Q7)=false/\∃vs,KV a8 vs/\h.DictOf (bH P w) a vs
 | .dT a8=>a8.length<=sizeLine/\(a==Q7)=false/\∃xs:List (List Key×KF×KB),
   Paired (λ(p:List Key×V) (q:List Key×KF×KB)=>p.1=q.1/\H q.2.1=be (.tup (p.1.map kV))/\RelV p.2 q.2.2) a8 xs/\
   ∃o es ep,h.get? a=be o/\o.ExactDict/\o.data=.dict es ep/\es.toList=xs.map (entryOfKey (Rv (bH P w)))/\(xs.map (·.1)).Nodup
 |.set S n=>h.SetOf (intKind P w) a S n
 | .ins C dx fs=>H dx=be (.own a)/\fs.length<=1000/\dx≠a/\h.get? a=be (instObj C dx)/\
   ∃mA,h.Ns1 dx mA/\(∀f,RelO (fs.lookup f) (mA f))/\PySem.Within mA (fs.map (·.1))
 |.own _=>∃o,h.get? a=be o
 |.xd fs=>∃mA,h.Ns1 a mA/\∀f,RelO (fs.lookup f) (mA f)
 |.rng lo hi=>∃t u v,h.get? a=be {cls:=.type "range",data:=.fields [.int lo t,.int hi u,.int 1 v].toArray}
 |.frz o u=>h.get? a=be o/\ObjOk H h a u
 |.tbl ps=>h.get? a=be {cls:=.none,data:=.fields ps}
 |.met f x=>h.get? a=be (methodObj (.ref f) (.ref x))
 |.ext φ=>φ h/\(∃o,h.get? a=be o)/\∀h1 h2:QN,φ h1->(∀o,h1.get? a=be o->h2.get? a=be o)->φ h2
def HOk(H:Hp)(h:QN):Prop:=∀a o,H a=be o->ObjOk P w H h a o
end
section
variable {P:QH}{w:QL}{H H':Hp}{h h':QN}{a:KF}{o:HO}
def ObjOk.lt(x:ObjOk P w H h a o):a<h.objs.size:=by
 cases o with
 |lst xs=>obtain⟨_,_,_,_,e⟩:=x;exact Heap.lt_size e
 |tup xs=>obtain⟨_,_,_,p⟩:=x;exact p.lt
 |dK a8=>obtain⟨_,_,_,_,o,_,_,e,_⟩:=x;exact Heap.lt_size e
 |dT a8=>obtain⟨_,_,_,_,o,_,_,e,_⟩:=x;exact Heap.lt_size e
 |set S n=>obtain⟨o,_,_,_,e,_⟩:=x;exact Heap.lt_size e
 |ins C dx fs=>obtain⟨_,_,_,e,_⟩:=x;exact Heap.lt_size e
 |own y=>obtain⟨_,e⟩:=x;exact Heap.lt_size e
 |xd fs=>obtain⟨_,⟨_,_,_,e,_⟩,_⟩:=x;exact Heap.lt_size e
 |rng lo hi=>obtain⟨_,_,_,e⟩:=x;exact Heap.lt_size e
 |frz ob u=>obtain⟨e,_⟩:=x;exact Heap.lt_size e
 |tbl ps=>exact Heap.lt_size (show h.get? a=be _ from x)
 |met f y=>exact Heap.lt_size (show h.get? a=be _ from x)
 |ext φ=>obtain⟨_,⟨_,e⟩,_⟩:=x;exact Heap.lt_size e
def Paired.mapP{α β:Type}{F G:α->β->Prop}:∀{l₁:List α} {l₂:List β},Paired F l₁ l₂->(∀a b,F a b->G a b)->Paired G l₁ l₂:=by
 intro l₁ l₂ h f;induction h with
 |nil=>exact .nil
 |cons r _ e=>exact .cons (f _ _ r) e
def ObjOk.stay(x:ObjOk P w H h a o)(k:∀b u,(b=a\/H b=be (.own a))->h.get? b=be u->h'.get? b=be u)
  (ho:∀b,H b=be (.own a)->H' b=be (.own a)) (ht:∀b xs,H b=be (.tup xs)->H' b=be (.tup xs)):ObjOk P w H' h' a o:=by
 induction o with
 |lst xs=>obtain⟨z,its,n,r,e⟩:=x;exact#[z,its,n,r,k _ _ (.inl rfl) e]
 |tup xs=>obtain⟨z,its,r,ob,e,c⟩:=x;exact#[z,its,r,ob,k _ _ (.inl rfl) e,c]
 |dK a8=>obtain⟨z,y,vs,r,ob,es,ep,e,c⟩:=x;exact#[z,y,vs,r,ob,es,ep,k _ _ (.inl rfl) e,c]
 |dT a8=>
  obtain⟨z,y,xs,r,ob,es,ep,e,c⟩:=x;exact#[z,y,xs,Paired.mapP r λp q z=>#[z.1,ht _ _ z.2.1,z.2.2],ob,es,ep,k _ _ (.inl rfl) e,c]
 |set S n=>obtain⟨ob,es,ep,t,e,c⟩:=x;exact#[ob,es,ep,t,k _ _ (.inl rfl) e,c]
 |ins C dx fs=>
  obtain⟨d,z,ne,e,mA,⟨od,es,ep,e2,c⟩,r⟩:=x;exact#[ho _ d,z,ne,k _ _ (.inl rfl) e,mA,#[od,es,ep,k _ _ (.inr d) e2,c],r]
 |own y=>obtain⟨ob,e⟩:=x;exact#[ob,k _ _ (.inl rfl) e]
 |xd fs=>obtain⟨mA,⟨od,es,ep,e,c⟩,r⟩:=x;exact#[mA,#[od,es,ep,k _ _ (.inl rfl) e,c],r]
 |rng lo hi=>obtain⟨t,u,v,e⟩:=x;exact#[t,u,v,k _ _ (.inl rfl) e]
 |frz ob u ih=>obtain⟨e,q⟩:=x;exact#[k _ _ (.inl rfl) e,ih q]
 |tbl ps=>
  have e:h.get? a=be {cls:=.none,data:=.fields ps}:=x;show h'.get? a=be {cls:=.none,data:=.fields ps};exact k a _ (.inl rfl) e
 |met f y=>
  have e:h.get? a=be (methodObj (.ref f) (.ref y)):=x;show h'.get? a=be (methodObj (.ref f) (.ref y));exact k a _ (.inl rfl) e
 |ext φ=>obtain⟨p,⟨o,e⟩,st⟩:=x;exact#[st _ _ p λo q=>k _ _ (.inl rfl) q,#[o,k _ _ (.inl rfl) e],st]
def HOk.lt(x:HOk P w H h)(e:H a=be o):a<h.objs.size:=(x a o e).lt
def HOk.fresh(x:HOk P w H h)(e:h.objs.size<=a):H a=none:=by
 cases q:H a with
 |none=>rfl
 |some u=>exact absurd (Fz (x.lt q) e) (Gc _)
def HOk.kept(x:HOk P w H h)(k:∀b u,h.get? b=be u->h'.get? b=be u):HOk P w H h':=λa o e=>
 (x a o e).stay (λb u _ q=>k b u q) (λ_ q=>q) λ_ _ q=>q
def HOk.laid(x:HOk P w H h)(k:∀b u,h.get? b=be u->h'.get? b=be u)(hp:h.objs.size<=a)(new:ObjOk P w (upd H a o) h' a o):HOk P w (upd H a o) h':=λb u e=>by
 have hn:=x.fresh hp;by_cases hb:b=a
 .subst hb;rw[aG]at e;cases e;exact new
 .rw[ay hb]at e;exact(x b u e).stay (λc v _ q=>k c v q) (λc q=>by rw[ay (cJ q hn)];exact q) λc xs q=>by rw[ay (cJ q hn)];exact q
end
def Rd(H:Hp)(a:KF)(u:HO):Prop:=H a=be u\/∃o,H a=be (.frz o u)
def Rd.of{u:HO}(h:H a=be u):Rd H a u:=.inl h
variable{P:QH}{w:QL}{h:QN}
def Rd.ok{u:HO}(r:Rd H a u)(x:HOk P w H h):ObjOk P w H h a u:=by
 rcases r with r|⟨o,r⟩
 .exact x a u r
 .obtain⟨_,q⟩:=x a _ r;exact q
def Mut:Option HO->Prop
 |some (.lst _)=>True
 |some (.dK _)=>True
 |some (.dT _)=>True
 |some (.set _ _)=>True
 |some (.ins _ _ _)=>True
 |some (.ext _)=>True
 |_=>False
section
variable {P:QH}{w:QL}{H:Hp}{h h':QN}{x e:KF}{o':HO}
def HOk.write(ok:HOk P w H h)(mu:Mut (H x))(he:e=x\/H e=be (.own x))(k:∀b u,b≠e->h.get? b=be u->h'.get? b=be u)(v7:∃u,h'.get? e=be u)
  (new:ObjOk P w (upd H x o') h' x o'):HOk P w (upd H x o') h':=λb u q=>by
 have JU:∀c y,H c=be (.own y)->c≠x:=λc y r z=>by subst z;rw[r]at mu;exact mu
 have Lg:∀c xs,H c=be (.tup xs)->c≠x:=λc xs r z=>by subst z;rw[r]at mu;exact mu
 by_cases hb:b=x
 .subst hb;rw[aG]at q;cases q;exact new
 .rw[ay hb]at q;by_cases IP:b=e
  .have q':H b=be (.own x):=by
    rcases he with z|z
    .exact absurd (IP.trans z) hb
    .rw[IP];exact z
   rw[q]at q';cases q';obtain⟨v,hv⟩:=v7;exact#[v,by rw[IP];exact hv]
  .refine(ok b u q).stay (λc v hc r=>k c v ?_ r) (λc r=>by rw[ay (JU c b r)];exact r) λc xs r=>by rw[ay (Lg c xs r)];exact r
   rcases hc with rfl|hc
   .exact IP
   .rintro rfl;rcases he with z|z
    .exact JU c b hc z
    .rw[hc]at z;cases z;exact hb rfl
end
structure Un(fs ex:List KF)(H H':Hp)(h h':QN):Prop where
 keep:∀b o,h.get? b=be o->H b=m_->b∉fs->b∉ex->h'.get? b=be o
 slot:∀b o,h.get? b=be o->H b=m_->b∈fs->b∉ex->∃sl,h'.get? b=be {o with slots:=sl}
 free:∀b o,h.get? b=be o->H b=m_->b∉ex->H' b=m_
 there:∀b o,h.get? b=be o->b∉ex->∃o',h'.get? b=be o'
 tups:∀b xs,H b=be (.tup xs)->H' b=be (.tup xs)
 frzs:∀b o u,H b=be (.frz o u)->H' b=be (.frz o u)
 tbls:∀b ps,H b=be (.tbl ps)->∃more,H' b=be (.tbl (ps++more))
section
variable {fs l5 ex Nl:List KF}{H H1 H2:Hp}{h h1 h2 h':QN}{a x e:KF}{o:HO}
def Un.any(u:Un fs ex H H1 h h1){b:KF}{ob:QY}(q:h.get? b=be ob)(n:H b=m_)(hx:b∉ex):∃sl,h1.get? b=be {ob with slots:=sl}:=by
 by_cases hb:b∈fs
 .exact u.slot b ob q n hb hx
 .exact#[ob.slots,u.keep b ob q n hb hx]
def Un.kept(k:∀b u,h.get? b=be u->h'.get? b=be u):Un fs ex H H h h':=
 #[λb ob q _ _ _=>k b ob q,λb ob q _ _ _=>#[ob.slots,k b ob q],λ_ _ _ n _=>n,λb ob q _=>#[ob,k b ob q],λ_ _ q=>q,λ_ _ _ q=>q,λ_ ps q=>#[[].toArray,by rw[q];simp]]
def Un.refl:Un fs ex H H h h:=Un.kept λ_ _ q=>q
def Un.laid(k:∀b u,h.get? b=be u->h'.get? b=be u)(hp:h.objs.size<=a)(hn:H a=m_):Un fs ex H (upd H a o) h h' where
 keep:=λb u q _ _ _=>k b u q
 slot:=λb u q _ _ _=>#[u.slots,k b u q]
 free:=λb u q n _=>by rw[ay (Ff (Fz (Heap.lt_size q) hp))];exact n
 there:=λb u q _=>#[u,k b u q]
 tups:=λb xs q=>by rw[ay (cJ q hn)];exact q
 frzs:=λb u xs q=>by rw[ay (cJ q hn)];exact q
 tbls:=λb ps q=>#[[].toArray,by rw[ay (cJ q hn),q];simp]
def Un.write(mu:Mut (H x))(he:e=x\/H e=be (.own x))(k:∀b u,b≠e->h.get? b=be u->h'.get? b=be u)(v7:∃u,h'.get? e=be u):Un fs ex H (upd H x o) h h':=by
 have hx:∀b,H b=m_->b≠x:=λb n z=>by subst z;rw[n]at mu;exact mu
 have hb:∀b,H b=m_->b≠e:=λb n z=>by
  subst z;rcases he with r|r
  .exact hx b n r
  .rw[n]at r;cases r
 have hm:∀b u,H b=be u->¬Mut (be u)->b≠x:=λb u q nm z=>by subst z;rw[q]at mu;exact nm mu
 refine⟨λb u q n _ _=>k b u (hb b n) q,λb u q n _ _=>#[u.slots,k b u (hb b n) q],λb u q n _=>by rw[ay (hx b n)];exact n,λb u q _=>?_,
  λb xs q=>by rw[ay (hm b _ q λz=>z)];exact q,λb u xs q=>by rw[ay (hm b _ q λz=>z)];exact q,λb ps q=>#[[].toArray,by rw[ay (hm b _ q λz=>z),q];simp]⟩
 by_cases IP:b=e
 .subst IP;exact v7
 .exact#[u,k b u IP q]
end
def trk(h:QN)(H:Hp):List KF:=(E7 h.objs.size).filter λa=>(H a).isSome
def hidT(h:QN)(H:Hp):QN:=hideAll h (trk h H)
def vc(h:QN)(H:Hp):(hidT h H).objs.size=h.objs.size:=hideAll_size _ _
def vd{o:QY}(e:h.get? b=be o)(n:H b=m_):(hidT h H).get? b=be o:=
 hideAll_get _ e λhm=>by
  have q:(H b).isSome=true:=(Ho.mp hm).2;rw[n]at q;simp at q
def ve{o:QY}(e:(hidT h H).get? b=be o):h.get? b=be o/\H b=none:=by
 have e':h.get? b=be o:=of_hideAll (trk h H) e;refine#[e',?_];cases q:H b with
 |none=>rfl
 |some x=>
  have hm:b∈trk h H:=Ho.mpr #[List.mem_range.mpr (Heap.lt_size e'),by simp[q]];have z:(hidT h H).get? b=none:=hideAll_none (trk h H) hm;rw[z]at e;cases e
def allNews(g h:QN)(L:KF):List (KF×QY):=(E7 h.objs.size).filterMap λa=>if a=L\/(g.get? a).isSome=true then m_ else(h.get? a).map λo=>(a,o)
def rest(g h:QN)(L d:KF):List (KF×QY):=(allNews g h L).filter λp=>decide (p.1≠d)
structure Mod(K:Ex)(mg:Str->Option KB)(base:QN):Prop where
 kin:K.In base
 glob:base.Ns Pi mg
 blt:∃mb,base.Ns Sj mb/\∀x:t6,x≠"__name__"->mb x=QZ x
 nolimit:base.NoLimit
structure Cx where
 prog:QH
 w:QL
 K:Ex
 mg:t6->Option KB
 base:QN
 A:QM
 N:List t6
 s₀:KM
 H₀:Hp
 env:Rt
 outer:List Rt
 stack:List Rt
 ex:List KF
 fn:t6->Bool
 calm:Bool
 pn:List (KF×QY)
 xe:KB->KM->Prop
abbrev zSE(X:Cx)(e:QG)(es:List QG):Prop:=QP (e::es) X.env=(false,QS e X.env)::QP es X.env
abbrev zPL(X:Cx)(p:QT)(es:List QG):Prop:=(Rm p (QP es X.env)).any (·.1)=false
abbrev zHF(X:Cx)(p:QT)(es:List QG):Prop:=((Rm p (QP es X.env)).all (λx=>!x.1)&&(RK p (Rq [] X.env)).all (λx=>x.1.isSome)&&decide (es.length+([]:List RE).length+(if([]:List RE).isEmpty then 0 else 1)<30))=true
abbrev zFN(X:Cx)(x:t6):Prop:=X.fn x=true\/X.env.scope.names.lookup x=be .local
abbrev zND(x:t6):Prop:=(x==("__debug__":t6))=false
abbrev zNC(x:t6):Prop:=(x==("__classdict__":t6))=false
abbrev zFS(X:Cx)(e:QG)(y:KB):Prop:=Sm e X.env y=pure y
def frs(l:List Rt):List KF:=l.filterMap (·.frame)
abbrev Cx.fs(X:Cx):List KF:=frs X.outer
def Vis(sc:Q9)(x:t6):Prop:=sc.names.lookup x=be .local\/sc.names.lookup x=be .cell\/sc.names.lookup x=be .free
def Loc(sc:Q9)(x:t6):Prop:=sc.names.lookup x=be .local\/sc.names.lookup x=be .cell
def Look(env:Rt)(h:QN)(m:t6->Option KB)(x:t6)(u:KB):Prop:=
 (env.kindOf x=be .local/\m x=be u)\/((env.kindOf x=be .cell\/env.kindOf x=be .free)/\∃c,env.cells.lookup x=be c/\h.IsCell c (be u))
structure Cx.Ok(X:Cx):Prop where
 mod:Mod X.K X.mg X.base
 kind:X.env.scope.kind=.function
 glob:X.env.globals=Pi
 blt:X.env.builtins=Sj
 above:X.s₀.heap.objs.size<=X.env.locals
 inj:∀x y c,X.env.cells.lookup x=be c->X.env.cells.lookup y=be c->x=y
 has:∀x,(X.env.kindOf x=be .cell\/X.env.kindOf x=be .free)->∃c,X.env.cells.lookup x=be c
 cab:∀x c,X.fn x=true->X.env.cells.lookup x=be c->X.s₀.heap.objs.size<=c
 hd:X.calm=true->X.A.handled=m_
 frames:X.A.frames=be X.stack
 stk:X.stack=X.outer\/(X.stack=X.env::X.outer/\X.env.frame=be X.env.locals)
 exf:∀b∈X.ex,b≠X.env.locals/\∀x c,X.env.cells.lookup x=be c->c≠b
 bs:∀b o,X.base.get? b=be o->X.s₀.heap.get? b=be o/\X.H₀ b=m_
 bsz:X.base.objs.size<=X.s₀.heap.objs.size
 noex:∀b o,X.base.get? b=be o->b∉X.ex
 exfs:∀b∈X.ex,b∉X.fs
 funs:X.s₀.heap.FunFrames X.base X.outer
 frf:∀b∈X.fs,X.H₀ b=m_
structure Inv(X:Cx)(pins:List (KF×QY))(σ:List (Option V))(H:Hp)(s:KM):Prop where
 ok:X.Ok
 os:s.os=X.s₀.os
 bare:Ru s.gens
 base:Un X.fs X.ex X.H₀ H X.s₀.heap s.heap
 loc:∃m,s.heap.Ns X.env.locals m/\∀(i:Nat) (x:t6) (v:V),X.N[i]?=be x->σ[i]?=be (be v)->Vis X.env.scope x->∃u,RelV v u/\Look X.env s.heap m x u
 cell:∀x c,X.env.cells.lookup x=be c->∃v,s.heap.IsCell c v
 free:H X.env.locals=m_
 freeC:∀x c,X.env.cells.lookup x=be c->H c=m_
 pin:∀p∈X.pn++pins,s.heap.get? p.1=be p.2/\H p.1=m_/\p.1≠X.env.locals/\p.1∉X.fs/\∀v,p.2.data≠.cell v
 hok:HOk X.prog X.w H s.heap
 len:σ.length=X.N.length
section
variable {X:Cx}{pins:List (KF×QY)}{σ:List (Option V)}{H H':Hp}{s:KM}{h':QN}
def Cx.Ok.nofr(ok:X.Ok){b:KF}{o:QY}(e:X.base.get? b=be o):b∉X.fs:=λhb=>by
 have:=(ok.funs.mem hb).1;rw[e]at this;cases this
def Inv.bs(I:Inv X pins σ H s):∀b o,X.base.get? b=be o->s.heap.get? b=be o/\H b=none:=λb o e=>
 #[I.base.keep b o (I.ok.bs b o e).1 (I.ok.bs b o e).2 (I.ok.nofr e) (I.ok.noex b o e),I.base.free b o (I.ok.bs b o e).1 (I.ok.bs b o e).2 (I.ok.noex b o e)]
def Inv.bk(I:Inv X pins σ H s):∀b o,X.base.get? b=be o->s.heap.get? b=be o:=λb o e=>(I.bs b o e).1
def Inv.mod(I:Inv X pins σ H s):Mod X.K X.mg X.base:=I.ok.mod
def Inv.kIn(I:Inv X pins σ H s):X.K.In s.heap:=I.ok.mod.kin.keeps I.bk
def Inv.nolimit(I:Inv X pins σ H s):s.heap.NoLimit:=I.ok.mod.nolimit.keeps I.bk
def Inv.fr(I:Inv X pins σ H s):∃m,Fr X.base X.env.locals s.heap m:=
 let ⟨m,hn,_⟩:=I.loc
 #[m,hn,I.bk,Fh I.ok.bsz I.ok.above]
def Inv.lt(I:Inv X pins σ H s):X.env.locals<s.heap.objs.size:=let ⟨_,hn,_⟩:=I.loc;hn.lt
def Inv.sz(I:Inv X pins σ H s):X.s₀.heap.objs.size<=s.heap.objs.size:=Fh I.ok.above (GC I.lt)
def Inv.nofs(I:Inv X pins σ H s){a:KF}(h:s.heap.objs.size<=a):a∉X.fs:=λhb=>by
 obtain⟨_,o,ho,_⟩:=I.ok.funs.mem hb;exact absurd (Fz (Heap.lt_size ho) (Fh I.sz h)) (Gc _)
def Inv.cne(I:Inv X pins σ H s):∀x c,X.env.cells.lookup x=be c->c≠X.env.locals:=λx c e z=>by
 obtain⟨v,o,ho,hd⟩:=I.cell x c e;obtain⟨m,⟨o',es,ep,IQ,fI,_⟩,_⟩:=I.loc;rw[z,IQ]at ho;cases ho;rw[fI]at hd;cases hd
def Inv.funs(I:Inv X pins σ H s):s.heap.FunFrames X.base X.outer:=by
 have all:∀(l:List Rt),(∀b∈frs l,b∈X.fs)->X.s₀.heap.FunFrames X.base l->s.heap.FunFrames X.base l:=by
  intro l;induction l with
  |nil=>intro _ _;trivial
  |cons env r ih=>
   intro hs hl;obtain⟨hk,⟨L,o,hf,hn,ho,hd⟩,hr⟩:=hl;have hL:L∈X.fs:=hs L (by unfold frs;rw[GD,hf];exact Fd);obtain⟨sl,e⟩:=I.base.slot L o ho (I.ok.frf L hL) hL λz=>I.ok.exfs L z hL;exact#[hk,#[L,_,hf,hn,e,hd],ih (λb hb=>hs b (by unfold frs;rw[GD,hf];exact Fc _ hb)) hr]
 exact all X.outer (λ_ hb=>hb) I.ok.funs
def Inv.stack(I:Inv X pins σ H s):s.heap.FunFrames X.base X.stack:=by
 rcases I.ok.stk with e|⟨e,hf⟩
 .rw[e];exact I.funs
 .rw[e];obtain⟨m,hn,_⟩:=I.loc;refine .cons (by rw[I.ok.kind];decide) hf hn ?_ I.funs;exact Heap.get?_none_of_le (Fh I.ok.bsz I.ok.above)
def Inv.stkSub(I:Inv X pins σ H s):∀b∈frs X.stack,b∈X.env.locals::X.fs:=λb hb=>by
 rcases I.ok.stk with e|⟨e,hf⟩
 .rw[e]at hb;exact Fc _ hb
 .rw[e]at hb;unfold frs at hb;rw[GD,hf]at hb;exact hb
def Inv.stkFree(I:Inv X pins σ H s):∀b∈frs X.stack,H b=none:=λb hb=>by
 rcases E8.mp (I.stkSub b hb)with e|hb
 .rw[e];exact I.free
 .obtain⟨_,o,ho,_⟩:=I.ok.funs.mem hb;exact I.base.free b o ho (I.ok.frf b hb) λz=>I.ok.exfs b z hb
variable{g':Array GenState}{ch:List KF}
def Inv.step{t':Nat}{d':Drawn}(I:Inv X pins σ H s)
  (v8:∀b∈ch,(b∈X.ex\/X.s₀.heap.objs.size<=b)/\b≠X.env.locals/\(∀x c,X.env.cells.lookup x=be c->c≠b)/\∀p∈X.pn++pins,p.1≠b)
  (keep:∀b o,b≠X.env.locals->b∉X.fs->b∉ch->s.heap.get? b=be o->H b=m_->h'.get? b=be o)
  (slot:∀b o,b≠X.env.locals->b∈X.fs->b∉ch->s.heap.get? b=be o->H b=m_->∃sl,h'.get? b=be {o with slots:=sl}) (free:∀b o,b∉ch->s.heap.get? b=be o->H b=m_->H' b=m_)
  (there:∀b o,b∉ch->s.heap.get? b=be o->∃o',h'.get? b=be o')
  (tups:∀b xs,H b=be (.tup xs)->H' b=be (.tup xs)) (frzs:∀b o u,H b=be (.frz o u)->H' b=be (.frz o u)) (tbls:∀b ps,H b=be (.tbl ps)->∃more,H' b=be (.tbl (ps++more)))
  (ns:∀m,s.heap.Ns X.env.locals m->h'.Ns X.env.locals m) (hok:HOk X.prog X.w H' h') (hg:Ru g'):
  Inv X pins σ H' {s with heap:=h',gens:=g',drawn:=d',toks:=t'}:=by
 have Nm:∀b o,X.s₀.heap.get? b=be o->b≠X.env.locals:=λb o e=>Ff (Fz (Heap.lt_size e) I.ok.above);have KJ:∀b o,X.s₀.heap.get? b=be o->b∉X.ex->b∉ch:=λb o e hx hb=>by
  rcases(v8 b hb).1 with z|z
  .exact hx z
  .exact absurd (Fz (Heap.lt_size e) z) (Gc _)
 have j7:∀x c,X.env.cells.lookup x=be c->∀v,s.heap.IsCell c v->h'.IsCell c v:=λx c e v ⟨o,ho,hd⟩=>by
  have JV:c∉ch:=λz=>(v8 c z).2.2.1 x c e rfl;by_cases hc:c∈X.fs
  .obtain⟨sl,q⟩:=slot c o (I.cne x c e) hc JV ho (I.freeC x c e);exact#[_,q,hd]
  .exact#[o,keep c o (I.cne x c e) hc JV ho (I.freeC x c e),hd]
 refine#[I.ok,I.os,hg,#[λb o e n hb hx=>?_,λb o e n hb hx=>?_,λb o e n hx=>?_,λb o e hx=>?_,λb xs e=>tups b xs (I.base.tups b xs e),λb o xs e=>frzs b o xs (I.base.frzs b o xs e),λb ps e=>?_],?_,λx c e=>?_,?_,λx c e=>?_,λp hp=>?_,hok,I.len]
 .exact keep b o (Nm b o e) hb (KJ b o e hx) (I.base.keep b o e n hb hx) (I.base.free b o e n hx)
 .obtain⟨sl,e1⟩:=I.base.slot b o e n hb hx;obtain⟨s9,e2⟩:=slot b _ (Nm b o e) hb (KJ b o e hx) e1 (I.base.free b o e n hx);exact#[s9,e2]
 .obtain⟨o',e1⟩:=I.base.there b o e hx;exact free b o' (KJ b o e hx) e1 (I.base.free b o e n hx)
 .obtain⟨o',e1⟩:=I.base.there b o e hx;exact there b o' (KJ b o e hx) e1
 .obtain⟨m1,e1⟩:=I.base.tbls b ps e;obtain⟨m2,e2⟩:=tbls b _ e1;exact#[m1++m2,by rw[e2,Array.append_assoc]]
 .obtain⟨m,hn,hl⟩:=I.loc;refine#[m,ns m hn,λi x v e1 e2 e3=>?_];obtain⟨u,r,l⟩:=hl i x v e1 e2 e3;refine#[u,r,?_];rcases l with l|⟨k,c,e,z⟩
  .exact .inl l
  .exact .inr #[k,c,e,j7 x c e _ z]
 .obtain⟨v,z⟩:=I.cell x c e;exact#[v,j7 x c e v z]
 .obtain⟨m,⟨o,_,_,ho,_⟩,_⟩:=I.loc;exact free _ o (λz=>(v8 _ z).2.1 rfl) ho I.free
 .obtain⟨v,o,ho,hd⟩:=I.cell x c e;exact free c o (λz=>(v8 c z).2.2.1 x c e rfl) ho (I.freeC x c e)
 .obtain⟨e,n,ne,nf,d⟩:=I.pin p hp;have JV:p.1∉ch:=λz=>(v8 p.1 z).2.2.2 p hp rfl;exact#[keep p.1 p.2 ne nf JV e n,free p.1 p.2 JV e n,ne,nf,d]
def Inv.un{t':Nat}(I:Inv X pins σ H s)(u:Un X.fs [] H H' s.heap h')(hok:HOk X.prog X.w H' h'):Inv X pins σ H' {s with heap:=h',toks:=t'}:=by
 obtain⟨m,⟨o,es,ep,ho,r⟩,_⟩:=id I.loc;obtain⟨sl,hL⟩:=u.any ho I.free IV;exact I.step (g':=s.gens) (d':=s.drawn) (ch:=[]) (λ_ z=>nomatch z) (λb o _ hb _ e n=>u.keep b o e n hb IV) (λb o _ hb _ e n=>u.slot b o e n hb IV) (λb o _ e n=>u.free b o e n IV) (λb o _ e=>u.there b o e IV) u.tups u.frzs u.tbls (λm' hm=>by
  obtain⟨o',Lh,Li,IQ,r'⟩:=hm;rw[ho]at IQ;cases IQ;exact#[_,Lh,Li,hL,r']) hok I.bare
def Inv.call{t':Nat}{d':Drawn}(I:Inv X pins σ H s)(u:Un (frs X.stack) ch H H' s.heap h')(hok:HOk X.prog X.w H' h')(hg:Ru g')
  (v8:∀b∈ch,(b∈X.ex\/X.s₀.heap.objs.size<=b)/\b≠X.env.locals/\(∀x c,X.env.cells.lookup x=be c->c≠b)/\∀p∈X.pn++pins,p.1≠b):
  Inv X pins σ H' {s with heap:=h',gens:=g',drawn:=d',toks:=t'}:=by
 obtain⟨m,⟨o,es,ep,ho,r⟩,_⟩:=id I.loc;obtain⟨sl,hL⟩:=u.any ho I.free λz=>(v8 _ z).2.1 rfl;exact I.step (ch:=ch) v8 (λb o hL hb hc e n=>u.keep b o e n (λz=>(E8.mp (I.stkSub b z)).elim hL hb) hc) (λb o _ _ hc e n=>u.any e n hc) (λb o hc e n=>u.free b o e n hc) (λb o hc e=>u.there b o e hc) u.tups u.frzs u.tbls (λm' hm=>by
  obtain⟨o',Lh,Li,IQ,r'⟩:=hm;rw[ho]at IQ;cases IQ;exact#[_,Lh,Li,hL,r']) hok hg
def Inv.turned{t':Nat}{it:KF}(I:Inv X pins σ H s)(k:∀b o,b≠it->s.heap.get? b=be o->h'.get? b=be o)(hn:H it=m_)(hL:it≠X.env.locals)
  (h1:it∈X.ex\/X.s₀.heap.objs.size<=it) (h2:∀x c,X.env.cells.lookup x=be c->c≠it) (h3:∀p∈X.pn++pins,p.1≠it):Inv X pins σ H {s with heap:=h',toks:=t'}:=by
 have IR:∀b u,H b=be u->b≠it:=λb u e z=>by rw[z,hn]at e;cases e
 refine I.step (g':=s.gens) (d':=s.drawn) (ch:=[it]) (λb hb=>?_) (λb o _ _ hc e _=>k b o (λz=>hc (by simp[z])) e) (λb o _ _ hc e _=>#[o.slots,k b o (λz=>hc (by simp[z])) e]) (λ_ _ _ _ n=>n)
  (λb o hc e=>#[o,k b o (λz=>hc (by simp[z])) e]) (λ_ _ e=>e) (λ_ _ _ e=>e) (λb ps e=>#[[].toArray,by rw[e];simp]) (λm hm=>?_) (λb u e=>?_) I.bare
 .have e:b=it:=by simpa using hb
  subst e;exact#[h1,hL,h2,h3]
 .obtain⟨o,es,ep,ho,r⟩:=hm;exact#[o,es,ep,k _ o (Ne.symm hL) ho,r]
 .refine(I.hok b u e).stay (λc v hc q=>k c v ?_ q) (λ_ q=>q) λ_ _ q=>q;rcases hc with z|z
  .rw[z];exact IR b u e
  .exact IR c _ z
def Inv.tok(I:Inv X pins σ H s)(t:Nat):Inv X pins σ H {s with toks:=t}:=I.un (h':=s.heap) (t':=t) Un.refl I.hok
def Inv.kept{t':Nat}(I:Inv X pins σ H s)(k:∀b u,s.heap.get? b=be u->h'.get? b=be u):Inv X pins σ H {s with heap:=h',toks:=t'}:=I.un (Un.kept k) (I.hok.kept k)
def Inv.laid{a:KF}{o:HO}{t':Nat}(I:Inv X pins σ H s)(k:∀b u,s.heap.get? b=be u->h'.get? b=be u)(hp:s.heap.objs.size<=a)(new:ObjOk X.prog X.w (upd H a o) h' a o):
  Inv X pins σ (upd H a o) {s with heap:=h',toks:=t'}:=I.un (Un.laid k hp (I.hok.fresh hp)) (I.hok.laid k hp new)
def Inv.write{x e:KF}{o:HO}{t':Nat}(I:Inv X pins σ H s)(mu:Mut (H x))(he:e=x\/H e=be (.own x))(k:∀b u,b≠e->s.heap.get? b=be u->h'.get? b=be u)(v7:∃u,h'.get? e=be u)
  (new:ObjOk X.prog X.w (upd H x o) h' x o):Inv X pins σ (upd H x o) {s with heap:=h',toks:=t'}:=I.un (Un.write mu he k v7) (I.hok.write mu he k v7 new)
def Inv.pins_of{G_:List (KF×QY)}(I:Inv X pins σ H s)(h:∀p∈G_,s.heap.get? p.1=be p.2/\H p.1=m_/\p.1≠X.env.locals/\p.1∉X.fs/\∀v,p.2.data≠.cell v):Inv X G_ σ H s:=
 #[I.ok,I.os,I.bare,I.base,I.loc,I.cell,I.free,I.freeC,λp hp=>(Fy.mp hp).elim (λz=>I.pin p (Gd _ z)) (h p),I.hok,I.len]
variable{x:t6}{i:Nat}
def pC{N:List t6}(hN:N.Nodup){j:Nat}(a:N[i]?=be x)(b:N[j]?=be x):i=j:=by
 obtain⟨h1,e1⟩:=Fj.mp a;obtain⟨h2,e2⟩:=Fj.mp b;exact(List.getElem_inj hN).mp (e1.trans e2.symm)
variable{E:KB->KM->Prop}{Q:Unit->KM->Prop}
def pD{M:So}{A:QM}{v:V}{u:KB}(I:Inv X pins σ H s)(hN:X.N.Nodup)(hi:X.N[i]?=be x)(hx:Loc X.env.scope x)(r:RelV v u)
  (h:∀s',Inv X pins (σ.set i (be v)) H s'->(∃a,Heap.SameBut a s.heap s'.heap/\(a=X.env.locals\/X.env.cells.lookup x=be a))->Q () s') (hf:autoParam (zFN X x) zA3):QI M A (storeName X.env x u) Q E s:=by
 obtain⟨m,hn,hl⟩:=id I.loc;have IS:(X.env.scope.kind== .class||(X.env.scope.kind== .module&&X.env.locals !=X.env.globals))=false:=by rw[I.ok.kind];rfl
 have hiσ:i<σ.length:=by rw[I.len];exact(Fj.mp hi).1
 have cne:=I.cne;have i7:∀{a:KF} {h':QN},(∃o,s.heap.get? a=be o/\H a=m_)->Heap.SameBut a s.heap h'->HOk X.prog X.w H h':=λ{a h'} ha hs b ob e=>by
  obtain⟨_,_,h_⟩:=ha;refine(I.hok b ob e).stay (λc w' hc q=>(hs.2 c ?_).trans q) (λ_ q=>q) λ_ _ q=>q;rintro rfl;rcases hc with rfl|hc
  .rw[h_]at e;cases e
  .rw[h_]at hc;cases hc
 rcases hx with hk|hk
 .refine wpAny_storeName_local hk hn (λh' l6 hs=>?_) IS;obtain⟨oL,_,_,Oy,_⟩:=id hn;refine h _ #[I.ok,I.os,I.bare,#[λb o e n hb hx=>?_,λb o e n hb hx=>?_,I.base.free,λb o e hx=>?_,I.base.tups,I.base.frzs,I.base.tbls],#[_,l6,λj y v' e1 e2 e3=>?_],λy c e=>?_,I.free,I.freeC,λp hp=>?_,i7 #[oL,Oy,I.free] hs,by simpa using I.len] #[_,hs,.inl rfl]
  .exact(hs.2 b (Ff (Fz (Heap.lt_size e) I.ok.above))).trans (I.base.keep b o e n hb hx)
  .obtain⟨sl,e1⟩:=I.base.slot b o e n hb hx;exact#[sl,(hs.2 b (Ff (Fz (Heap.lt_size e) I.ok.above))).trans e1]
  .obtain⟨o',e1⟩:=I.base.there b o e hx;exact#[o',(hs.2 b (Ff (Fz (Heap.lt_size e) I.ok.above))).trans e1]
  .by_cases hj:j=i
   .subst hj;rw[hi]at e1;cases e1;rw[FM hiσ]at e2;cases e2;exact#[u,r,.inl #[hk,IV]]
   .rw[Fu (Ne.symm hj)]at e2;obtain⟨u',r',q⟩:=hl j y v' e1 e2 e3;refine#[u',r',?_];rcases q with⟨k,e⟩|⟨k,c,e,z⟩
    .refine .inl #[k,?_];have:y≠x:=λe=>hj (pC hN e1 (e ▸ hi));simp[this,e]
    .exact .inr #[k,c,e,z.sameBut hs (cne y c e)]
  .obtain⟨w',z⟩:=I.cell y c e;exact#[w',z.sameBut hs (cne y c e)]
  .obtain⟨e,n,ne,nf,d⟩:=I.pin p hp;exact#[(hs.2 p.1 ne).trans e,n,ne,nf,d]
 .have Lj:X.fn x=true:=by
   rcases hf with z|z
   .exact z
   .rw[z]at hk;cases hk
  obtain⟨c,hc⟩:=I.ok.has x (.inl hk);obtain⟨w',z⟩:=I.cell x c hc;refine wpAny_storeName_cell I.ok.kind hk hc z (λh' H_ hs=>?_);obtain⟨oc,Nn,Lk⟩:=id z;refine h {s with heap:=h'} #[I.ok,I.os,I.bare,#[λb o e n hb hx=>?_,λb o e n hb hx=>?_,I.base.free,λb o e hx=>?_,I.base.tups,I.base.frzs,I.base.tbls],#[m,hn.sameBut hs (Ne.symm (cne x c hc)),λj y v' e1 e2 e3=>?_],λy c' e=>?_,I.free,I.freeC,λp hp=>?_,i7 #[oc,Nn,I.freeC x c hc] hs,by simpa using I.len] #[c,hs,.inr hc]
  .exact(hs.2 b (Ff (Fz (Heap.lt_size e) (I.ok.cab x c Lj hc)))).trans (I.base.keep b o e n hb hx)
  .obtain⟨sl,e1⟩:=I.base.slot b o e n hb hx;exact#[sl,(hs.2 b (Ff (Fz (Heap.lt_size e) (I.ok.cab x c Lj hc)))).trans e1]
  .obtain⟨o',e1⟩:=I.base.there b o e hx;exact#[o',(hs.2 b (Ff (Fz (Heap.lt_size e) (I.ok.cab x c Lj hc)))).trans e1]
  .by_cases hj:j=i
   .subst hj;rw[hi]at e1;cases e1;rw[FM hiσ]at e2;cases e2;exact#[u,r,.inr #[.inl hk,c,hc,H_]]
   .rw[Fu (Ne.symm hj)]at e2;obtain⟨u',r',q⟩:=hl j y v' e1 e2 e3;refine#[u',r',?_];rcases q with q|⟨k,c',e,z'⟩
    .exact .inl q
    .refine .inr #[k,c',e,z'.sameBut hs ?_];rintro rfl;exact hj (pC hN e1 (I.ok.inj _ _ _ e hc ▸ hi))
  .by_cases No:c'=c
   .subst No;exact#[_,H_]
   .obtain⟨w2,z2⟩:=I.cell y c' e;exact#[w2,z2.sameBut hs No]
  .obtain⟨e,n,ne,nf,d⟩:=I.pin p hp;refine#[(hs.2 p.1 ?_).trans e,n,ne,nf,d];intro q;rw[q,Nn]at e;have q':oc=p.2:=Option.some.inj e;exact d w' (by rw[<-q'];exact Lk)
def eQ{M:So}{A:QM}{v:V}{u:KB}(I:Inv X pins σ H s)(hN:X.N.Nodup)(hi:X.N[i]?=be x)(hx:Loc X.env.scope x)(r:RelV v u)
  (h:∀s',Inv X pins (σ.set i (be v)) H s'->Q () s') (hf:autoParam (zFN X x) zA3):QI M A (storeName X.env x u) Q E s:=
 pD I hN hi hx r (λs' I' _=>h s' I') hf
def Inv.call'{s':KM}(I:Inv X pins σ H s)(ho:s'.os=s.os)(u:Un (frs X.stack) ch H H' s.heap s'.heap)(hok:HOk X.prog X.w H' s'.heap)(hg:Ru s'.gens)
  (v8:∀b∈ch,(b∈X.ex\/X.s₀.heap.objs.size<=b)/\b≠X.env.locals/\(∀x c,X.env.cells.lookup x=be c->c≠b)/\∀p∈X.pn++pins,p.1≠b):Inv X pins σ H' s':=by
 obtain⟨h',g',d',t',o'⟩:=s';have e:o'=s.os:=ho;subst e;exact I.call (g':=g') (t':=t') (d':=d') u hok hg v8
end
abbrev XK:=KB->Option KF->Hp->Prop
abbrev St:=List (Option V)
abbrev VK:=V->Hp->Prop
abbrev TE:=St->Hp->VK->Prop
abbrev TT:=St->Hp->(Bool->Hp->Prop)->Prop
abbrev TA:=St->Hp->(List V->Hp->Prop)->Prop
structure Ends where
 nx:St->Hp->Prop
 rt:VK
 bk:St->Hp->Prop:=λ_ _=>False
 ct:St->Hp->Prop:=λ_ _=>False
abbrev TS:=Ends->St->Hp->Prop
def EP(X:Cx)(pins:List (KF×QY))(σ:St)(Q:VK)(u:KB)(s':KM):Prop:=∃v H',Inv X pins σ H' s'/\RelV v u/\Q v H'
def TP(X:Cx)(pins:List (KF×QY))(σ:St)(Q:Bool->Hp->Prop)(b:Bool)(s':KM):Prop:=∃H',Inv X pins σ H' s'/\Q b H'
def AP(X:Cx)(pins:List (KF×QY))(σ:St)(Q:List V->Hp->Prop)(us:List KB)(s':KM):Prop:=∃vs H',Inv X pins σ H' s'/\Vals vs us/\Q vs H'
def SP(X:Cx)(pins:List (KF×QY))(D:Ends)(f:Flow)(s':KM):Prop:=
 match f with
 |.next=>∃σ' H',Inv X pins σ' H' s'/\D.nx σ' H'
 |.brk=>∃σ' H',Inv X pins σ' H' s'/\D.bk σ' H'
 |.cont=>∃σ' H',Inv X pins σ' H' s'/\D.ct σ' H'
 |.ret u=>∃v σ' H',Inv X pins σ' H' s'/\RelV v u/\D.rt v H'
def PE(X:Cx)(e:QG)(t:TE):Prop:=
 ∀(pins:List (KF×QY)) (s:KM) (σ:St) (H:Hp) (Q:VK),Inv X pins σ H s->t σ H Q->QI (QJ X.prog X.w) X.A (QS e X.env) (EP X pins σ Q) X.xe s
def PT(X:Cx)(e:QG)(t:TT):Prop:=
 ∀(pins:List (KF×QY)) (s:KM) (σ:St) (H:Hp) (Q:Bool->Hp->Prop),Inv X pins σ H s->t σ H Q->QI (QJ X.prog X.w) X.A (isTrue e X.env (QS e X.env)) (TP X pins σ Q) X.xe s
def PW(X:Cx)(e:QG)(t:TT):Prop:=
 ∀(gt:Sb KB) (pins:List (KF×QY)) (s:KM) (σ:St) (H:Hp) (Q:Bool->Hp->Prop),Inv X pins σ H s->t σ H Q->QI (QJ X.prog X.w) X.A (isTrue e X.env gt) (TP X pins σ Q) X.xe s
variable{X:Cx}
def PW.pt{e:QG}{t:TT}(h:PW X e t):PT X e t:=h _
def PA(X:Cx)(es:List QG)(t:TA):Prop:=
 ∀(pos:QT) (pins:List (KF×QY)) (s:KM) (σ:St) (H:Hp) (Q:List V->Hp->Prop),Inv X pins σ H s->t σ H Q->QI (QJ X.prog X.w) X.A (spliced (Rm pos (QP es X.env))) (AP X pins σ Q) X.xe s
def PS(X:Cx)(st:P3)(t:TS):Prop:=
 ∀(pins:List (KF×QY)) (s:KM) (σ:St) (H:Hp) (D:Ends),Inv X pins σ H s->t D σ H->QI (QJ X.prog X.w) X.A (exec st X.env) (SP X pins D) X.xe s
def PSs(X:Cx)(st:List P3)(t:TS):Prop:=
 ∀(pins:List (KF×QY)) (s:KM) (σ:St) (H:Hp) (D:Ends),Inv X pins σ H s->t D σ H->QI (QJ X.prog X.w) X.A (execs st X.env) (SP X pins D) X.xe s
variable{A:QM}{E:KB->KM->Prop}{s:KM}
def thn{α:Type}{t:Sb α}{Q Q':α->KM->Prop}{M:So}(h:QI M A t Q E s)(hQ:∀a s,Q a s->Q' a s):QI M A t Q' E s:=QV h hQ λ_ _ x=>x
section
variable {X:Cx}
def tVar(i:Nat):TE:=λσ H Q=>∃v,σ[i]?=be (be v)/\Q v H
def tC(v:V):TE:=λ_ H Q=>Q v H
variable{x:t6}{pos:QT}
def eU{i:Nat}(hN:X.N[i]?=be x)(hv:Vis X.env.scope x)(hd:autoParam (zND x) zA1)(g7:autoParam (zNC x) zA1):PE X (.Name x pos) (tVar i):=by
 intro pins s σ H Q I h;obtain⟨v,e,h⟩:=h;obtain⟨m,hn,hl⟩:=I.loc;obtain⟨u,r,l⟩:=hl i x v hN e hv;have d8:EP X pins σ Q u s:=#[v,H,I,r,h];rcases l with⟨hk,hm⟩|⟨hk,c,hc,j8⟩
 .exact Sg (wpAny_loadName_local I.ok.kind hk hn hm d8) hd
 .rcases hk with hk|hk
  .exact Sg (wpAny_loadName_cell I.ok.kind hk hc j8 d8) hd
  .exact Sg (wpAny_loadName_free I.ok.kind hk hc j8 d8 g7) hd
def vf{i j pos}:PE X (.Constant (.int i) j pos) (tC (.int i)):=λ_ _ _ H _ I h=>wpAny_Constant_int #[.int i,H,I.tok _,#[_,rfl],h]
def vg{b j pos}:PE X (.Constant (.bool b) j pos) (tC (.bl b)):=λ_ _ _ H _ I h=>Constant_bool #[.bl b,H,I,rfl,h]
def vh{j pos}:PE X (.Constant .none j pos) (tC .non):=λ_ _ _ H _ I h=>Constant_none #[.non,H,I,rfl,h]
def pE{x j pos}:PE X (.Constant (.str x) j pos) (tC (.str x)):=λ_ _ _ H _ I h=>Calls.Constant_str #[.str x,H,I.tok _,#[_,rfl],h]
def Gl(X:Cx)(x:t6):Prop:=X.env.kindOf x=be .globalImplicit
variable{E Q:KB->KM->Prop}{pins:List (KF×QY)}{u:KB}
def cU{s:KM}{σ:St}{H:Hp}(I:Inv X pins σ H s)(hg:Gl X x)(hm:X.mg x=be u)(h:Q u s)
  (hd:autoParam (zND x) zA1):QI (QJ X.prog X.w) X.A (QS (.Name x pos) X.env) Q E s:=
 Calls.Name_function_global I.ok.kind hg (Calls.loadGlobal_global (by rw[I.ok.glob];exact I.mod.glob.keeps I.bk) hm h) hd
def cV{s:KM}{σ:St}{H:Hp}(I:Inv X pins σ H s)(hg:Gl X x)(hm:X.mg x=m_)(hv:QZ x=be u)(h:Q u s)
  (hn:autoParam (x≠"__name__") zA1) (hd:autoParam (zND x) zA1):QI (QJ X.prog X.w) X.A (QS (.Name x pos) X.env) Q E s:=by
 obtain⟨mb,h1,h2⟩:=I.mod.blt;exact Calls.Name_function_global I.ok.kind hg (Calls.loadGlobal_builtin (by rw[I.ok.glob];exact I.mod.glob.keeps I.bk) hm (by rw[I.ok.blt];exact h1.keeps I.bk) ((h2 x hn).trans hv) h) hd
def vi{v:V}(hg:Gl X x)(hm:X.mg x=be u)(r:RelV v u)(hd:autoParam (zND x) zA1):PE X (.Name x pos) (tC v):=
 λ_ _ _ H _ I h=>cU I hg hm #[v,H,I,r,h] hd
def vj{v:V}(hg:Gl X x)(hm:X.mg x=m_)(hv:QZ x=be u)(r:RelV v u)(hn:autoParam (x≠"__name__") zA1)(hd:autoParam (zND x) zA1):PE X (.Name x pos) (tC v):=
 λ_ _ _ H _ I h=>cV I hg hm hv #[v,H,I,r,h] hn hd
variable {a b:QG}{ta tb:TE}{pos:QT}
def tB(t:TE):TT:=λσ H Q=>t σ H λx H1=>∃c,x=.bl c/\Q c H1
variable {tA y7:TT}{rest:List QG}
def tAnd(t u:TT):TT:=λσ H Q=>t σ H λc H1=>if c=true then u σ H1 Q else Q false H1
def tOr(t u:TT):TT:=λσ H Q=>t σ H λc H1=>if c=true then Q true H1 else u σ H1 Q
def tNot(t:TT):TT:=λσ H Q=>t σ H λc H1=>Q (!c) H1
def pF(ha:PT X a tA):PW X (.BoolOp .And [a] pos) tA:=by
 intro wh pins s σ H Q I h;refine isTrue_and (thn (ha pins s σ H Q I h) λc s1 e=>?_);cases c with
 |true=>exact isTrue_and_nil e
 |false=>exact e
def pG(ha:PT X a tA):PW X (.BoolOp .Or [a] pos) tA:=by
 intro wh pins s σ H Q I h;refine isTrue_or (thn (ha pins s σ H Q I h) λc s1 e=>?_);cases c with
 |false=>exact isTrue_or_nil e
 |true=>exact e
def pH(ha:PT X a tA)(hb:PW X (.BoolOp .And (b::rest) pos) y7):PW X (.BoolOp .And (a::b::rest) pos) (tAnd tA y7):=by
 intro wh pins s σ H Q I h;refine isTrue_and (thn (ha pins s σ H _ I h) λc s1 b9=>?_);obtain⟨H1,I1,q1⟩:=b9;cases c with
 |true=>exact hb wh pins s1 σ H1 Q I1 q1
 |false=>exact#[H1,I1,q1]
def pI(ha:PT X a tA)(hb:PW X (.BoolOp .Or (b::rest) pos) y7):PW X (.BoolOp .Or (a::b::rest) pos) (tOr tA y7):=by
 intro wh pins s σ H Q I h;refine isTrue_or (thn (ha pins s σ H _ I h) λc s1 b9=>?_);obtain⟨H1,I1,q1⟩:=b9;cases c with
 |true=>exact#[H1,I1,q1]
 |false=>exact hb wh pins s1 σ H1 Q I1 q1
def vk(ha:PT X a tA):PT X (.UnaryOp .Not a pos) (tNot tA):=by
 intro pins s σ H Q I h;exact isTrue_not (ha pins s σ H (λc H1=>Q (!c) H1) I h)
def vm(ta tb:TE):TE:=λσ H Q=>ta σ H λx H1=>∃c,x=.bl c/\if c=true then tb σ H1 Q else Q (.bl false) H1
def vn(ta:TE):TE:=λσ H Q=>ta σ H λx H1=>∃c,x=.bl c/\Q (.bl (!c)) H1
def vo{op}{t:TE}(h:PE X a t):PE X (.BoolOp op [a] pos) t:=λpins s σ H Q I hw=>BoolOp_one (h pins s σ H Q I hw)
def vp(ha:PE X a ta)(hb:PE X (.BoolOp .And (b::rest) pos) tb):PE X (.BoolOp .And (a::b::rest) pos) (vm ta tb):=by
 intro pins s σ H Q I h;refine BoolOp_and (thn (ha pins s σ H _ I h) λv s1 b9=>?_);obtain⟨x,H1,I1,r1,q1⟩:=b9;obtain⟨c,rfl,q1⟩:=q1;cases r1;refine Rn ?_;cases c with
 |true=>exact hb pins s1 σ H1 Q I1 q1
 |false=>exact#[.bl false,H1,I1,rfl,q1]
def vq(ha:PE X a ta):PE X (.UnaryOp .Not a pos) (vn ta):=by
 intro pins s σ H Q I h;refine UnaryOp_ (thn (ha pins s σ H _ I h) λv s1 b9=>?_);obtain⟨x,H1,I1,r1,q1⟩:=b9;obtain⟨c,rfl,q1⟩:=q1;cases r1;exact not_of (Rn #[.bl (!c),H1,I1,rfl,q1])
def tIf(t:TT)(ta tb:TE):TE:=λσ H Q=>t σ H λc H1=>if c=true then ta σ H1 Q else tb σ H1 Q
def vt{c:QG}(hc:PT X c tA)(ha:PE X a ta)(hb:PE X b tb):PE X (.IfExp c a b pos) (tIf tA ta tb):=by
 intro pins s σ H Q I h;refine wpAny_IfExp (thn (hc pins s σ H _ I h) λd s1 b9=>?_);obtain⟨H1,I1,q1⟩:=b9;cases d with
 |true=>exact ha pins s1 σ H1 Q I1 q1
 |false=>exact hb pins s1 σ H1 Q I1 q1
end
def SqL(K:Ex)(H:Hp)(a:KF)(xs:List V):Prop:=
 Rd H a (.lst xs)\/
  ∃(o:QY) (its:Array KB) (n:Nat),K.lookup a=be o/\o.cls=.type "list"/\o.dict=m_/\o.data=.seq its n/\its.size<=sizeLine/\Vals xs its.toList
def SqT(K:Ex)(H:Hp)(a:KF)(xs:List V):Prop:=
 Rd H a (.tup xs)\/
  ∃(o:QY) (its:Array KB) (n:Nat),K.lookup a=be o/\o.cls=.type "tuple"/\o.data=.seq its n/\its.size<=sizeLine/\Vals xs its.toList
def absV:KB->Option V
 |.none=>be .non
 |.bool b=>be (.bl b)
 |.int i _=>be (.int i)
 |.str x _=>be (.str x)
 |.bytes b _=>be (.byt b)
 |.float b _=>be (.flt b)
 |.ref a=>be (.ref a)
 |.type n=>be (.ty n)
 |_=>m_
variable{u:KB}
def RelV.abs{x:V}(r:RelV x u):absV u=be x:=by
 cases x with
 |non=>cases r;rfl
 |bl _=>cases r;rfl
 |int _=>obtain⟨t,rfl⟩:=r;rfl
 |str _=>obtain⟨t,rfl⟩:=r;rfl
 |byt _=>obtain⟨t,rfl⟩:=r;rfl
 |flt _=>obtain⟨t,rfl⟩:=r;rfl
 |ref _=>cases r;rfl
 |ty _=>cases r;rfl
def RelV.inj{x y:V}(r:RelV x u)(q:RelV y u):x=y:=Option.some.inj (r.abs.symm.trans q.abs)
def Vals.inj:∀{xs ys:List V} {us:List KB},Vals xs us->Vals ys us->xs=ys:=by
 intro xs ys us h;induction h generalizing ys with
 |nil=>intro g;cases g;rfl
 |cons r _ e=>
  intro g;cases g with
  |cons r' t'=>rw[r.inj r',e t']
section
variable {X:Cx}{pins:List (KF×QY)}{σ:St}{H:Hp}{s:KM}{a:KF}{xs ys:List V}
def SqL.of{K:Ex}(h:H a=be (.lst xs)):SqL K H a xs:=.inl (.inl h)
def SqT.of{K:Ex}(h:H a=be (.tup xs)):SqT K H a xs:=.inl (.inl h)
def Inv.list(I:Inv X pins σ H s)(h:SqL X.K H a xs):∃its:List KB,Vals xs its/\PlainL s.heap a its.toArray/\xs.length<=sizeLine:=by
 rcases h with h|⟨o,its,n,hk,hc,hd,hs,hz,r⟩
 .obtain⟨z,its,n,r,e⟩:=h.ok I.hok;exact#[its,r,#[_,n,e,rfl,rfl,rfl],z]
 .refine#[its.toList,r,#[o,n,I.kIn a o hk,hc,hd,by simpa using hs],?_];have e:=r.length;simp only[Ge]at e;lia
def Inv.tuple(I:Inv X pins σ H s)(h:SqT X.K H a xs):∃its:List KB,Vals xs its/\IsTup s.heap a its.toArray/\xs.length<=sizeLine:=by
 rcases h with h|⟨o,its,n,hk,hc,hs,hz,r⟩
 .obtain⟨z,its,r,p⟩:=h.ok I.hok;exact#[its,r,p,z]
 .refine#[its.toList,r,#[o,I.kIn a o hk,hc,n,by simpa using hs],?_];have e:=r.length;simp only[Ge]at e;lia
def Inv.list_inj(I:Inv X pins σ H s)(h:SqL X.K H a xs)(h':SqL X.K H a ys):xs=ys:=by
 obtain⟨its,r,⟨o,n,e,_,_,d⟩,_⟩:=I.list h;obtain⟨its',r',⟨o',n',e',_,_,d'⟩,_⟩:=I.list h';rw[e]at e';cases e';rw[d]at d';injection d' with d1 _;have:its=its':=by simpa using congrArg Hq d1
 subst this;exact r.inj r'
def Inv.tuple_inj(I:Inv X pins σ H s)(h:SqT X.K H a xs)(h':SqT X.K H a ys):xs=ys:=by
 obtain⟨its,r,⟨o,e,_,n,d⟩,_⟩:=I.tuple h;obtain⟨its',r',⟨o',e',_,n',d'⟩,_⟩:=I.tuple h';rw[e]at e';cases e';rw[d]at d';injection d' with d1 _;have:its=its':=by simpa using congrArg Hq d1
 subst this;exact r.inj r'
end
abbrev Cx.wish(X:Cx)(E:KB->KM->Prop):Cx:={X with xe:=E}
abbrev Cx.nox(X:Cx):Cx:=X.wish λ_ _=>False
def Cx.Ok.wish(ok:X.Ok)(E:KB->KM->Prop):(X.wish E).Ok:=
 #[ok.mod,ok.kind,ok.glob,ok.blt,ok.above,ok.inj,ok.has,ok.cab,ok.hd,ok.frames,ok.stk,ok.exf,ok.bs,ok.bsz,ok.noex,ok.exfs,ok.funs,ok.frf]
def Cx.Ok.unwish(ok:(X.wish E).Ok):X.Ok:=
 #[ok.mod,ok.kind,ok.glob,ok.blt,ok.above,ok.inj,ok.has,ok.cab,ok.hd,ok.frames,ok.stk,ok.exf,ok.bs,ok.bsz,ok.noex,ok.exfs,ok.funs,ok.frf]
section
variable {X:Cx}{pins:List (KF×QY)}{σ:St}{H:Hp}{s:KM}{E:KB->KM->Prop}
def Inv.wish(I:Inv X pins σ H s)(E:KB->KM->Prop):Inv (X.wish E) pins σ H s:=#[I.ok.wish E,I.os,I.bare,I.base,I.loc,I.cell,I.free,I.freeC,I.pin,I.hok,I.len]
def Inv.unwish(I:Inv (X.wish E) pins σ H s):Inv X pins σ H s:=#[I.ok.unwish,I.os,I.bare,I.base,I.loc,I.cell,I.free,I.freeC,I.pin,I.hok,I.len]
def SP.unwish{D:Ends}{f:Flow}{s':KM}(h:SP (X.wish E) pins D f s'):SP X pins D f s':=by
 cases f with
 |next=>obtain⟨σ',H',I,q⟩:=h;exact#[σ',H',I.unwish,q]
 |brk=>obtain⟨σ',H',I,q⟩:=h;exact#[σ',H',I.unwish,q]
 |cont=>obtain⟨σ',H',I,q⟩:=h;exact#[σ',H',I.unwish,q]
 |ret u=>obtain⟨v,σ',H',I,r,q⟩:=h;exact#[v,σ',H',I.unwish,r,q]
def PE.nox{e:QG}{t:TE}(h:PE X.nox e t):PE X e t:=λpins s σ H Q I hw=>
 QV (h pins s σ H Q (I.wish _) hw) (λ_ _ ⟨v,H',I',r,q⟩=>#[v,H',I'.unwish,r,q]) λ_ _ z=>False.elim z
def PT.nox{e:QG}{t:TT}(h:PT X.nox e t):PT X e t:=λpins s σ H Q I hw=>
 QV (h pins s σ H Q (I.wish _) hw) (λ_ _ ⟨H',I',q⟩=>#[H',I'.unwish,q]) λ_ _ z=>False.elim z
def PSs.nox{st:List P3}{t:TS}(h:PSs X.nox st t):PSs X st t:=λpins s σ H D I hw=>
 QV (h pins s σ H D (I.wish _) hw) (λ_ _ q=>q.unwish) λ_ _ z=>False.elim z
end
section
variable {X:Cx}{st:P3}{rest:List P3}{t u:TS}{e:QG}{te:TE}{pos:QT}
def vw:TS:=λD σ H=>D.nx σ H
def tSeq(t u:TS):TS:=λD σ H=>t {D with nx:=u D} σ H
def pss_nil:PSs X [] vw:=λ_ _ σ H _ I h=>Rj #[σ,H,I,h]
def ja(h1:PS X st t)(h2:PSs X rest u):PSs X (st::rest) (tSeq t u):=by
 intro pins s σ H D I h;refine wpAny_execs_cons (thn (h1 pins s σ H {D with nx:=u D} I h) λf s1 q=>?_);cases f with
 |next=>
  obtain⟨σ',H',I',q⟩:=q;exact h2 pins s1 σ' H' D I' q
 |ret v=>exact q
 |brk=>exact q
 |cont=>exact q
def pJ(h1:PS X st t):PSs X [st] t:=by
 intro pins s σ H D I h;refine wpAny_execs_cons (thn (h1 pins s σ H D I h) λf s1 q=>?_);cases f with
 |next=>exact Rj q
 |ret v=>exact q
 |brk=>exact q
 |cont=>exact q
def Inv.quiet{pins:List (KF×QY)}{σ:St}{H:Hp}{s:KM}(I:Inv X pins σ H s):interactive X.env=false:=by simp[interactive,I.ok.kind]
def vx(te:TE):TS:=λD σ H=>te σ H λ_ H1=>D.nx σ H1
def pK(he:PE X e te)(hs:autoParam (Q1 e m_ pos.line X.env=pure false) zA0):PS X (.Expr e pos) (vx te):=by
 intro pins s σ H D I h;exact wpAny_Expr_any (thn (he pins s σ H _ I h) λv s1 ⟨x,H1,I1,r1,q1⟩=>#[σ,H1,I1,q1]) I.quiet hs
def tRet(te:TE):TS:=λD σ H=>te σ H D.rt
def pL(he:PE X e te):PS X (.Return (be e) pos) (tRet te):=by
 intro pins s σ H D I h;exact wpAny_Return_some (thn (he pins s σ H _ I h) λv s1 ⟨x,H1,I1,r1,q1⟩=>#[x,σ,H1,I1,r1,q1])
def tIfS(c:TT)(t u:TS):TS:=λD σ H=>c σ H λb H1=>if b=true then t D σ H1 else u D σ H1
def pM{c:QG}{a b:List P3}{tc:TT}(hc:PT X c tc)(ha:PSs X a t)(hb:PSs X b u):PS X (.If c a b pos) (tIfS tc t u):=by
 intro pins s σ H D I h;refine wpAny_If (thn (hc pins s σ H _ I h) λd s1 b9=>?_);obtain⟨H1,I1,q1⟩:=b9;cases d with
 |true=>exact ha pins s1 σ H1 D I1 q1
 |false=>exact hb pins s1 σ H1 D I1 q1
def vy:TS:=λ_ _ _=>False
def ps_never:PS X st vy:=λ_ _ _ _ _ _ h=>h.elim
end
abbrev TG:=V->St->Hp->(St->Hp->Prop)->Prop
abbrev TGs:=List V->St->Hp->(St->Hp->Prop)->Prop
def PG(X:Cx)(f8:QG)(t:TG):Prop:=
 ∀(pins:List (KF×QY)) (s:KM) (σ:St) (H:Hp) (v:V) (u:KB) (Q:St->Hp->Prop),Inv X pins σ H s->RelV v u->t v σ H Q->
  QI (QJ X.prog X.w) X.A (Rk f8 X.env u) (λ_ s'=>∃σ' H',Inv X pins σ' H' s'/\Q σ' H') X.xe s
def PGs(X:Cx)(ts:List QG)(t:TGs):Prop:=
 ∀(pins:List (KF×QY)) (s:KM) (σ:St) (H:Hp) (vs:List V) (us:List KB) (Q:St->Hp->Prop),Inv X pins σ H s->Vals vs us->t vs σ H Q->
  QI (QJ X.prog X.w) X.A (RY ((QO ts X.env).map (·.2)) us) (λ_ s'=>∃σ' H',Inv X pins σ' H' s'/\Q σ' H') X.xe s
abbrev TSet:=V->V->V->Hp->(Hp->Prop)->Prop
def PSet(X:Cx)(t:TSet):Prop:=
 ∀(pins:List (KF×QY)) (s:KM) (σ:St) (H:Hp) (o i v:V) (ov iv u:KB) (Q:Hp->Prop),Inv X pins σ H s->RelV o ov->RelV i iv->RelV v u->t o i v H Q->
  QI (QJ X.prog X.w) X.A (setItem ov iv u) (λ_ s'=>∃H',Inv X pins σ H' s'/\Q H') X.xe s
section
variable {X:Cx}{pos:QT}
def fK(i:Nat):TG:=λv σ H Q=>Q (σ.set i (be v)) H
variable{i:Nat}{x:t6}
def eV(hN:X.N.Nodup)(hi:X.N[i]?=be x)(hx:Loc X.env.scope x)(hf:autoParam (zFN X x) zA3):PG X (.Name x pos) (fK i):=by
 intro pins s σ H v u Q I r h;exact RH (eQ I hN hi hx r (λs' I'=>#[_,H,I',h]) hf)
def gNil:TGs:=λvs σ H Q=>vs=[]/\Q σ H
def vz(t:TG)(u:TGs):TGs:=λvs σ H Q=>∃v r,vs=v::r/\t v σ H λσ' H'=>u r σ' H' Q
def vA:PGs X [] gNil:=by
 intro pins s σ H vs us Q I r h;obtain⟨e,h⟩:=h;subst e;cases r;exact Sn #[σ,H,I,h]
variable{e:QG}{es:List QG}
def vB{t:TG}{u:TGs}(h1:PG X e t)(h2:PGs X es u)
  (hs:autoParam ((QO (e::es) X.env).map (·.2)=Rk e X.env::(QO es X.env).map (·.2)) zA0):PGs X (e::es) (vz t u):=by
 intro pins s σ H vs us Q I r h;obtain⟨v,vr,e1,h⟩:=h;subst e1;cases r with
 |cons r rr=>
  rw[hs];refine RG (thn (h1 pins s σ H _ _ _ I r h) λ_ s1 b9=>?_);obtain⟨σ1,H1,I1,q1⟩:=b9;exact h2 pins s1 σ1 H1 _ _ Q I1 rr q1
def gTup(K:Ex)(n:Nat)(t:TGs):TG:=λv σ H Q=>∃a xs,v=.ref a/\SqT K H a xs/\xs.length=n/\t xs σ H Q
def eX{k:Nat}{t:TGs}{n:Nat}(hc:X.calm=true)(h:PGs X es t)
  (hn:autoParam ((QO es X.env).length=n) zA0) (i8:autoParam ((QO es X.env).findIdx? (·.1)=none) zA0):PG X (.Tuple es k pos) (gTup X.K n t):=by
 intro pins s σ H v u Q I r hw;obtain⟨a,xs,e1,hq,hl,hw⟩:=hw;subst e1;cases r;obtain⟨its,rv,ht,hz⟩:=I.tuple hq;refine assign_Tuple_tuple (I.ok.hd hc) ht (by simp[hn,<-hl,rv.length]) i8 λh' hx=>?_;have I1:Inv X pins σ H {s with heap:=h'}:=I.kept (t':=s.toks) λb o e=>hx b o (Ff (Heap.lt_size e)) e;exact h pins _ σ H xs _ Q I1 (by simpa using rv) hw
def gSub(to ti:TE)(t:TSet):TG:=λv σ H Q=>to σ H λo H1=>ti σ H1 λi H2=>t o i v H2 λH3=>Q σ H3
def vC{o i:QG}{to ti:TE}{t:TSet}(ho:PE X o to)(hi:PE X i ti)(hs:PSet X t)
  (ha:∀v,Rk (.Subscript o i pos) X.env v=(do
   let ov <-Rr [v] (QS o X.env)
   let iv <-Rr [v,ov] (QS i X.env)
   RC pos
   Rr [v,ov,iv] (setItem ov iv v)
   release [v,ov,iv] []):=by intro _;rfl):PG X (.Subscript o i pos) (gSub to ti t):=by
 intro pins s σ H v u Q I r h;rw[ha];refine Os (Rb (thn (ho pins s σ H _ I h) λov s1 b9=>?_));obtain⟨x,H1,I1,r1,q1⟩:=b9;refine Os (Rb (thn (hi pins s1 σ H1 _ I1 q1) λiv s2 b9=>?_));obtain⟨y,H2,I2,r2,q2⟩:=b9;refine Os (Q_ (Os (Rb (thn (hs pins s2 σ H2 x y v ov iv u _ I2 r1 r2 r q2) λ_ s3 b9=>?_))));obtain⟨H3,I3,q3⟩:=b9;exact wpAny_release #[σ,H3,I3,q3]
def tAsg(te:TE)(g:TG):TS:=λD σ H=>te σ H λx H1=>g x σ H1 D.nx
def jb{tg:QG}{te:TE}{g:TG}(he:PE X e te)(hg:PG X tg g)(hs:autoParam (Rc [tg] e pos.line X.env=pure false) zA0)(hw:autoParam (Rf [tg] e X.env=pure none) zA0)
  (h1:autoParam ((QO [tg] X.env).map (·.2)=[Rk tg X.env]) zA0):PS X (.Assign [tg] e pos) (tAsg te g):=by
 intro pins s σ H D I h;refine wpAny_Assign_stores (thn (he pins s σ H _ I h) λv s1 hh=>?_) hs hw;obtain⟨x,H1,I1,r1,q1⟩:=hh;rw[h1];exact thn (hg pins s1 σ H1 x v _ I1 r1 q1) λ_ s2 q=>q
def fL{te:TE}{c_:QT}(hN:X.N.Nodup)(hi:X.N[i]?=be x)(hx:Loc X.env.scope x)(he:PE X e te)(hs:autoParam (Q1 e (be (.Name x c_)) pos.line X.env=pure false) zA0)(hf:autoParam (zFN X x) zA3):
  PS X (.Assign [.Name x c_] e pos) (tAsg te (fK i)):=by
 intro pins s σ H D I h;refine wpAny_Assign_Name (thn (he pins s σ H _ I h) λv s1 hh=>?_) hs;obtain⟨y,H1,I1,r1,q1⟩:=hh;exact eQ I1 hN hi hx r1 (λs2 I2=>#[_,H1,I2,q1]) hf
def tPar(i j:Nat)(ta:TA):TS:=λD σ H=>ta σ H λvs H1=>∃v w,vs=[v,w]/\D.nx ((σ.set i (be v)).set j (be w)) H1
def vD{j:Nat}{y:t6}{a b:QG}{ta:TA}{px py pt:QT}{kt k2 IT}(hc:X.calm=true)(hN:X.N.Nodup)(hi:X.N[i]?=be x)(hj:X.N[j]?=be y)(Ll:i≠j)
  (hx:X.env.scope.names.lookup x=be .local) (hy:X.env.scope.names.lookup y=be .local) (ha:PA X [a,b] ta)
  (hw:Rf [.Tuple [.Name x px,.Name y py] kt pt] (.Tuple [a,b] k2 IT) X.env=pure (be [x,y]))
  (hs:autoParam (Rc [.Tuple [.Name x px,.Name y py] kt pt] (.Tuple [a,b] k2 IT) pos.line X.env=pure false) zA0):
  PS X (.Assign [.Tuple [.Name x px,.Name y py] kt pt] (.Tuple [a,b] k2 IT) pos) (tPar i j ta):=by
 intro pins s σ H D I h;rw[exec_Assign_arm];refine Os (Q_ ?_);rw[hs];refine Os (QK ?_);rw[if_neg y8];refine Os (Tuple_ (thn (ha _ pins s σ H _ I h) λus s1 b9=>?_));obtain⟨vs,H1,I1,r1,q1⟩:=b9;obtain⟨v,w,e1,q1⟩:=q1;subst e1;obtain⟨u1,u2,rfl,rv,g9⟩:∃u1 u2,us=[u1,u2]/\RelV v u1/\RelV w u2:=by
  cases r1 with
  |cons p q=>
   cases q with
   |cons p' q'=>
    cases q';exact#[_,_,rfl,p,p']
 refine QU ?_ (by show 2<=sizeLine;decide);have I2:Inv X pins σ H1 {s1 with heap:=s1.heap.push {cls:=.type "tuple",data:=.seq [u1,u2].toArray} }:=I1.kept (t':=s1.toks) λb o e=>Heap.get?_push_of_some _ e;rw[hw];refine Os (QK ?_);show QI (QJ X.prog X.w) X.A (do rule "assign.swapped-stores";let items <-unpackItems (.ref s1.heap.objs.size) 2 m_;RY [λv=>Sa X.env y v,λv=>Sa X.env x v] items.reverse;pure Flow.next) _ _ _;refine Os (Sd (Os (unpackItems_tuple (items:=[u1,u2].toArray) (I.ok.hd hc) (IsTup.new s1.heap _) λh' gV=>?_)));have I3:=I2.kept (h':=h') (t':=s1.toks) λb o e=>gV b o (Ff (Heap.lt_size e)) e;show QI _ _ (RY [λv=>Sa X.env y v,λv=>Sa X.env x v] [u2,u1]>>=λ_=>pure Flow.next) _ _ _;refine Os (RG (wpAny_bindName (eQ I3 hN hj (.inl hy) g9 (λs2 I4=>?_) (.inr hy))));refine RG (wpAny_bindName (eQ I4 hN hi (.inl hx) rv (λs3 I5=>Sn (QK ?_)) (.inr hx)));rw[List.set_comm _ _ (Ne.symm Ll)]at I5;exact#[_,H1,I5,q1]
def vE(c:TT)(tb:TS):TS:=λD σ H=>∃W:Nat->St->Hp->Prop,(∃m,W m σ H)/\∀m σ H,W m σ H->
 c σ H λb H1=>if b=true then ∃N:St->Hp->Prop,(∀σ' H',N σ' H'->∃m',m'<m/\W m' σ' H')/\tb {D with nx:=N,ct:=N,bk:=D.nx} σ H1 else D.nx σ H1
def pN{c:QG}{body:List P3}{tc:TT}{tb:TS}(hp:Q2 (QJ X.prog X.w) X.A X.env X.xe)(hc:PT X c tc)(hb:PSs X body tb):PS X (.While c body [] pos) (vE tc tb):=by
 intro pins s σ H D I h;obtain⟨W,⟨m0,w0⟩,b_⟩:=h;refine wpAny_While (codeAny_whileLoop (λn s'=>∃σ' H',Inv X pins σ' H' s'/\W n σ' H') ?_ m0 #[σ,H,I,w0]);rintro n s1⟨σ1,H1,I1,w1⟩;refine Q5 hp (thn (hc pins s1 σ1 H1 _ I1 (b_ n σ1 H1 w1)) λb s2 b9=>?_);obtain⟨H2,I2,q2⟩:=b9;cases b with
 |true=>
  obtain⟨N,hN,q2⟩:=q2;rw[if_pos rfl];refine Q5 hp (thn (hb pins s2 σ1 H2 _ I2 q2) λf s3 q3=>?_);cases f with
  |next=>
   obtain⟨σ3,H3,I3,n3⟩:=q3;obtain⟨m',hm,w3⟩:=hN σ3 H3 n3;exact#[m',hm,σ3,H3,I3,w3]
  |cont=>
   obtain⟨σ3,H3,I3,n3⟩:=q3;obtain⟨m',hm,w3⟩:=hN σ3 H3 n3;exact#[m',hm,σ3,H3,I3,w3]
  |brk=>exact q3
  |ret v=>exact q3
 |false=>
  rw[if_neg Fk];exact Rj #[σ1,H2,I2,q2]
end
structure It where
 go:Nat->Hp->Prop
 yld:Nat->Hp->V->Hp->Prop
 stop:Nat->Hp->Prop
def FpOk(X:Cx)(pins:List (KF×QY))(H:Hp)(b:KF):Prop:=
 H b=m_/\b≠X.env.locals/\b∉X.fs/\(b∈X.ex\/X.s₀.heap.objs.size<=b)/\(∀x c,X.env.cells.lookup x=be c->c≠b)/\∀p∈X.pn++pins,p.1≠b
variable{σ:St}
def Inv.fpOk{pins:List (KF×QY)}{H':Hp}(I:Inv X pins σ H s)(hb:s.heap.objs.size<=b)(hn:H' b=m_):FpOk X pins H' b:=by
 refine#[hn,F5 (Fz I.lt hb),I.nofs hb,.inr (Fh I.sz hb),λx c e z=>?_,λp hp z=>?_]
 .obtain⟨v,q⟩:=I.cell x c e;exact absurd (Fz q.lt (by rw[z];exact hb)) (Gc _)
 .exact absurd (Fz (Heap.lt_size (I.pin p hp).1) (by rw[z];exact hb)) (Gc _)
structure Turn(P:QH)(w:QL)(K:Ex)(tg:QG)(J:It)(fp:List KF)(it:KF)(tn:Nat->QN->Prop):Prop where
 mem:it∈fp
 obj:∀i h,tn i h->∀b∈fp,∃o,h.get? b=be o/\∀v,o.data≠.cell v
 keep:∀i h h',tn i h->(∀b∈fp,∀o,h.get? b=be o->h'.get? b=be o)->tn i h'
 item:∀(X:Cx),X.prog=P->X.w=w->X.K=K->X.calm=true->∀(i:Nat) (pins:List (KF×QY)) (s:KM) (σ:St) (H:Hp) (E:KB->KM->Prop),Inv X pins σ H s->(∀b∈fp,FpOk X pins H b)->tn i s.heap->J.go i H->
  QI (QJ P w) X.A (pyNext (.ref it)) (λr s1=>∃u,r=be u/\
   QI (QJ P w) X.A (RA tg (.ref it) u) (λ_ s2=>∃x H',Inv X pins σ H' s2/\RelV x u/\J.yld i H x H'/\tn (i+1) s2.heap/\∀b∈fp,H' b=m_) E s1) E s
 done:∀(X:Cx),X.prog=P->X.w=w->X.K=K->X.calm=true->∀(i:Nat) (pins:List (KF×QY)) (s:KM) (σ:St) (H:Hp) (E:KB->KM->Prop),Inv X pins σ H s->(∀b∈fp,FpOk X pins H b)->tn i s.heap->J.stop i H->
  QI (QJ P w) X.A (pyNext (.ref it)) (λr s1=>r=m_/\Inv X pins σ H s1) E s
 self:∀(A:QM) (i:Nat) (s:KM) (Q:KB->KM->Prop) (E:KB->KM->Prop),tn i s.heap->Q (.ref it) s->QI (QJ P w) A (pyIter (.ref it)) Q E s
abbrev TI:=St->Hp->(It->Hp->Prop)->Prop
def PIE(X:Cx)(pins:List (KF×QY))(σ:St)(tg:QG)(R:It->Hp->Prop)(KL:KB)(s2:KM):Prop:=
 ∃(it:KF) (fp:List KF) (tn:Nat->QN->Prop) (J:It) (H':Hp),KL=.ref it/\Inv X pins σ H' s2/\Turn X.prog X.w X.K tg J fp it tn/\tn 0 s2.heap/\(∀b∈fp,FpOk X pins H' b)/\R J H'
def PI(X:Cx)(tg iter:QG)(wi:TI):Prop:=
 ∀(pins:List (KF×QY)) (s:KM) (σ:St) (H:Hp) (R:It->Hp->Prop),Inv X pins σ H s->wi σ H R->
  QI (QJ X.prog X.w) X.A (QS iter X.env) (λv s1=>QI (QJ X.prog X.w) X.A (pyIter v) (PIE X pins σ tg R) X.xe s1) X.xe s
variable{tg:QG}
def jc{M:So}{it:KF}{o:QY}{n:String}{vs:Array KB}{Q:Unit->KM->Prop}(ho:s.heap.get? it=be o)(hc:o.cls=.type n)(hd:o.data=.fields vs)
    (hn:["enumerate","zip","dict_itemiterator","dict_reverseitemiterator","odict_iterator","itertools.zip_longest","itertools.pairwise"].contains n=false) (hQ:Q () s):QI M A (RA tg (.ref it) u) Q E s:=by
  unfold RA;cases tg<;>first
    |exact QK hQ
    |(cases u<;>first
        |exact QK hQ
        |( refine Os (wpAny_load ho ?_)
           rw[hc,hd];show QI M A (if(["enumerate","zip","dict_itemiterator","dict_reverseitemiterator","odict_iterator","itertools.zip_longest","itertools.pairwise"].contains n&&vs[0]?==be (Rx _))=true then _ else _) Q E s;rw[if_neg (by intro h;rw[hn,Bool.false_and]at h;cases h)];exact QK hQ))
def Itl(K:Ex)(a:KF):It:=
 #[λi H=>∃xs x,SqL K H a xs/\xs[i]?=be x,λi H x H'=>H'=H/\∀xs,SqL K H a xs->xs[i]?=be x,λi H=>∃xs,SqL K H a xs/\xs.length<=i]
def Itt(K:Ex)(a:KF):It:=
 #[λi H=>∃xs x,SqT K H a xs/\xs[i]?=be x,λi H x H'=>H'=H/\∀xs,SqT K H a xs->xs[i]?=be x,λi H=>∃xs,SqT K H a xs/\xs.length<=i]
def Itr(lo:Int)(n:Nat):It:=#[λi _=>i<n,λi H x H'=>H'=H/\x=.int (lo+i),λi _=>n<=i]
variable{K:Ex}
def vF(a it:KF):Turn P w K tg (Itl K a) [it] it (λi h=>h.IsListIter it a i) where
 mem:=IV
 obj:=λi h st b hb=>by
  have e:b=it:=by simpa using hb
  subst e;obtain⟨o,e,c,d⟩:=st;exact#[o,e,λv z=>by rw[d]at z;cases z]
 keep:=λi h h' st k=>st.at λo e=>k it IV o e
 item:=by
  intro X hP hw hK hc i pins s σ H E I hf st hg;subst hP hw hK;obtain⟨xs,x,hq,hx⟩:=hg;obtain⟨its,rv,p,hz⟩:=I.list hq;obtain⟨u,hu,ru⟩:=rv.get hx;obtain⟨f0,f1,f2,f3,f4,f5⟩:=hf it IV;refine wpAny_pyNext_list_item st p.isList (x:=u) (by simpa using hu) λh' v9 sb=>?_;have I1:Inv X pins σ H {s with heap:=h'}:=I.turned (t':=s.toks) (λb o hb e=>(sb.2 b hb).trans e) f0 f1 f3 f4 f5;obtain⟨o,e,c,d⟩:=id v9;exact#[u,rfl,jc (s:={s with heap:=h'}) e c d y8 #[x,H,I1,ru,#[rfl,λys hy=>by rw[I.list_inj hy hq];exact hx],v9,λb hb=>(hf b hb).1]]
 done:=by
  intro X hP hw hK hc i pins s σ H E I hf st hg;subst hP hw hK;obtain⟨xs,hq,hx⟩:=hg;obtain⟨its,rv,p,hz⟩:=I.list hq;obtain⟨f0,f1,f2,f3,f4,f5⟩:=hf it IV;have hl:=rv.length;exact wpAny_pyNext_list_end (I.ok.hd hc) st p.isList Nw λh' eb=>#[rfl,I.turned (t':=s.toks) (λb o hb e=>eb b o hb e) f0 f1 f3 f4 f5]
 self:=λ_ _ _ _ _ st h=>wpAny_pyIter_listiter st h
def vG(a it:KF):Turn P w K tg (Itt K a) [it] it (λi h=>h.IsTupleIter it a i) where
 mem:=IV
 obj:=λi h st b hb=>by
  have e:b=it:=by simpa using hb
  subst e;obtain⟨o,e,c,d⟩:=st;exact#[o,e,λv z=>by rw[d]at z;cases z]
 keep:=λi h h' st k=>st.at λo e=>k it IV o e
 item:=by
  intro X hP hw hK hc i pins s σ H E I hf st hg;subst hP hw hK;obtain⟨xs,x,hq,hx⟩:=hg;obtain⟨its,rv,p,hz⟩:=I.tuple hq;obtain⟨u,hu,ru⟩:=rv.get hx;obtain⟨f0,f1,f2,f3,f4,f5⟩:=hf it IV;refine wpAny_pyNext_tuple_item st (show s.heap.IsTuple a its.toArray from p) (x:=u) (by simpa using hu) λh' v9 sb=>?_;have I1:Inv X pins σ H {s with heap:=h'}:=I.turned (t':=s.toks) (λb o hb e=>(sb.2 b hb).trans e) f0 f1 f3 f4 f5;obtain⟨o,e,c,d⟩:=id v9;exact#[u,rfl,jc (s:={s with heap:=h'}) e c d y8 #[x,H,I1,ru,#[rfl,λys hy=>by rw[I.tuple_inj hy hq];exact hx],v9,λb hb=>(hf b hb).1]]
 done:=by
  intro X hP hw hK hc i pins s σ H E I hf st hg;subst hP hw hK;obtain⟨xs,hq,hx⟩:=hg;obtain⟨its,rv,p,hz⟩:=I.tuple hq;obtain⟨f0,f1,f2,f3,f4,f5⟩:=hf it IV;have hl:=rv.length;exact wpAny_pyNext_tuple_end (I.ok.hd hc) st (show s.heap.IsTuple a its.toArray from p) Nw λh' eb=>#[rfl,I.turned (t':=s.toks) (λb o hb e=>eb b o hb e) f0 f1 f3 f4 f5]
 self:=λ_ _ _ _ _ st h=>wpAny_pyIter_tupleiter st h
def vH(it:KF)(lo:Int)(n:Nat):Turn P w K tg (Itr lo n) [it] it (λi h=>IsRangeIter h it (lo+(i:Nat)*1) ((n:Int)-(i:Nat)) 1) where
 mem:=IV
 obj:=λi h st b hb=>by
  have e:b=it:=by simpa using hb
  subst e;exact⟨_,st,λv z=>by
   have z':Data.fields _=Data.cell v:=z;cases z'⟩
 keep:=λi h h' st k=>k it IV _ st
 item:=by
  intro X hP hw hK hc i pins s σ H E I hf st hg;subst hP hw hK;obtain⟨f0,f1,f2,f3,f4,f5⟩:=hf it IV;have W:=Walks.range (prog:=X.prog) (w:=X.w) (I.ok.hd hc) it lo 1 n;refine W.item i s _ _ hg st λv h' tk hv v9 kk=>?_;obtain⟨t,rfl⟩:=hv;have I1:Inv X pins σ H {s with heap:=h',toks:=tk}:=I.turned (λb o hb e=>kk b o (by simpa using hb) e) f0 f1 f3 f4 f5;refine#[_,rfl,jc (s:={s with heap:=h',toks:=tk}) (n:="range_iterator") v9 rfl rfl y8 #[.int (lo+i),H,I1,#[t,?_],#[rfl,rfl],v9,λb hb=>(hf b hb).1]];rw[Int.mul_one]
 done:=by
  intro X hP hw hK hc i pins s σ H E I hf st hg;subst hP hw hK;obtain⟨f0,f1,f2,f3,f4,f5⟩:=hf it IV;exact wpAny_pyNext_range_end (I.ok.hd hc) st (by have:n<=i:=hg;lia) λh' eb=>#[rfl,I.turned (t':=s.toks) (λb o hb e=>eb b o hb e) f0 f1 f3 f4 f5]
 self:=λ_ _ _ _ _ st h=>wpAny_pyIter_rangeiter st h
section
variable {X:Cx}{tg:QG}
def pO(K:Ex)(tl:TE):TI:=λσ H R=>tl σ H λx H1=>∃a,x=.ref a/\(∃xs,SqL K H1 a xs)/\R (Itl K a) H1
def iTup(K:Ex)(tl:TE):TI:=λσ H R=>tl σ H λx H1=>∃a,x=.ref a/\(∃xs,SqT K H1 a xs)/\R (Itt K a) H1
def fM{l:QG}{tl:TE}(hl:PE X l tl):PI X tg l (pO X.K tl):=by
 intro pins s σ H R I h;refine thn (hl pins s σ H _ I h) λv s1 b9=>?_;obtain⟨x,H1,I1,r1,q1⟩:=b9;obtain⟨a,e,⟨xs,hq⟩,q⟩:=q1;subst e;cases r1;obtain⟨its,rv,p,hz⟩:=I1.list hq;refine wpAny_pyIter_list p.isList ?_;refine#[s1.heap.objs.size,[s1.heap.objs.size],_,_,H1,rfl,I1.kept (t':=s1.toks) λb o e=>Heap.get?_push_of_some _ e,vF a _,#[_,Heap.get?_push_size _ rfl,rfl,rfl],λb hb=>?_,q];have e:b=s1.heap.objs.size:=by simpa using hb
 subst e;exact I1.fpOk (E5 _) (I1.hok.fresh (E5 _))
def vI{l:QG}{tl:TE}(hl:PE X l tl):PI X tg l (iTup X.K tl):=by
 intro pins s σ H R I h;refine thn (hl pins s σ H _ I h) λv s1 b9=>?_;obtain⟨x,H1,I1,r1,q1⟩:=b9;obtain⟨a,e,⟨xs,hq⟩,q⟩:=q1;subst e;cases r1;obtain⟨its,rv,p,hz⟩:=I1.tuple hq;refine wpAny_pyIter_tuple (show s1.heap.IsTuple a its.toArray from p) ?_;refine#[s1.heap.objs.size,[s1.heap.objs.size],_,_,H1,rfl,I1.kept (t':=s1.toks) λb o e=>Heap.get?_push_of_some _ e,vG a _,#[_,Heap.get?_push_size _ rfl,rfl,rfl],λb hb=>?_,q];have e:b=s1.heap.objs.size:=by simpa using hb
 subst e;exact I1.fpOk (E5 _) (I1.hok.fresh (E5 _))
variable{pins:List (KF×QY)}{σ:St}{H:Hp}{s:KM}
def pP{R:It->Hp->Prop}{E:KB->KM->Prop}{lo hi:Int}{t u v:Tok}{tk:Nat}(I:Inv X pins σ H s)(h1:-(2^62)<=lo)(h2:lo<2^62)(h3:-(2^62)<=hi)(h4:hi<2^62)
  (q:R (Itr lo (hi-lo).toNat) H):QI (QJ X.prog X.w) X.A (pyIter (.ref s.heap.objs.size)) (PIE X pins σ tg R) E {s with heap:=s.heap.push {cls:=.type "range",data:=.fields [.int lo t,.int hi u,.int 1 v].toArray},toks:=tk}:=by
 refine wpAny_pyIter_range (IsRange.new ..) (small_one h1 h2 h3 h4) ?_;have I1:Inv X pins σ H {s with heap:=s.heap.push {cls:=.type "range",data:=.fields [.int lo t,.int hi u,.int 1 v].toArray},toks:=tk}:=I.kept λb o e=>Heap.get?_push_of_some _ e;refine⟨(s.heap.push {cls:=.type "range",data:=.fields [.int lo t,.int hi u,.int 1 v].toArray}).objs.size,[(s.heap.push {cls:=.type "range",data:=.fields [.int lo t,.int hi u,.int 1 v].toArray}).objs.size],_,_,H,rfl,
  I1.kept (t':=tk) λb o e=>Heap.get?_push_of_some _ e,vH _ lo (hi-lo).toNat,?_,λb hb=>?_,q⟩
 .have e1:lo+((0:Nat):Int)*1=lo:=by simp
  have e2:(((hi-lo).toNat:Nat):Int)-((0:Nat):Int)=Builtin.Range.rangeSize lo hi 1:=by rw[rangeSize_one];split<;>lia
  show IsRangeIter _ _ (lo+((0:Nat):Int)*1) ((((hi-lo).toNat:Nat):Int)-((0:Nat):Int)) 1;rw[e1,e2];exact Heap.get?_push_size _ rfl
 .have e:b=(s.heap.push {cls:=.type "range",data:=.fields [.int lo t,.int hi u,.int 1 v].toArray}).objs.size:=by simpa using hb
  subst e;exact I1.fpOk (E5 _) (I1.hok.fresh (E5 _))
def pQ(ta:TA):TI:=λσ H R=>ta σ H λvs H1=>∃j:Int,vs=[.int j]/\-(2^62)<=j/\j<2^62/\R (Itr 0 j.toNat) H1
def pR(ta:TA):TI:=λσ H R=>ta σ H λvs H1=>∃i j:Int,vs=[.int i,.int j]/\(-(2^62)<=i/\i<2^62/\-(2^62)<=j/\j<2^62)/\R (Itr i (j-i).toNat) H1
variable{pos:QT}
def fN{a:QG}{ta:TA}{p:QT}(hg:Gl X "range")(hm:X.mg "range"=m_)(ha:PA X [a] ta)(hs:autoParam (QP [a] X.env=[(false,QS a X.env)]) zA0):PI X tg (.Call (.Name "range" p) [a] [] pos) (pQ ta):=by
 intro pins s σ H R I h;refine Call_ (cV I hg hm boot_range (PyProof.Rows.callWith_type1 (thn (ha pos pins s σ H _ I h) λus s1 hh=>?_) hs rfl));obtain⟨vs,H1,I1,r1,q1⟩:=hh;obtain⟨j,e,q1,q2,q⟩:=q1;subst e;cases r1 with
 |cons r rr=>
  cases rr;obtain⟨t,rfl⟩:=r;exact call_range_1 (pP I1 t8 t8 q1 q2 (by simpa using q))
def vJ{a b:QG}{ta:TA}{p:QT}(hg:Gl X "range")(hm:X.mg "range"=m_)(ha:PA X [a,b] ta)(hs:autoParam (QP [a,b] X.env=[(false,QS a X.env),(false,QS b X.env)]) zA0)(j3:autoParam (QP [b] X.env=[(false,QS b X.env)]) zA0):
  PI X tg (.Call (.Name "range" p) [a,b] [] pos) (pR ta):=by
 intro pins s σ H R I h;refine Call_ (cV I hg hm boot_range (PyProof.Rows.callWith_type1 (thn (ha pos pins s σ H _ I h) λus s1 hh=>?_) (by rw[hs,j3]) (by rw[j3];rfl)));obtain⟨vs,H1,I1,r1,q1⟩:=hh;obtain⟨i,j,e,⟨q1,q2,q3,q4⟩,q⟩:=q1;subst e;cases r1 with
 |cons r rr=>
  cases rr with
  |cons r' rr=>
   cases rr;obtain⟨t,rfl⟩:=r;obtain⟨t',rfl⟩:=r';exact call_range_2 (pP I1 q1 q2 q3 q4 q)
def tFor(wi:TI)(g:TG)(tb:TS):TS:=λD σ H=>wi σ H λJ H1=>∃W:Nat->Nat->St->Hp->Prop,(∃m,W 0 m σ H1)/\∀i m σ H,W i m σ H->
 (J.stop i H/\D.nx σ H)\/(J.go i H/\∃N:St->Hp->Prop,(∀σ' H',N σ' H'->∃m',m'<m/\W (i+1) m' σ' H')/\∀x H',J.yld i H x H'->g x σ H' λσ2 H2=>tb {D with nx:=N,ct:=N,bk:=D.nx} σ2 H2)
def fO(fp:List KF)(h:QN):List (KF×QY):=fp.filterMap λb=>(h.get? b).map λo=>(b,o)
variable{fp:List KF}
def dG{h:QN}{b:KF}{o:QY}(hb:b∈fp)(e:h.get? b=be o):(b,o)∈fO fp h:=Hr.mpr #[b,hb,by rw[e];rfl]
def vK{h:QN}{p:KF×QY}(hp:p∈fO fp h):p.1∈fp/\h.get? p.1=be p.2:=by
 obtain⟨b,hb,e⟩:=Hr.mp hp;cases q:h.get? b with
 |none=>rw[q]at e;cases e
 |some o=>
  rw[q]at e;have e':(b,o)=p:=Option.some.inj e;subst e';exact#[hb,q]
def Inv.pinned(I:Inv X pins σ H s)(hf:∀b∈fp,FpOk X pins H b)(ho:∀b∈fp,∃o,s.heap.get? b=be o/\∀v,o.data≠.cell v):Inv X (pins++fO fp s.heap) σ H s:=
 I.pins_of λp hp=>(Fy.mp hp).elim (λz=>I.pin p (Fx _ z)) λz=>by
  obtain⟨hb,e⟩:=vK z;obtain⟨f0,f1,f2,_⟩:=hf p.1 hb;obtain⟨o,e',d⟩:=ho p.1 hb;rw[e]at e';cases e';exact#[e,f0,f1,f2,d]
def Inv.unpinned{pl:List (KF×QY)}(I:Inv X (pins++pl) σ H s):Inv X pins σ H s:=I.pins_of λp hp=>I.pin p (Fx _ (Gd _ hp))
def cK{iter:QG}{body:List P3}{wi:TI}{g:TG}{tb:TS}(hp:Q2 (QJ X.prog X.w) X.A X.env X.xe)(hc:X.calm=true)(hi:PI X tg iter wi)(hg:PG X tg g)(hb:PSs X body tb)
  (hs:∀x,Sm iter X.env x=pure x:=by intro _;rfl):PS X (.For tg iter body [] pos) (tFor wi g tb):=by
 intro pins s σ H D I h;refine wpAny_For (thn (hi pins s σ H _ I h) λv s1 h1=>thn h1 λKL s2 h2=>?_) hs;obtain⟨it,fp,tn,J,H2,e,I2,T,ox,f2,W,⟨m0,w0⟩,b_⟩:=h2;subst e;have l7:∀{H':Hp},(∀b∈fp,H' b=m_)->∀b∈fp,FpOk X pins H' b:=λhn b hb=>#[hn b hb,(f2 b hb).2];refine codeAny_forLoop_any (λn s'=>∃i σ' H',Inv X pins σ' H' s'/\tn i s'.heap/\(∀b∈fp,H' b=m_)/\W i n σ' H') ?_ m0 #[0,σ,H2,I2,ox,λb hb=>(f2 b hb).1,w0];rintro n s3⟨i,σ3,H3,I3,v_,Nq,w3⟩;rcases b_ i n σ3 H3 w3 with⟨stop,qn⟩|⟨go,N,hN,step⟩
 .refine Q5 hp (thn (T.done X rfl rfl rfl hc i pins s3 σ3 H3 X.xe I3 (l7 Nq) v_ stop) λr s4 b9=>?_);obtain⟨hr,I4⟩:=b9;subst hr;exact Rj #[σ3,H3,I4,qn]
 .refine Q5 hp (thn (T.item X rfl rfl rfl hc i pins s3 σ3 H3 X.xe I3 (l7 Nq) v_ go) λr s4 b9=>?_);obtain⟨u,hr,h4⟩:=b9;subst hr;refine Q5 hp (thn h4 λ_ s5 b9=>?_);obtain⟨x,H5,I5,r5,y5,y9,Lm⟩:=b9;have Oz:=I5.pinned (l7 Lm) (T.obj _ _ y9);refine Q5 hp (thn (hg _ s5 σ3 H5 x u _ Oz r5 (step x H5 y5)) λ_ s6 b9=>?_);obtain⟨σ6,H6,I6,q6⟩:=b9;refine Q5 hp (thn (hb _ s6 σ6 H6 _ I6 q6) λf s7 q7=>?_);have again:∀{σ7:St} {H7:Hp},Inv X (pins++fO fp s5.heap) σ7 H7 s7->N σ7 H7->∃m,m<n/\∃i σ' H',Inv X pins σ' H' s7/\tn i s7.heap/\(∀b∈fp,H' b=m_)/\W i m σ' H':=λ{σ7 H7} I7 n7=>by
   obtain⟨m',hm,w7⟩:=hN σ7 H7 n7;refine#[m',hm,i+1,σ7,H7,I7.unpinned,T.keep _ _ _ y9 λb hb o e=>(I7.pin (b,o) (Fx _ (Fx _ (dG hb e)))).1,λb hb=>?_,w7];obtain⟨o,e,d⟩:=T.obj _ _ y9 b hb;exact(I7.pin (b,o) (Fx _ (Fx _ (dG hb e)))).2.1
  cases f with
  |next=>obtain⟨σ7,H7,I7,n7⟩:=q7;exact again I7 n7
  |cont=>obtain⟨σ7,H7,I7,n7⟩:=q7;exact again I7 n7
  |brk=>obtain⟨σ7,H7,I7,q7⟩:=q7;exact#[σ7,H7,I7.unpinned,q7]
  |ret v=>obtain⟨x7,σ7,H7,I7,r7,q7⟩:=q7;exact#[x7,σ7,H7,I7.unpinned,r7,q7]
end
variable{g:TG}{tb:TS}{D:Ends}
def jd(Pv:Nat->St->Hp->Prop)(h0:Pv 0 σ H)(hl:∀i σ H,i<=xs.length->Pv i σ H->SqL K H a xs)
  (hs:∀i x σ H,xs[i]?=be x->Pv i σ H->g x σ H λσ2 H2=>tb {D with nx:=Pv (i+1),ct:=Pv (i+1),bk:=D.nx} σ2 H2) (hd:∀σ H,Pv xs.length σ H->D.nx σ H):
  ∃W:Nat->Nat->St->Hp->Prop,(∃m,W 0 m σ H)/\∀i m σ H,W i m σ H->
   ((Itl K a).stop i H/\D.nx σ H)\/((Itl K a).go i H/\∃N:St->Hp->Prop,(∀σ' H',N σ' H'->∃m',m'<m/\W (i+1) m' σ' H')/\∀x H',(Itl K a).yld i H x H'->g x σ H' λσ2 H2=>tb {D with nx:=N,ct:=N,bk:=D.nx} σ2 H2):=by
 refine#[λi m σ H=>m=xs.length-i/\i<=xs.length/\Pv i σ H,#[xs.length,IV,FB _,h0],?_];rintro i m σ H ⟨rfl,hi,p⟩;have q:=hl i σ H hi p;by_cases f7:i<xs.length
 .refine .inr #[#[xs,xs[i],q,by simp[f7]],Pv (i+1),λσ' H' p'=>#[xs.length-(i+1),t8,rfl,f7,p'],λx H' y=>?_];obtain⟨e,y⟩:=y;subst e;exact hs i x σ _ (y xs q) p
 .have e:i=xs.length:=by lia
  subst e;exact .inl #[#[xs,q,E5 _],hd σ H p]
def vL(Pv:Nat->St->Hp->Prop)(h0:Pv 0 σ H)(hl:∀i σ H,i<=xs.length->Pv i σ H->SqT K H a xs)
  (hs:∀i x σ H,xs[i]?=be x->Pv i σ H->g x σ H λσ2 H2=>tb {D with nx:=Pv (i+1),ct:=Pv (i+1),bk:=D.nx} σ2 H2) (hd:∀σ H,Pv xs.length σ H->D.nx σ H):
  ∃W:Nat->Nat->St->Hp->Prop,(∃m,W 0 m σ H)/\∀i m σ H,W i m σ H->
   ((Itt K a).stop i H/\D.nx σ H)\/((Itt K a).go i H/\∃N:St->Hp->Prop,(∀σ' H',N σ' H'->∃m',m'<m/\W (i+1) m' σ' H')/\∀x H',(Itt K a).yld i H x H'->g x σ H' λσ2 H2=>tb {D with nx:=N,ct:=N,bk:=D.nx} σ2 H2):=by
 refine#[λi m σ H=>m=xs.length-i/\i<=xs.length/\Pv i σ H,#[xs.length,IV,FB _,h0],?_];rintro i m σ H ⟨rfl,hi,p⟩;have q:=hl i σ H hi p;by_cases f7:i<xs.length
 .refine .inr #[#[xs,xs[i],q,by simp[f7]],Pv (i+1),λσ' H' p'=>#[xs.length-(i+1),t8,rfl,f7,p'],λx H' y=>?_];obtain⟨e,y⟩:=y;subst e;exact hs i x σ _ (y xs q) p
 .have e:i=xs.length:=by lia
  subst e;exact .inl #[#[xs,q,E5 _],hd σ H p]
def pS{lo:Int}{n:Nat}(Pv:Nat->St->Hp->Prop)(h0:Pv 0 σ H)
  (hs:∀i σ H,i<n->Pv i σ H->g (.int (lo+i)) σ H λσ2 H2=>tb {D with nx:=Pv (i+1),ct:=Pv (i+1),bk:=D.nx} σ2 H2) (hd:∀σ H,Pv n σ H->D.nx σ H):
  ∃W:Nat->Nat->St->Hp->Prop,(∃m,W 0 m σ H)/\∀i m σ H,W i m σ H->
   ((Itr lo n).stop i H/\D.nx σ H)\/((Itr lo n).go i H/\∃N:St->Hp->Prop,(∀σ' H',N σ' H'->∃m',m'<m/\W (i+1) m' σ' H')/\∀x H',(Itr lo n).yld i H x H'->g x σ H' λσ2 H2=>tb {D with nx:=N,ct:=N,bk:=D.nx} σ2 H2):=by
 refine#[λi m σ H=>m=n-i/\i<=n/\Pv i σ H,#[n,IV,FB _,h0],?_];rintro i m σ H ⟨rfl,hi,p⟩;by_cases f7:i<n
 .refine .inr #[f7,Pv (i+1),λσ' H' p'=>#[n-(i+1),t8,rfl,f7,p'],λx H' y=>?_];obtain⟨e,y⟩:=y;subst e y;exact hs i σ _ f7 p
 .have e:i=n:=by lia
  subst e;exact .inl #[E5 _,hd σ H p]
abbrev R2:=V->V->Hp->VK->Prop
def OpR(X:Cx)(f:KB->KB->Sb KB)(r:R2):Prop:=
 ∀(pins:List (KF×QY)) (s:KM) (σ:St) (H:Hp) (x y:V) (v u:KB) (Q:VK),Inv X pins σ H s->RelV x v->RelV y u->r x y H Q->
  QI (QJ X.prog X.w) X.A (f v u) (EP X pins σ Q) X.xe s
def UnR(X:Cx)(f:KB->Sb KB)(r:V->Hp->VK->Prop):Prop:=
 ∀(pins:List (KF×QY)) (s:KM) (σ:St) (H:Hp) (x:V) (v:KB) (Q:VK),Inv X pins σ H s->RelV x v->r x H Q->
  QI (QJ X.prog X.w) X.A (f v) (EP X pins σ Q) X.xe s
def bC(X:Cx)(f:KB)(r:List V->Hp->VK->Prop):Prop:=
 ∀(pins:List (KF×QY)) (s:KM) (σ:St) (H:Hp) (xs:List V) (us:List KB) (Q:VK),Inv X pins σ H s->Vals xs us->r xs H Q->
  QI (QJ X.prog X.w) X.A (call f us) (EP X pins σ Q) X.xe s
def TruR(X:Cx)(r:V->Hp->(Bool->Hp->Prop)->Prop):Prop:=
 ∀(pins:List (KF×QY)) (s:KM) (σ:St) (H:Hp) (x:V) (v:KB) (Q:Bool->Hp->Prop),Inv X pins σ H s->RelV x v->r x H Q->
  QI (QJ X.prog X.w) X.A (truthy v) (TP X pins σ Q) X.xe s
def tOp(r:R2)(ta tb:TE):TE:=λσ H Q=>ta σ H λx H1=>tb σ H1 λy H2=>r x y H2 Q
def tUn(r:V->Hp->VK->Prop)(ta:TE):TE:=λσ H Q=>ta σ H λx H1=>r x H1 Q
def rI(C:Int->Int->Prop)(g:Int->Int->V):R2:=λx y H Q=>∃i j,x=.int i/\y=.int j/\C i j/\Q (g i j) H
def rI0(g:Int->Int->V):R2:=λx y H Q=>∃i j,x=.int i/\y=.int j/\Q (g i j) H
def rU(g:Int->V):V->Hp->VK->Prop:=λx H Q=>∃i,x=.int i/\Q (g i) H
section
variable {X:Cx}{a b c:QG}{ta tb tc:TE}{pos:QT}
variable{f:KB->KB->Sb KB}
def binT(ha:PE X a ta)(hb:PE X b tb){pins:List (KF×QY)}{s:KM}{σ:St}{H:Hp}{R:V->V->Hp->Prop}(I:Inv X pins σ H s)
  (h:ta σ H λx H1=>tb σ H1 λy H2=>R x y H2) {Q:KB->KM->Prop} 
  (hf:∀v u s2 x y H2,Inv X pins σ H2 s2->RelV x v->RelV y u->R x y H2->QI (QJ X.prog X.w) X.A (f v u) Q X.xe s2):
  QI (QJ X.prog X.w) X.A (QS a X.env) (λv s₁=>QI (QJ X.prog X.w) X.A (QS b X.env) (λu s₂=>QI (QJ X.prog X.w) X.A (f v u) Q X.xe s₂) X.xe s₁) X.xe s:=by
 refine thn (ha pins s σ H _ I h) λv s1 b9=>?_;obtain⟨x,H1,I1,r1,q1⟩:=b9;refine thn (hb pins s1 σ H1 _ I1 q1) λu s2 b9=>?_;obtain⟨y,H2,I2,r2,q2⟩:=b9;exact hf v u s2 x y H2 I2 r1 r2 q2
def pT{op:Operator}{r:R2}(ho:OpR X (Q4 op) r)(ha:PE X a ta)(hb:PE X b tb):PE X (.BinOp a op b pos) (tOp r ta tb):=by
 intro pins s σ H Q I h;exact wpAny_BinOp (binT ha hb I h λv u s2 x y H2 I2 rx ry q=>ho pins s2 σ H2 x y v u Q I2 rx ry q)
def vM{op:UnaryOp}{r:V->Hp->VK->Prop}(ho:UnR X (unaryOp op) r)(ha:PE X a ta):PE X (.UnaryOp op a pos) (tUn r ta):=by
 intro pins s σ H Q I h;exact UnaryOp_ (thn (ha pins s σ H _ I h) λv s1 ⟨x,H1,I1,r1,q1⟩=>ho pins s1 σ H1 x v Q I1 r1 q1)
variable{g:Int->Int->Int}
def opI{C:Int->Int->Prop}
  (rule:∀(i j:Int) (t u:Tok) (s:KM) (Q:KB->KM->Prop) (E:KB->KM->Prop),C i j->Q (.int (g i j) s.toks) {s with toks:=s.toks+1}->QI (QJ X.prog X.w) X.A (f (.int i t) (.int j u)) Q E s):
  OpR X f (rI C λi j=>.int (g i j)):=by
 intro pins s σ H x y v u Q I rx ry h;obtain⟨i,j,rfl,rfl,hc,q⟩:=h;obtain⟨t,rfl⟩:=rx;obtain⟨t',rfl⟩:=ry;exact rule i j t t' s _ _ hc #[.int (g i j),H,I.tok _,#[_,rfl],q]
def opI0
  (rule:∀(i j:Int) (t u:Tok) (s:KM) (Q:KB->KM->Prop) (E:KB->KM->Prop),Q (.int (g i j) s.toks) {s with toks:=s.toks+1}->QI (QJ X.prog X.w) X.A (f (.int i t) (.int j u)) Q E s):
  OpR X f (rI0 λi j=>.int (g i j)):=by
 intro pins s σ H x y v u Q I rx ry h;obtain⟨i,j,rfl,rfl,q⟩:=h;obtain⟨t,rfl⟩:=rx;obtain⟨t',rfl⟩:=ry;exact rule i j t t' s _ _ #[.int (g i j),H,I.tok _,#[_,rfl],q]
def opB0{g:Int->Int->Bool}
  (rule:∀(i j:Int) (t u:Tok) (s:KM) (Q:KB->KM->Prop) (E:KB->KM->Prop),Q (.bool (g i j)) s->QI (QJ X.prog X.w) X.A (f (.int i t) (.int j u)) Q E s):
  OpR X f (rI0 λi j=>.bl (g i j)):=by
 intro pins s σ H x y v u Q I rx ry h;obtain⟨i,j,rfl,rfl,q⟩:=h;obtain⟨t,rfl⟩:=rx;obtain⟨t',rfl⟩:=ry;exact rule i j t t' s _ _ #[.bl (g i j),H,I,rfl,q]
def CDiv(i j:Int):Prop:=0<j/\j<1073741824
def CMul(i j:Int):Prop:=(-(2^64)<i/\i<2^64)\/(-(2^64)<j/\j<2^64)
def CMul.ok{i j:Int}(h:CMul i j):IntMulOk i j:=by
 rcases h with⟨h1,h2⟩|⟨h1,h2⟩
 .exact .of_left (intBits_le_64 h1 h2)
 .exact .of_right (intBits_le_64 h1 h2)
def vN:OpR X (Q4 .Add) (rI0 λi j=>.int (i+j)):=opI0 λ_ _ _ _ _ _ _ q=>add_int q
def pU:OpR X (Q4 .Sub) (rI0 λi j=>.int (i-j)):=opI0 λ_ _ _ _ _ _ _ q=>sub_int q
def vO:OpR X (Q4 .Mult) (rI CMul λi j=>.int (i*j)):=opI λ_ _ _ _ _ _ _ hc q=>mul_int q hc.ok
def vP:OpR X (Q4 .FloorDiv) (rI CDiv λi j=>.int (i/j)):=opI λi j _ _ _ _ _ hc q=>by
 have h1:(0:Int)<j:=hc.1;have h2:j<1073741824:=hc.2;exact floordiv_int t8 (by rw[Int.fdiv_eq_ediv_of_nonneg i t8];exact q) (.inl (PyProof.noPylong_small t8))
def vQ:OpR X (Q4 .Mod) (rI (λ_ j=>0<j) λi j=>.int (i%j)):=opI λi j _ _ _ _ _ hc q=>by
 have h1:(0:Int)<j:=hc;exact mod_int' t8 (by rw[Int.fmod_eq_emod_of_nonneg i t8];exact q)
def vR:OpR X (Q4 .Mod) (rI (λ_ j=>j≠0) λi j=>.int (i.fmod j)):=opI λ_ _ _ _ _ _ _ hc q=>mod_int' hc q
def unI{f:KB->Sb KB}{g:Int->Int}
  (rule:∀(i:Int) (t:Tok) (s:KM) (Q:KB->KM->Prop) (E:KB->KM->Prop),Q (.int (g i) s.toks) {s with toks:=s.toks+1}->QI (QJ X.prog X.w) X.A (f (.int i t)) Q E s):
  UnR X f (rU λi=>.int (g i)):=by
 intro pins s σ H x v Q I rx h;obtain⟨i,rfl,q⟩:=h;obtain⟨t,rfl⟩:=rx;exact rule i t s _ _ #[.int (g i),H,I.tok _,#[_,rfl],q]
def vS:UnR X (unaryOp .USub) (rU λi=>.int (-i)):=unI λ_ _ _ _ _ q=>neg_int q
end
def scal:V->V->Bool
 |.non,.non=>true|.non,.int _=>true|.int _,.non=>true|.non,.bl _=>true|.bl _,.non=>true|.non,.str _=>true|.str _,.non=>true
 |.int _,.int _=>true|.bl _,.bl _=>true|.str _,.str _=>true|.byt _,.byt _=>true
 |.int _,.str _=>true|.str _,.int _=>true|.bl _,.str _=>true|.str _,.bl _=>true
 |_,_=>false
def rEq:R2:=λx y H Q=>scal x y=true/\Q (.bl (decide (x=y))) H
def rNe:R2:=λx y H Q=>scal x y=true/\Q (.bl (!decide (x=y))) H
def pV{i j:Int}:decide (V.int i=V.int j)=(i==j):=by
 rw[F6];simp
def pW{i j:Bool}:decide (V.bl i=V.bl j)=(i==j):=by
 rw[F6];simp
def pX{i j:t6}:decide (V.str i=V.str j)=(i==j):=by
 rw[F6];simp
def pY{i j:Array UInt8}:decide (V.byt i=V.byt j)=(i.toList==j.toList):=by
 rw[F6];cases i;cases j;simp
section
variable {X:Cx}{a b c:QG}{ta tb tc:TE}{pos:QT}
def aM{pins:List (KF×QY)}{σ:St}{H:Hp}{s:KM}{Q:VK}{k k':Bool}(I:Inv X pins σ H s)(q:Q (.bl k) H)(e:k=k'):EP X pins σ Q (.bool k') s:=by
 subst e;exact#[.bl k,H,I,rfl,q]
def je:OpR X (QW .Eq) rEq:=by
 intro pins s σ H x y v u Q I rx ry h;obtain⟨hs,q⟩:=h;cases x with
 |non=>
  cases rx;cases y with
  |non=>cases ry;exact PySem.EqNone.eq_none_none (aM I q IV)
  |bl j=>cases ry;exact PySem.EqNone.eq_none_bool (aM I q IV)
  |int j=>obtain⟨t',rfl⟩:=ry;exact PySem.EqNone.eq_none_int (aM I q IV)
  |str j=>obtain⟨t',rfl⟩:=ry;exact PySem.EqNone.eq_none_str (aM I q IV)
  |_=>exact absurd (show false=true from hs) Fk
 |bl i=>
  cases rx;cases y with
  |non=>cases ry;exact PySem.EqNone.eq_bool_none (aM I q IV)
  |bl j=>cases ry;exact eq_bool (aM I q pW)
  |str j=>obtain⟨t',rfl⟩:=ry;exact PySem.EqMixed.eq_bool_str (aM I q IV)
  |_=>exact absurd (show false=true from hs) Fk
 |int i=>
  obtain⟨t,rfl⟩:=rx;cases y with
  |non=>cases ry;exact PySem.EqNone.eq_int_none (aM I q IV)
  |int j=>obtain⟨t',rfl⟩:=ry;exact eq_int (aM I q pV)
  |str j=>obtain⟨t',rfl⟩:=ry;exact PySem.EqMixed.eq_int_str (aM I q IV)
  |_=>exact absurd (show false=true from hs) Fk
 |str i=>
  obtain⟨t,rfl⟩:=rx;cases y with
  |non=>cases ry;exact PySem.EqNone.eq_str_none (aM I q IV)
  |bl j=>cases ry;exact PySem.EqMixed.eq_str_bool (aM I q IV)
  |int j=>obtain⟨t',rfl⟩:=ry;exact PySem.EqMixed.eq_str_int (aM I q IV)
  |str j=>obtain⟨t',rfl⟩:=ry;exact eq_str (aM I q pX)
  |_=>exact absurd (show false=true from hs) Fk
 |byt i=>
  obtain⟨t,rfl⟩:=rx;cases y with
  |byt j=>obtain⟨t',rfl⟩:=ry;exact eq_bytes (aM I q pY)
  |_=>exact absurd (show false=true from hs) Fk
 |_=>cases y<;>exact absurd (show false=true from hs) Fk
def vT:OpR X (QW .NotEq) rNe:=by
 intro pins s σ H x y v u Q I rx ry h;obtain⟨hs,q⟩:=h;cases x with
 |non=>
  cases rx;cases y with
  |non=>cases ry;exact PySem.EqNone.ne_none_none (aM I q IV)
  |bl j=>cases ry;exact PySem.EqNone.ne_none_bool (aM I q IV)
  |int j=>obtain⟨t',rfl⟩:=ry;exact PySem.EqNone.ne_none_int (aM I q IV)
  |str j=>obtain⟨t',rfl⟩:=ry;exact PySem.EqNone.ne_none_str (aM I q IV)
  |_=>exact absurd (show false=true from hs) Fk
 |bl i=>
  cases rx;cases y with
  |non=>cases ry;exact PySem.EqNone.ne_bool_none (aM I q IV)
  |bl j=>cases ry;exact ne_bool (aM I q (congrArg not pW))
  |str j=>obtain⟨t',rfl⟩:=ry;exact PySem.EqMixed.ne_bool_str (aM I q IV)
  |_=>exact absurd (show false=true from hs) Fk
 |int i=>
  obtain⟨t,rfl⟩:=rx;cases y with
  |non=>cases ry;exact PySem.EqNone.ne_int_none (aM I q IV)
  |int j=>obtain⟨t',rfl⟩:=ry;exact ne_int (aM I q (congrArg not pV))
  |str j=>obtain⟨t',rfl⟩:=ry;exact PySem.EqMixed.ne_int_str (aM I q IV)
  |_=>exact absurd (show false=true from hs) Fk
 |str i=>
  obtain⟨t,rfl⟩:=rx;cases y with
  |non=>cases ry;exact PySem.EqNone.ne_str_none (aM I q IV)
  |bl j=>cases ry;exact PySem.EqMixed.ne_str_bool (aM I q IV)
  |int j=>obtain⟨t',rfl⟩:=ry;exact PySem.EqMixed.ne_str_int (aM I q IV)
  |str j=>obtain⟨t',rfl⟩:=ry;exact ne_str (aM I q (congrArg not pX))
  |_=>exact absurd (show false=true from hs) Fk
 |byt i=>
  obtain⟨t,rfl⟩:=rx;cases y with
  |byt j=>obtain⟨t',rfl⟩:=ry;exact ne_bytes (aM I q (congrArg not pY))
  |_=>exact absurd (show false=true from hs) Fk
 |_=>cases y<;>exact absurd (show false=true from hs) Fk
def pZ:OpR X (QW .Lt) (rI0 λi j=>.bl (decide (i<j))):=opB0 λ_ _ _ _ _ _ _ q=>lt_int q
def vU:OpR X (QW .LtE) (rI0 λi j=>.bl (decide (i<=j))):=opB0 λ_ _ _ _ _ _ _ q=>le_int q
def vV:OpR X (QW .Gt) (rI0 λi j=>.bl (decide (j<i))):=opB0 λ_ _ _ _ _ _ _ q=>gt_int q
def vW:OpR X (QW .GtE) (rI0 λi j=>.bl (decide (j<=i))):=opB0 λ_ _ _ _ _ _ _ q=>ge_int q
def jg:OpR X (QW .Is) (λx y H Q=>y=.non/\Q (.bl (decide (x=.non))) H):=by
 intro pins s σ H x y v u Q I rx ry h;obtain⟨rfl,q⟩:=h;cases ry;refine is_none_gen (aM I q ?_);cases x<;>first
  |(cases rx;rfl)
  |(obtain⟨t,rfl⟩:=rx;rfl)
def vX:OpR X (QW .IsNot) (λx y H Q=>y=.non/\Q (.bl (!decide (x=.non))) H):=by
 intro pins s σ H x y v u Q I rx ry h;obtain⟨rfl,q⟩:=h;cases ry;refine isnot_none_gen (aM I q ?_);cases x<;>first
  |(cases rx;rfl)
  |(obtain⟨t,rfl⟩:=rx;rfl)
variable{r:R2}
def OpR.or{f:KB->KB->Sb KB}{r':R2}(h:OpR X f r)(h':OpR X f r'):OpR X f (λx y H Q=>r x y H Q\/r' x y H Q):=by
 intro pins s σ H x y v u Q I rx ry q;rcases q with q|q
 .exact h pins s σ H x y v u Q I rx ry q
 .exact h' pins s σ H x y v u Q I rx ry q
variable{op:Sq}
def nomark(b:QG)(h:autoParam (op≠.In) zA1)(h2:autoParam (op≠.NotIn) zA1):Q6 op b=false:=by
 have e1:(op==CmpOp.In)=false:=by cases op<;>first|rfl|exact absurd rfl h
 have e2:(op==CmpOp.NotIn)=false:=by cases op<;>first|rfl|exact absurd rfl h2
 cases b<;>simp[Q6,e1,e2]
def vY(ho:OpR X (QW op) r)(ha:PE X a ta)(hb:PE X b tb)(hm:Q6 op b=false):PE X (.Compare a [op] [b] pos) (tOp r ta tb):=by
 intro pins s σ H Q I h;exact wpAny_Compare1 (binT ha hb I h λv u s2 x y H2 I2 rx ry q=>ho pins s2 σ H2 x y v u Q I2 rx ry q) hm
def vZ(t:TE):TT:=λσ H Q=>t σ H λx H'=>∃k,x=.bl k/\Q k H'
def qa(ho:OpR X (QW op) r)(ha:PE X a ta)(hb:PE X b tb)(hm:Q6 op b=false):PT X (.Compare a [op] [b] pos) (vZ (tOp r ta tb)):=by
 intro pins s σ H Q I h;refine wpAny_isTrue_Compare1 (thn (ha pins s σ H _ I h) λv s1 ⟨x,H1,I1,r1,q1⟩=>thn (hb pins s1 σ H1 _ I1 q1) λu s2 ⟨y,H2,I2,r2,q2⟩=>
  thn (ho pins s2 σ H2 x y v u _ I2 r1 r2 q2) λc s3 hh=>?_) hm
 obtain⟨z,H3,I3,r3,k,e,q3⟩:=hh;subst e;cases r3;exact Rn #[H3,I3,q3]
def TruV(K:Ex)(x:V)(H:Hp)(k:Bool):Prop:=
 match x with
 |.non=>k=false
 |.bl b=>k=b
 |.int i=>k=(i !=0)
 |.str y=>y.length<=sizeLine/\k=((y.length:Int) !=0)
 |.byt y=>y.size<=sizeLine/\k=((y.size:Int) !=0)
 |.ref p=>(∃xs,SqL K H p xs/\k=!xs.isEmpty)\/(∃xs,SqT K H p xs/\k=!xs.isEmpty)\/∃a8,H p=be (.dK a8)/\k=!a8.isEmpty
 |_=>False
def wa{κ:Type}{a8:List (κ×V)}{vs:List (κ×KB)}(r:KV a8 vs):(!vs.isEmpty)=!a8.isEmpty:=by
 cases r<;>rfl
def isEmpty_of{xs:List V}{its:List KB}(r:Vals xs its):(!its.toArray.isEmpty)=!xs.isEmpty:=by
 cases r<;>simp
def line63:(sizeLine:Nat)<2^63:=by rw[RQ];decide
def wc:TruR X (λx H Q=>∃k,TruV X.K x H k/\Q k H):=by
 intro pins s σ H x v Q I rx h;obtain⟨k,e,q⟩:=h;have hl:=line63;have hs:sizeLine=16777216:=RQ;cases x with
 |non=>
  cases rx;have e':k=false:=e;subst e';exact truthy_none #[H,I,q]
 |bl b=>
  cases rx;have e':k=b:=e;subst e';exact Rn #[H,I,q]
 |int i=>
  obtain⟨t,rfl⟩:=rx;have e':k=(i !=0):=e;subst e';exact PySem.P.truthy_int #[H,I,q]
 |str y=>
  obtain⟨t,rfl⟩:=rx;obtain⟨hy,e'⟩:y.length<=sizeLine/\k=((y.length:Int) !=0):=e;subst e';exact PySem.P.truthy_str t8 #[H,I.tok _,q]
 |byt y=>
  obtain⟨t,rfl⟩:=rx;obtain⟨hy,e'⟩:y.size<=sizeLine/\k=((y.size:Int) !=0):=e;subst e';exact truthy_bytes t8 #[H,I.tok _,q]
 |ref p=>
  cases rx;have e':(∃xs,SqL X.K H p xs/\k=!xs.isEmpty)\/(∃xs,SqT X.K H p xs/\k=!xs.isEmpty)\/∃a8,H p=be (.dK a8)/\k=!a8.isEmpty:=e;rcases e' with⟨xs,hx,e'⟩|⟨xs,hx,e'⟩|⟨a8,hx,e'⟩
  .subst e';obtain⟨its,r,pl,hz⟩:=I.list hx;have a_:=r.length;exact wpAny_truthy_list pl.isList (by simp only[Fb];lia) #[H,I.tok _,by rw[isEmpty_of r];exact q]
  .subst e';obtain⟨its,r,pl,hz⟩:=I.tuple hx;have a_:=r.length;exact truthy_tuple pl (by simp only[Fb];lia) #[H,I.tok _,by rw[isEmpty_of r];exact q]
  .subst e';obtain⟨hz,hS,vs,r,m⟩:a8.length<=sizeLine/\(p==Q7)=false/\∃vs,KV a8 vs/\s.heap.DictOf (bH X.prog X.w) p vs:=I.hok p _ hx;have a_:a8.length=vs.length:=Paired.length r;exact wpAny_truthy_dict hS m t8 #[H,I.tok _,by rw[wa r];exact q]
 |_=>exact(show False from e).elim
def we(ha:PE X a ta)(he:∀gt,isTrue a X.env gt=(do let v <-gt;RC a.pos;Rr [v] (truthy v))):
  PT X a (λσ H Q=>ta σ H λx H'=>∃k,TruV X.K x H' k/\Q k H'):=by
 intro pins s σ H Q I h;exact isTrue_plain (thn (ha pins s σ H _ I h) λv s1 ⟨x,H1,I1,r1,q1⟩=>wc pins s1 σ H1 x v Q I1 r1 q1) (he _)
def wg:OpR X (Q4 .Add) (λx y H Q=>∃i j,x=.str i/\y=.str j/\i.length+j.length<=sizeLine/\Q (.str (i++j)) H):=by
 intro pins s σ H x y v u Q I rx ry h;obtain⟨i,j,rfl,rfl,hz,q⟩:=h;obtain⟨t,rfl⟩:=rx;obtain⟨t',rfl⟩:=ry;exact add_str (λt' tk=>#[.str (i++j),H,I.tok _,#[_,rfl],q]) hz
variable{us:List KB}
def bS{x:V}(r:Vals [x] us):∃u,us=[u]/\RelV x u:=by
 cases r with
 |cons r1 r2=>cases r2;exact#[_,rfl,r1]
def fP{x y:V}(r:Vals [x,y] us):∃u w',us=[u,w']/\RelV x u/\RelV y w':=by
 cases r with
 |cons r1 r2=>
  cases r2 with
  |cons r3 r4=>cases r4;exact#[_,_,rfl,r1,r3]
def wj:bC X (.builtin "abs") (λxs H Q=>∃i,xs=[.int i]/\Q (.int (if i<0 then -i else i)) H):=by
 intro pins s σ H xs us Q I r h;obtain⟨i,rfl,q⟩:=h;obtain⟨u,rfl,t,rfl⟩:=bS r;exact call_abs_int λu tk=>#[.int (if i<0 then -i else i),H,I.tok _,#[_,rfl],q]
def wk(hc:X.calm=true):bC X (.builtin "max") (λxs H Q=>∃i j,xs=[.int i,.int j]/\Q (.int (if j>i then j else i)) H):=by
 intro pins s σ H xs us Q I r h;obtain⟨i,j,rfl,q⟩:=h;obtain⟨u,w',rfl,⟨t,rfl⟩,⟨t',rfl⟩⟩:=fP r;refine max_two_ints (I.ok.hd hc) λh' tk k=>#[_,H,I.kept k,?_,q];by_cases hj:j>i
 .rw[if_pos hj,if_pos hj];exact#[_,rfl]
 .rw[if_neg hj,if_neg hj];exact#[_,rfl]
def wl:bC X (.type "int") (λxs H Q=>(∃i,xs=[.int i]/\Q (.int i) H)\/∃k,xs=[.bl k]/\Q (.int (if k then 1 else 0)) H):=by
 intro pins s σ H xs us Q I r h;rcases h with⟨i,rfl,q⟩|⟨k,rfl,q⟩
 .obtain⟨u,rfl,t,rfl⟩:=bS r;exact call_int_int #[.int i,H,I,#[_,rfl],q]
 .obtain⟨u,rfl,r1⟩:=bS r;cases r1;exact call_int_bool #[.int (if k then 1 else 0),H,I.tok _,#[_,rfl],q]
def wn:bC X (.type "str") (λxs H Q=>∃i,xs=[.int i]/\i.natAbs.log2<1920/\Q (.str (toString i)) H):=by
 intro pins s σ H xs us Q I r h;obtain⟨i,rfl,hz,q⟩:=h;obtain⟨u,rfl,t,rfl⟩:=bS r;exact PySem.P.str_of_int hz #[.str _,H,I.tok _,#[_,rfl],q]
def LenV(K:Ex)(x:V)(H:Hp)(n:Nat):Prop:=
 match x with
 |.str y=>y.length<=sizeLine/\n=y.length
 |.byt y=>y.size<=sizeLine/\n=y.size
 |.ref p=>(∃xs,SqL K H p xs/\n=xs.length)\/∃xs,SqT K H p xs/\n=xs.length
 |_=>False
def jh:bC X (.builtin "len") (λxs H Q=>∃x n,xs=[x]/\LenV X.K x H n/\Q (.int n) H):=by
 intro pins s σ H xs us Q I r h;obtain⟨x,n,rfl,e,q⟩:=h;obtain⟨u,rfl,rx⟩:=bS r;have hl:=line63;have hs:sizeLine=16777216:=RQ;cases x with
 |str y=>
  obtain⟨t,rfl⟩:=rx;obtain⟨hy,e'⟩:y.length<=sizeLine/\n=y.length:=e;subst e';exact len_str t8 #[.int _,H,I.tok _,#[_,rfl],q]
 |byt y=>
  obtain⟨t,rfl⟩:=rx;obtain⟨hy,e'⟩:y.size<=sizeLine/\n=y.size:=e;subst e';exact len_bytes t8 #[.int _,H,I.tok _,#[_,rfl],q]
 |ref p=>
  cases rx;have e':(∃xs,SqL X.K H p xs/\n=xs.length)\/∃xs,SqT X.K H p xs/\n=xs.length:=e;rcases e' with⟨xs,hx,e'⟩|⟨xs,hx,e'⟩
  .subst e';obtain⟨its,r',pl,hz⟩:=I.list hx;have a_:=r'.length;exact Calls.call_len_list pl.isList (by simp only[Fb];lia) #[.int xs.length,H,I.tok _,#[_,by simp only[Fb];rw[a_]],q]
  .subst e';obtain⟨its,r',pl,hz⟩:=I.tuple hx;have a_:=r'.length;exact len_tuple pl (by simp only[Fb];lia) #[.int xs.length,H,I.tok _,#[_,by simp only[Fb];rw[a_]],q]
 |_=>exact(show False from e).elim
end
structure ObjM(h:QN)(x dx C:KF)(mA:Str->Option KB):Prop where
 obj:h.get? x=be (instObj C dx)
 ns:h.Ns1 dx mA
 ne:dx≠x
variable{mA:t6->Option KB}
def wo{dx:KF}(n:h.Ns1 dx mA):∃od,h.get? dx=be od/\∀name,lookIn name od=be (mA name):=by
 obtain⟨o,es,ep,ho,hd,hk,_,hm⟩:=n;refine#[o,ho,λname=>?_];have e:=hm name;unfold nsFind findBy at e;rw[<-Array.find?_toList]at e;unfold lookIn;rw[hd];dsimp only;split
 .rename_i y q;rw[q]at e;exact congrArg be e
 .rename_i q;rw[q]at e;have a:es.toList.any (·.refKey)=false:=by
   rw[List.any_eq_false];intro y hy;obtain⟨z,t,l8⟩:=hk y (Array.mem_toList_iff.mp hy);simp[DictEntry.refKey,l8]
  have a':¬es.toList.any (·.refKey)=true:=by rw[a];exact Fk
  rw[if_neg a'];exact congrArg be e
variable{C:KF}
def ObjM.look{x dx:KF}(I:ObjM h x dx C mA):∃od,InstAt h x (instObj C dx) C (be od)/\∀name,lookIn name od=be (mA name):=
 let ⟨od,ho,hl⟩:=wo I.ns
 #[od,#[I.obj,rfl,rfl,ho],hl]
section
variable {prog:QH}{w:QL}{A:QM}{E:KB->KM->Prop}{s:KM}{K:Ex}{x dx C f:KF}{mA:t6->Option KB}{name:t6}{v:KB}
def wt{Ln:Bool}{Q:KB->KM->Prop}(X:K.In s.heap)(I:ObjM s.heap x dx C mA)(hg:plainGet K C name=true)(hh:hasDictIn K C=true)
  (ha:findIn K (.ref C) name=be m_) (hv:mA name=be v) (OA:handedIn v=true) (h:Q v {s with toks:=s.toks+1}):
  QI (QJ prog w) A (getAttr (.ref x) name Ln) Q E s:=by
 obtain⟨od,J,hl⟩:=I.look;exact get_value X J (plainGet_of hg).1 (findObj_own hh ha rfl (by rw[hl,hv])) OA h
def wu{pl:Sb Bool}{Q:KB×List KB->KM->Prop}(X:K.In s.heap)(I:ObjM s.heap x dx C mA)(hg:plainGet K C name=true)
  (hf:findIn K (.ref C) name=be (be (.ref f))) (ht:isFn K (.ref f)=true) (hv:mA name=m_) (h:Q (.ref f,[.ref x]) s):
  QI (QJ prog w) A (RZ (.ref x) name pl) Q E s:=by
 obtain⟨od,J,hl⟩:=I.look;exact method_fn X J (plainGet_of hg).1 (plainGet_of hg).2 hf (beq_iff_eq.mp ht) (by show(lookIn name od).map (·.isSome)=be false;rw[hl,hv];rfl) h
def wv{ns:List t6}{Q:Unit->KM->Prop}(X:K.In s.heap)(I:ObjM s.heap x dx C mA)
  (hs:findIn K (.ref C) "__setattr__"=be (be (.builtin "object.__setattr__"))) (hp:plainOver K C=true) (ht:takerIn K C name=be m_) (hh:hasDictIn K C=true)
  (hw:PySem.Within mA ns) (ge:ns.length<=sizeLine)
  (h:∀h',ObjM h' x dx C (λy=>if y=name then be v else mA y)->Heap.SameBut dx s.heap h'->Q () {s with heap:=h',toks:=s.toks+2}):
  QI (QJ prog w) A (setAttr (.ref x) name v) Q E s:=by
 obtain⟨od,J,hl⟩:=I.look;refine set_plain X J hs (osa_open (s:={s with toks:=s.toks+1}) (r:=m_) X J hp ht λb=>?_);obtain⟨cd,hc,fI⟩:=any_some hh;have hx:s.heap.get? x=be #[.ref C,be dx,.plain,[].toArray]:=I.obj;refine Os (QK (Os (Os (wpAny_loadPart hx (Os (PySem.W.Looks.here (s:={s with toks:=s.toks+1}) (looks_clsIn X hc) ?_))))));rw[fI];refine QK (a:=be dx) (Os (QK (Os ?_)));refine wpAny_nsSet1 (s:={s with toks:=s.toks+1}) I.ns λh' IW j3=>?_;obtain⟨oD,P8,P9,OB,OC,OD⟩:=IW.count (PySem.Within.cons name v hw);refine Os (wpAny_lookBehind OB (by rw[OC];exact pastItsLine_dict (Fh OD (by rw[Fe];lia))) ?_);exact QK (h _ #[(j3.2 _ (Ne.symm I.ne)).trans I.obj,IW,I.ne] j3)
def ww{R:Result->KM->Prop}{vs:List KB}{kw:List (t6×KB)}(X:K.In s.heap)(hm:makesIn K C=true)
  (hi:findIn K (.ref C) "__init__"=be (be (.ref f))) (hf:typeIn K (.ref f)=be (.type "function"))
  (h:RD (QJ prog w) (A.under (.builtin "type.__call__" #[.ref C::vs,kw])) (.call (.ref f) #[.ref (s.heap.objs.size+1)::vs,kw]) (InitBack (s.heap.objs.size+1) R)
   {s with heap:=(s.heap.push emptyDict).push (instObj C s.heap.objs.size)}):
  RD (QJ prog w) A (.call (.ref C) #[vs,kw]) R s:=by
 obtain⟨hh,g,d,t,os⟩:=s;exact make_core (makes_of X hm) (looks_findIn X hi) (λself=>bind_fn X self hf) (.inl rfl) h
end
def putF(f:t6)(v:V):List (t6×V)->List (t6×V)
 |[]=>[(f,v)]
 |(g,x)::r=>if g=f then(g,v)::r else(g,x)::putF f v r
def qc(f g:t6)(v:V):∀fs:List (t6×V),(putF f v fs).lookup g=if g=f then be v else fs.lookup g
 |[]=>by
  show F7 g [(f,v)]=_;by_cases h:g=f
  .have hb:(g==f)=true:=beq_iff_eq.mpr h;simp only[F7,hb,if_pos h]
  .have hb:(g==f)=false:=beq_eq_false_iff_ne.mpr h;simp only[F7,hb,if_neg h]
 |(k,x)::r=>by
  have ih:=qc f g v r;rw[show putF f v ((k,x)::r)=(if k=f then(k,v)::r else(k,x)::putF f v r)from rfl];by_cases hk:k=f
  .rw[if_pos hk];by_cases h:g=k
   .have hb:(g==k)=true:=beq_iff_eq.mpr h;simp only[F7,hb,if_pos (h.trans hk)]
   .have hb:(g==k)=false:=beq_eq_false_iff_ne.mpr h;simp only[F7,hb,if_neg (λe:g=f=>h (e.trans hk.symm))]
  .rw[if_neg hk];by_cases h:g=k
   .have hb:(g==k)=true:=beq_iff_eq.mpr h;simp only[F7,hb,if_neg (λe:g=f=>hk (h.symm.trans e))]
   .have hb:(g==k)=false:=beq_eq_false_iff_ne.mpr h;simp only[F7,hb];exact ih
def ji(f:t6)(v:V):∀fs:List (t6×V),f∈(putF f v fs).map (·.1)/\∀g,g∈fs.map (·.1)->g∈(putF f v fs).map (·.1)
 |[]=>#[by simp[putF],λg h=>by simp at h]
 |(k,x)::r=>by
  obtain⟨i1,i2⟩:=ji f v r;rw[show putF f v ((k,x)::r)=(if k=f then(k,v)::r else(k,x)::putF f v r)from rfl];by_cases hk:k=f
  .rw[if_pos hk];subst hk;exact#[IV,λg h=>by simpa using h]
  .rw[if_neg hk];refine#[?_,λg h=>?_]
   .rw[Fi];exact Fc _ i1
   .rw[Fi]at h ⊢;rcases E8.mp h with e|e
    .exact E8.mpr (.inl e)
    .exact Fc _ (i2 g e)
def qd(f:t6)(v:V):∀fs:List (t6×V),(putF f v fs).length<=fs.length+1
 |[]=>by simp[putF]
 |(k,x)::r=>by
  have ih:=qd f v r;rw[show putF f v ((k,x)::r)=(if k=f then(k,v)::r else(k,x)::putF f v r)from rfl];by_cases hk:k=f
  .rw[if_pos hk,Fe,Fe];lia
  .rw[if_neg hk,Fe,Fe];lia
def RelO.some_of{v:V}{o:Option KB}(r:RelO (be v) o):∃u,o=be u/\RelV v u:=by
 cases o with
 |none=>exact(show False from r).elim
 |some u=>exact#[u,rfl,r]
def RelO.none_of{o:Option KB}(r:RelO m_ o):o=none:=by
 cases o with
 |none=>rfl
 |some u=>exact(show False from r).elim
def wx{v:V}(r:RelV v u):handedIn u=true:=by
 cases v with
 |non=>cases(show u=Value.none from r);rfl
 |bl b=>cases(show u=Value.bool b from r);rfl
 |int i=>obtain⟨t,e⟩:=(show ∃t,u=Value.int i t from r);cases e;rfl
 |str x=>obtain⟨t,e⟩:=(show ∃t,u=Value.str x t from r);cases e;rfl
 |byt b=>obtain⟨t,e⟩:=(show ∃t,u=Value.bytes b t from r);cases e;rfl
 |flt b=>obtain⟨t,e⟩:=(show ∃t,u=Value.float b t from r);cases e;rfl
 |ref a=>cases(show u=Value.ref a from r);rfl
 |ty n=>cases(show u=Value.type n from r);rfl
section
variable {P:QH}{w:QL}{H H':Hp}{h h':QN}{a C dx:KF}{fs l5:List (t6×V)}
def fQ(hok:HOk P w H h)(e:H a=be (.ins C dx fs)):∃mA,ObjM h a dx C mA/\(∀f,RelO (fs.lookup f) (mA f))/\PySem.Within mA (fs.map (·.1))/\fs.length<=1000/\H dx=be (.own a):=by
 obtain⟨d,z,ne,ob,mA,n,r,q⟩:=(show ObjOk P w H h a (.ins C dx fs)from hok a _ e);exact#[mA,#[ob,n,ne],r,q,z,d]
end
structure Cls(K:Ex)(C:KF):Prop where
 pg:plainGet K C Str.empty=true
 hd:hasDictIn K C=true
 po:plainOver K C=true
 sa:findIn K (.ref C) "__setattr__"=be (be (.builtin "object.__setattr__"))
def Cls.get(c:Cls K C)(f:t6):plainGet K C f=true:=c.pg
def NoAttr(K:Ex)(C:KF)(f:t6):Prop:=findIn K (.ref C) f=be m_
def NoAttr.taker{f:t6}(n:NoAttr K C f):takerIn K C f=be none:=by
 unfold takerIn;rw[show findIn K (.ref C) f=be m_ from n];rfl
structure Con(K:Ex)(C:KF)(f:Str)(v:V)(u:KB):Prop where
 at_:findIn K (.ref C) f=be (be u)
 rel:RelV v u
 get:specialIn K u "__get__"=be m_
 cp:PySem.W.copiedNames.contains f=false
structure Meth(K:Ex)(C:KF)(m:Str)(f:KF):Prop where
 at_:findIn K (.ref C) m=be (be (.ref f))
 fn:isFn K (.ref f)=true
 kp:keepIn K (.ref f)=true
section
variable {X:Cx}{pins:List (KF×QY)}{σ:St}{H:Hp}{s:KM}{a C dx:KF}{fs:List (t6×V)}{f:t6}{v:V}{A:QM}{E:KB->KM->Prop}
variable{Q:KB->KM->Prop}
def wy{b:Bool}(I:Inv X pins σ H s)(e:H a=be (.ins C dx fs))(c:Cls X.K C)(n:NoAttr X.K C f)(l:fs.lookup f=be v)
  (h:∀u s',Inv X pins σ H s'->RelV v u->Q u s'):QI (QJ X.prog X.w) A (getAttr (.ref a) f b) Q E s:=by
 obtain⟨mA,O,r,_,_,_⟩:=fQ I.hok e;obtain⟨u,hu,ru⟩:=RelO.some_of (v:=v) (o:=mA f) (by rw[<-l];exact r f);exact wt I.kIn O (c.get f) c.hd n hu (wx ru) (h u _ (I.tok _) ru)
def qe{m:t6}{g:KF}{pl:Sb Bool}{Q:KB×List KB->KM->Prop}(I:Inv X pins σ H s)(e:H a=be (.ins C dx fs))(c:Cls X.K C)(k:Meth X.K C m g)(l:fs.lookup m=m_)
  (h:Q (.ref g,[.ref a]) s):QI (QJ X.prog X.w) A (RZ (.ref a) m pl) Q E s:=by
 obtain⟨mA,O,r,_,_,_⟩:=fQ I.hok e;have hn:mA m=none:=RelO.none_of (by rw[<-l];exact r m);exact wu I.kIn O (c.get m) k.at_ k.fn hn h
def wz{y:V}{u:KB}{Q:Unit->KM->Prop}(I:Inv X pins σ H s)(e:H a=be (.ins C dx fs))(c:Cls X.K C)(n:NoAttr X.K C f)(hl:fs.length<1000)(ry:RelV y u)
  (h:∀s',Inv X pins σ (upd H a (.ins C dx (putF f y fs))) s'->Q () s'):QI (QJ X.prog X.w) A (setAttr (.ref a) f u) Q E s:=by
 obtain⟨mA,O,r,wi,_,ho⟩:=fQ I.hok e;have hz:(fs.map (·.1)).length<=sizeLine:=by rw[E9,RQ];lia
 refine wv I.kIn O c.sa c.po n.taker c.hd wi hz λh' O' sb=>h _ ?_;have hd:∃o,h'.get? dx=be o:=let ⟨o,_,_,e',_⟩:=O'.ns;#[o,e']
 refine I.write (x:=a) (e:=dx) (by rw[e];exact True.intro) (.inr ho) (λb q hb z=>(sb.2 b hb).trans z) hd ?_;refine#[by rw[ay O.ne];exact ho,?_,O.ne,O'.obj,_,O'.ns,λg=>?_,λg hg=>?_]
 .have:=qd f y fs;lia
 .show RelO ((putF f y fs).lookup g) (if g=f then be u else mA g);rw[qc];by_cases q:g=f
  .rw[if_pos q,if_pos q];exact ry
  .rw[if_neg q,if_neg q];exact r g
 .by_cases q:g=f
  .rw[q];exact(ji f y fs).1
  .refine(ji f y fs).2 g (wi g λz=>hg ?_);show(if g=f then be u else mA g)=m_;rw[if_neg q];exact z
def Inv.made(I:Inv X pins σ H s):Inv X pins σ (upd (upd H s.heap.objs.size (.own (s.heap.objs.size+1))) (s.heap.objs.size+1) (.ins C s.heap.objs.size []))
  {s with heap:=(s.heap.push emptyDict).push (instObj C s.heap.objs.size)}:=by
 have e1:(s.heap.push emptyDict).get? s.heap.objs.size=be emptyDict:=Heap.get?_push_size s.heap rfl;have e2:((s.heap.push emptyDict).push (instObj C s.heap.objs.size)).get? (s.heap.objs.size+1)=be (instObj C s.heap.objs.size):=by
  have:=Heap.get?_push_size (s.heap.push emptyDict) (o:=instObj C s.heap.objs.size) rfl;rwa [Heap.size_push]at this
 have e3:(s.heap.push emptyDict).Ns s.heap.objs.size (λ_=>m_):=#[emptyDict,[].toArray,_,e1,rfl,(λe he=>absurd he IV),λ_=>rfl];have I1:=I.laid (a:=s.heap.objs.size) (o:=.own (s.heap.objs.size+1)) (h':=s.heap.push emptyDict) (t':=s.toks) (λb u q=>Heap.get?_push_of_some _ q) (E5 _) #[_,e1];refine I1.laid (a:=s.heap.objs.size+1) (o:=.ins C s.heap.objs.size []) (t':=s.toks) (λb u q=>Heap.get?_push_of_some _ q) (GE (Heap.size_push _ _)) ?_;have ne:s.heap.objs.size≠s.heap.objs.size+1:=Ff (Hs _);refine#[by rw[ay ne,aG],FB _,ne,e2,λ_=>m_,(Heap.Ns1.of_empty e3).at λo q=>Heap.get?_push_of_some _ q,λ_=>True.intro,λy hy=>absurd rfl hy]
def attr_of{prog:QH}{w:QL}{env:Rt}{e:QG}{f:t6}{pos:QT}{s:KM}(hb:QQ e f env (QS e env)=QS e env)
  (h:QI (QJ prog w) A (QS e env) (λo s₁=>QI (QJ prog w) A (getAttr o f true) Q E s₁) E s):QI (QJ prog w) A (QS (.Attribute e f pos) env) Q E s:=
 Attribute_any_ h (by rw[arm_eval_Attribute,hb])
end
def tFld(K:Ex)(ta:TE)(f:t6):TE:=λσ H Q=>ta σ H λx H1=>∃a C dx fs v,x=.ref a/\H1 a=be (.ins C dx fs)/\Cls K C/\NoAttr K C f/\fs.lookup f=be v/\Q v H1
def sFld(K:Ex)(ta tv:TE)(f:t6):TS:=λD σ H=>tv σ H λy H1=>ta σ H1 λx H2=>∃a C dx fs,x=.ref a/\H2 a=be (.ins C dx fs)/\Cls K C/\NoAttr K C f/\fs.length<1000/\
 D.nx σ (upd H2 a (.ins C dx (putF f y fs)))
section
variable {X:Cx}{o e value:QG}{f:t6}{pos c_ OE:QT}{ta tv:TE}
def qf(he:PE X e ta)(hb:QQ e f X.env (QS e X.env)=QS e X.env):PE X (.Attribute e f pos) (tFld X.K ta f):=by
 intro pins s σ H Q I h;refine attr_of hb (thn (he pins s σ H _ I h) λu s1 b9=>?_);obtain⟨x,H1,I1,rx,a,C,dx,fs,v,ex,ea,c,n,l,q⟩:=b9;subst ex;obtain rfl:u=Value.ref a:=rx;exact wy I1 ea c n l λu' s2 I2 ru=>#[v,H1,I2,ru,q]
def qg(ha:PE X o ta)(hv:PE X value tv)(hs:Q1 value (be (.Attribute o f c_)) pos.line X.env=pure false):PS X (.Assign [.Attribute o f c_] value pos) (sFld X.K ta tv f):=by
 intro pins s σ H D I h;refine plainObj_wpAny_Assign_Attribute (thn (hv pins s σ H _ I h) λu s1 ⟨y,H1,I1,ry,q⟩=>thn (ha pins s1 σ H1 _ I1 q) λov s2 hh=>?_) hs;obtain⟨x,H2,I2,rx,a,C,dx,fs,ex,ea,c,n,l,q2⟩:=hh;subst ex;obtain rfl:ov=Value.ref a:=rx;exact wz I2 ea c n l ry λs3 I3=>#[σ,_,I3,q2]
end
section
variable {X:Cx}{pins:List (KF×QY)}{σ:St}{H:Hp}{s:KM}{A:QM}{E:KB->KM->Prop}{Q:KB->KM->Prop}{c:KB}{b:Bool}
inductive TyOf(K:Ex)(H:Hp):V->KB->Prop where
 |non:TyOf K H .non (.type "NoneType")
 |bl (x:Bool):TyOf K H (.bl x) (.type "bool")
 |int (i:Int):TyOf K H (.int i) (.type "int")
 |str (x:Str):TyOf K H (.str x) (.type "str")
 |flt (x:UInt64):TyOf K H (.flt x) (.type "float")
 |lst {a:KF} {xs:List V} (e:H a=some (.lst xs)):TyOf K H (.ref a) (.type "list")
 |frz {a:KF} {o:QY} {xs:List V} (e:H a=some (.frz o (.lst xs))):TyOf K H (.ref a) (.type "list")
 |tup {a:KF} {xs:List V} (e:H a=some (.tup xs)):TyOf K H (.ref a) (.type "tuple")
 |dK {a:KF} {a8:List (Key×V)} (e:H a=some (.dK a8)):TyOf K H (.ref a) (.type "dict")
 |dT {a:KF} {a8:List (List Key×V)} (e:H a=some (.dT a8)):TyOf K H (.ref a) (.type "dict")
 |ins {a C dx:KF} {fs:List (Str×V)} (e:H a=some (.ins C dx fs)) (cl:Cls K C) (ha:findIn K (.ref C) "__class__"=some (some (.builtin "object.__class__")))
   (hn:specialIn K (.builtin "object.__class__") "__get__"=be (be (.builtin "getset_descriptor.__get__"))) (htk:takesIn K (.builtin "object.__class__")=be true)
   (hm:mroIn K C (.type "object")=be true):TyOf K H (.ref a) (.ref C)
def wA{x:V}{u t:KB}(I:Inv X pins σ H s)(rx:RelV x u)(ty:TyOf X.K H x t)(e:kitOne X.K t c=be b)(h:∀tk,Q (.bool b) {s with toks:=tk}):
  QI (QJ X.prog X.w) A (call (.builtin "isinstance") [u,c]) Q E s:=by
 cases ty with
 |non=>cases(show u=Value.none from rx);exact kia_one kitx_none I.kIn True.intro e (λz=>nomatch z) h
 |bl y=>cases(show u=Value.bool y from rx);exact kia_one kitx_bool I.kIn True.intro e (λz=>nomatch z) h
 |int i=>obtain⟨t,q⟩:=(show ∃t,u=Value.int i t from rx);cases q;exact kia_one kitx_int I.kIn True.intro e (λz=>nomatch z) h
 |str y=>obtain⟨t,q⟩:=(show ∃t,u=Value.str y t from rx);cases q;exact kia_one kitx_str I.kIn True.intro e (λz=>nomatch z) h
 |flt y=>obtain⟨t,q⟩:=(show ∃t,u=Value.float y t from rx);cases q;exact kia_one kitx_float I.kIn True.intro e (λz=>nomatch z) h
 |@lst a xs ea=>
  cases(show u=Value.ref a from rx);obtain⟨_,_,n,_,h1⟩:=(show ObjOk X.prog X.w H s.heap a (.lst xs)from I.hok a _ ea);exact kia_one kitx_list I.kIn #[_,h1,rfl] e (λz=>nomatch z) h
 |@frz a ob xs ea=>
  cases(show u=Value.ref a from rx);obtain⟨_,_,_,n,_,h1⟩:=(show ObjOk X.prog X.w H s.heap a (.frz ob (.lst xs))from I.hok a _ ea);exact kia_one kitx_list I.kIn #[_,h1,rfl] e (λz=>nomatch z) h
 |@tup a xs ea=>
  cases(show u=Value.ref a from rx);obtain⟨_,_,_,p⟩:=(show ObjOk X.prog X.w H s.heap a (.tup xs)from I.hok a _ ea);obtain⟨o,h1,h2,_⟩:=p;exact kia_one kitx_tuple I.kIn #[o,h1,h2] e (λz=>nomatch z) h
 |@dK a a8 ea=>
  cases(show u=Value.ref a from rx);obtain⟨_,_,vs,_,p⟩:=(show ObjOk X.prog X.w H s.heap a (.dK a8)from I.hok a _ ea);obtain⟨o,es,ep,h1,h2,_⟩:=p;exact kia_one kitx_dict I.kIn #[o,h1,h2.1] e (λz=>nomatch z) h
 |@dT a a8 ea=>
  cases(show u=Value.ref a from rx);obtain⟨_,_,xs,_,o,es,ep,h1,h2,_⟩:=(show ObjOk X.prog X.w H s.heap a (.dT a8)from I.hok a _ ea);exact kia_one kitx_dict I.kIn #[o,h1,h2.1] e (λz=>nomatch z) h
 |@ins a C dx fs ea cl ha hn htk hm=>
  cases(show u=Value.ref a from rx);obtain⟨mA,O,_⟩:=fQ I.hok ea;obtain⟨od,J,_⟩:=O.look;exact kia_one (kitx_own (cl.get _) cl.hd ha hn htk hm) I.kIn J e (λz=>nomatch z) h
end
structure Room(k:Nat)(A:QM):Prop where
 hd:A.handled=m_
 dp:A.depth+3*k+5<recursionLimit
 un:A.units+16*k+200<RJ
variable{k:Nat}
def Room.mono{j:Nat}(r:Room k A)(h:j<=k):Room j A:=#[r.hd,by have:=r.dp;lia,by have:=r.un;lia]
def Room.deeper(r:Room (k+1) A)(env:Rt):Room k (A.deeper env):=
 #[r.hd,by have:=r.dp;show A.depth+1+3*k+5<_;lia,by have:=r.un;show A.units+3+16*k+200<_;lia]
def Room.in1(r:Room (k+1) A):Room k A.in1:=
 #[r.hd,by have:=r.dp;show A.depth+3*k+5<_;lia,by have:=r.un;show A.units+1+16*k+200<_;lia]
variable{kw:List (t6×KB)}
def wB:(A.under (.builtin "type.__call__" #[.ref C::us,kw])).depth=A.depth+1:=by
 first|rfl|simp[Around.under,Code.weight,Code.isCreation,Code.isGuard,Code.isCaller,Code.frames,Code.isFrame,guardIds]
def wC:(A.under (.builtin "type.__call__" #[.ref C::us,kw])).units=A.units+1:=by
 first|rfl|simp[Around.under,Code.cUnits,Code.frames,Code.isFrame]
def Room.make(r:Room (k+1) A)(C:KF)(us:List KB)(kw:List (t6×KB)):Room k (A.under (.builtin "type.__call__" #[.ref C::us,kw])):=
 #[r.hd,by have:=r.dp;rw[wB];lia,by have:=r.un;rw[wC];lia]
def Room.depth(r:Room k A):A.depth<recursionLimit:=by have:=r.dp;lia
def Room.units(r:Room k A):A.units+64<RJ:=by have:=r.un;lia
def tNil:TA:=λ_ H Q=>Q [] H
def fR(ta:TE)(tr:TA):TA:=λσ H Q=>ta σ H λx H1=>tr σ H1 λxs H2=>Q (x::xs) H2
section
variable {X:Cx}{e:QG}{es:List QG}{te:TE}{t:TA}{pos:QT}
def pa_nil:PA X [] tNil:=λ_ _ _ _ H Q I h=>Calls.spliced_nil #[[],H,I,.nil,h]
def bz(ha:PE X e te)(hr:PA X es t)(hs:autoParam (zSE X e es) zA0):PA X (e::es) (fR te t):=by
 intro pos pins s σ H Q I h;rw[hs];show QI _ _ (spliced ((false,QS e X.env)::Rm pos (QP es X.env))) _ _ s;refine Calls.spliced_cons (thn (ha pins s σ H _ I h) λu s1 b9=>?_);obtain⟨x,H1,I1,r1,q1⟩:=b9;exact thn (hr pos pins s1 σ H1 _ I1 q1) λus s2 ⟨xs,H2,I2,r2,q2⟩=>#[x::xs,H2,I2,.cons r1 r2,q2]
def tTup(t:TA):TE:=λσ H Q=>t σ H λxs H1=>xs.length<=sizeLine/\∀p,H1 p=m_->Q (.ref p) (upd H1 p (.tup xs))
def tLst(t:TA):TE:=λσ H Q=>t σ H λxs H1=>xs.length<=sizeLine/\∀p,H1 p=m_->Q (.ref p) (upd H1 p (.lst xs))
def qh{x1}(h:PA X es t):PE X (.Tuple es x1 pos) (tTup t):=by
 intro pins s σ H Q I hq;refine wpAny_Tuple_spliced (thn (h pos pins s σ H _ I hq) λus s1 ⟨xs,H1,I1,r,z,q⟩=>#[by rw[<-r.length];exact z,?_]);have hf:H1 s1.heap.objs.size=none:=I1.hok.fresh (E5 _);refine#[.ref s1.heap.objs.size,upd H1 s1.heap.objs.size (.tup xs),I1.laid (t':=s1.toks) (λb u e=>Heap.get?_push_of_some _ e) (E5 _) ?_,rfl,q _ hf];exact#[z,us,r,#[_,Heap.get?_push_size _ rfl,rfl,_,rfl]]
def jj(h:PA X es t):PE X (.List es pos) (tLst t):=by
 intro pins s σ H Q I hq;refine wpAny_List_spliced (thn (h pos pins s σ H _ I hq) λus s1 ⟨xs,H1,I1,r,z,q⟩=>#[by rw[<-r.length];exact z,?_]);have hf:H1 s1.heap.objs.size=none:=I1.hok.fresh (E5 _);refine#[.ref s1.heap.objs.size,upd H1 s1.heap.objs.size (.lst xs),I1.laid (t':=s1.toks) (λb u e=>Heap.get?_push_of_some _ e) (E5 _) ?_,rfl,q _ hf];exact#[z,us,0,r,Heap.get?_push_size _ rfl]
end
abbrev Sp:=List V->Hp->VK->XK->Prop
abbrev CXT:=List Rt->Hp->KM->XK->KB->KM->Prop
structure Env0(P:QH)(w:QL)(K:Ex)(mg:Str->Option KB)(base:QN)(A:QM)(outer:List Rt)(s:KM)(H:Hp):Prop where
 frames:A.frames=be outer
 mod:Mod K mg base
 bs:∀b o,base.get? b=be o->s.heap.get? b=be o/\H b=m_
 bsz:base.objs.size<=s.heap.objs.size
 funs:s.heap.FunFrames base outer
 frf:∀b∈frs outer,H b=m_
 hok:HOk P w H s.heap
 bare:Ru s.gens
def CE(outer:List Rt)(P:QH)(w:QL)(H:Hp)(s:KM)(Q:VK)(u:KB)(s':KM):Prop:=
 ∃v H',s'.os=s.os/\Ru s'.gens/\Un (frs outer) [] H H' s.heap s'.heap/\HOk P w H' s'.heap/\RelV v u/\Q v H'
def CR(CX:CXT)(outer:List Rt)(P:QH)(w:QL)(H:Hp)(s:KM)(Q:VK)(E:XK)(r:Result)(s':KM):Prop:=
 match r with
 |.ok (.ret u)=>CE outer P w H s Q u s'
 |.ok _=>False
 |.error e=>CX outer H s E e s'
structure FnOk(P:QH)(w:QL)(K:Ex)(mg:Str->Option KB)(base:QN)(CX:CXT)(k:Nat)(f:KF)(fd:QR)(ps:List Str)(sp:Sp):Prop where
 len:∀vs H Q E,sp vs H Q E->vs.length=ps.length
 run:∀(A:QM) (outer:List Rt) (s:KM) (H:Hp) (args:Args) (us:List KB) (vs:List V) (Q:VK) (E:XK),Room k A->Env0 P w K mg base A outer s H->RN s fd args (ps.zip us)->Vals vs us->sp vs H Q E->
  RD (QJ P w) A (.call (.ref f) args) (CR CX outer P w H s Q E) s
variable{f:KF}{mg:t6->Option KB}{base:QN}{CX:CXT}{fd:QR}{ps:List t6}{sp:Sp}
def FnOk.mono{j:Nat}(F:FnOk P w K mg base CX j f fd ps sp)(h:j<=k):
  FnOk P w K mg base CX k f fd ps sp:=#[F.len,λA outer s H args us vs Q E hr=>F.run A outer s H args us vs Q E (hr.mono h)]
def FnOk.imp{Iy:Sp}(F:FnOk P w K mg base CX k f fd ps sp)
  (h:∀vs H Q E,Iy vs H Q E->sp vs H Q E):FnOk P w K mg base CX k f fd ps Iy:=
 #[λvs H Q E q=>F.len vs H Q E (h _ _ _ _ q),λA outer s H args us vs Q E hr he hb hv hs=>F.run A outer s H args us vs Q E hr he hb hv (h _ _ _ _ hs)]
variable{outer:List Rt}
def Env0.make(e:Env0 P w K mg base A outer s H)(C:KF)(us:List KB)(kw:List (t6×KB)):
  Env0 P w K mg base (A.under (.builtin "type.__call__" #[.ref C::us,kw])) outer s H:=#[by first|exact e.frames|(simpa[Around.under,Code.envs,Code.isFrame,pushEnvs]using e.frames),e.mod,e.bs,e.bsz,e.funs,e.frf,e.hok,e.bare]
def Env0.in1(e:Env0 P w K mg base A outer s H):
  Env0 P w K mg base A.in1 outer s H:=#[e.frames,e.mod,e.bs,e.bsz,e.funs,e.frf,e.hok,e.bare]
section
variable {X:Cx}{pins:List (KF×QY)}{σ:St}{H:Hp}{s s':KM}
def Inv.env0(I:Inv X pins σ H s):Env0 X.prog X.w X.K X.mg X.base X.A X.stack s H:=
 #[I.ok.frames,I.ok.mod,I.bs,Fh I.ok.bsz I.sz,I.stack,I.stkFree,I.hok,I.bare]
def Inv.after{Q:VK}{u:KB}(I:Inv X pins σ H s)(h:CE X.stack X.prog X.w H s Q u s'):EP X pins σ Q u s':=by
 obtain⟨v,H',os,bare,un,hok,r,q⟩:=h;obtain⟨hh,g,d,t,OF⟩:=s';obtain rfl:OF=s.os:=os;exact#[v,H',I.call (h':=hh) (g':=g) (d':=d) (t':=t) (ch:=[]) un hok bare (λb z=>absurd z IV),r,q]
end
def qi(sp:Sp)(l9:List V)(E:XK)(t:TA):TE:=λσ H Q=>t σ H λvs H1=>sp (vs++l9) H1 Q E
def wE(C:KF)(sp:Sp)(l9:List V)(E:XK)(t:TA):TE:=λσ H Q=>t σ H λvs H1=>∀x dx,H1 x=m_->H1 dx=m_->dx≠x->
 sp (.ref x::(vs++l9)) (upd (upd H1 dx (.own x)) x (.ins C dx [])) (λv H2=>v=.non/\Q (.ref x) H2) E
def Binds(K:Ex)(fd:QR)(ps:List t6)(ds:List KB):Prop:=
 ∀(s:KM) (us:List KB),K.In s.heap->(us++ds).length=ps.length->RN s fd #[us,[]] (ps.zip (us++ds))
def Binds.all(h:∀us:List KB,us.length=ps.length->Rl fd #[us,[]]=pure (ps.zip us)):Binds K fd ps []:=λs us _ hl=>by
 rw[FN]at hl ⊢;exact .of_eq (h us hl)
def eY(CX:CXT)(X:Cx)(E:XK):Prop:=∀(pins:List (KF×QY)) (σ:St) (H:Hp) (s:KM) (e:KB) (s':KM),Inv X pins σ H s->CX X.stack H s E e s'->X.xe e s'
section
variable {X:Cx}{CX:CXT}{k:Nat}{f C:KF}{fd:QR}{ps:List t6}{sp:Sp}{l9:List V}{ds:List KB}{E:XK}{x m:t6}{p pos apos:QT}{e o:QG}{es:List QG}{ta:TE}{t:TA}
variable{pins:List (KF×QY)}{us:List KB}{vs:List V}
def wF{σ:St}{H:Hp}{s:KM}{Q:VK}(F:FnOk X.prog X.w X.K X.mg X.base CX k f fd ps sp)(hr:Room k X.A)(hb:Binds X.K fd ps ds)(hd:Vals l9 ds)(hx:eY CX X E)
  (I:Inv X pins σ H s) (r:Vals vs us) (h:sp (vs++l9) H Q E):QI (QJ X.prog X.w) X.A (call (.ref f) us) (EP X pins σ Q) X.xe s:=by
 have r2:Vals (vs++l9) (us++ds):=r.append hd;have hl:(us++ds).length=ps.length:=by rw[<-r2.length];exact F.len _ _ _ _ h
 refine Sf (Ry (F.run X.A X.stack s H #[us,[]] (us++ds) (vs++l9) Q E hr I.env0 (hb s us I.kIn hl) r2 h) λr s' hq=>?_);cases r with
 |error e=>exact hx pins σ H s e s' I hq
 |ok fl=>
  cases fl with
  |ret u=>exact I.after hq
  |next=>exact False.elim hq
  |brk=>exact False.elim hq
  |cont=>exact False.elim hq
def wG(F:FnOk X.prog X.w X.K X.mg X.base CX k f fd ps sp)(hr:Room k X.A)(hg:Gl X x)(hm:X.mg x=be (.ref f))(hk:keepIn X.K (.ref f)=true)(hb:Binds X.K fd ps ds)(hd:Vals l9 ds)(hx:eY CX X E)
  (ha:PA X (e::es) t) (d9:autoParam (zND x) zA1) (he:autoParam (zSE X e es) zA0) (c9:autoParam (zPL X pos es) zA0):
  PE X (.Call (.Name x p) (e::es) [] pos) (qi sp l9 E t):=by
 intro pins s σ H Q I h;refine Q0 (cU I hg hm ?_ d9);refine callWith_K (h₀:=X.base) I.ok.mod.kin hk (thn (ha pos pins s σ H _ I h) λus s1 ⟨vs,H1,I1,r,q⟩=>#[I1.kIn,?_]) he c9;exact wF F hr hb hd hx I1 r q
structure Mk(K:Ex)(C f:KF):Prop where
 makes:makesIn K C=true
 init:findIn K (.ref C) "__init__"=be (be (.ref f))
 fn:isFn K (.ref f)=true
 kp:keepIn K (.ref C)=true
def wH{σ:St}{H:Hp}{s:KM}{Q:VK}(M:Mk X.K C f)(F:FnOk X.prog X.w X.K X.mg X.base CX k f fd ps sp)(hr:Room (k+1) X.A)(hb:Binds X.K fd ps ds)(hd:Vals l9 ds)
  (hx:eY CX X E) (I:Inv X pins σ H s) (r:Vals vs us)
  (h:∀x dx,H x=m_->H dx=m_->dx≠x->sp (.ref x::(vs++l9)) (upd (upd H dx (.own x)) x (.ins C dx [])) (λv H2=>v=.non/\Q (.ref x) H2) E):
  QI (QJ X.prog X.w) X.A (call (.ref C) us) (EP X pins σ Q) X.xe s:=by
 have hq:=h (s.heap.objs.size+1) s.heap.objs.size (I.hok.fresh (Gf _)) (I.hok.fresh (E5 _)) (Ff (Hs _));have I2:=Inv.made (C:=C) I;have r2:Vals (V.ref (s.heap.objs.size+1)::(vs++l9)) (Value.ref (s.heap.objs.size+1)::(us++ds)):=.cons rfl (r.append hd);have hl:(Value.ref (s.heap.objs.size+1)::us++ds).length=ps.length:=by
  have e:=r2.length;rw[F.len _ _ _ _ hq]at e;exact e.symm
 refine Sf (ww (f:=f) I.kIn M.makes M.init (beq_iff_eq.mp M.fn) (Ry (F.run _ X.stack _ _ #[Value.ref (s.heap.objs.size+1)::us,[]] (Value.ref (s.heap.objs.size+1)::(us++ds)) _ _ E (hr.make C us [])
  (I2.env0.make C us []) (hb _ (Value.ref (s.heap.objs.size+1)::us) I2.kIn hl) r2 hq) λr s' j9=>?_))
 cases r with
 |error e=>exact hx pins σ _ _ e s' I2 j9
 |ok fl=>
  cases fl with
  |ret u=>
   obtain⟨v,H',I3,rv,ev,q3⟩:=I2.after j9;subst ev;exact#[rv,#[V.ref (s.heap.objs.size+1),H',I3,rfl,q3]]
  |next=>exact False.elim j9
  |brk=>exact False.elim j9
  |cont=>exact False.elim j9
def jk(M:Mk X.K C f)(F:FnOk X.prog X.w X.K X.mg X.base CX k f fd ps sp)(hr:Room (k+1) X.A)(hg:Gl X x)(hm:X.mg x=be (.ref C))(hb:Binds X.K fd ps ds)(hd:Vals l9 ds)(hx:eY CX X E)
  (ha:PA X (e::es) t) (d9:autoParam (zND x) zA1) (he:autoParam (zSE X e es) zA0) (c9:autoParam (zPL X pos es) zA0):
  PE X (.Call (.Name x p) (e::es) [] pos) (wE C sp l9 E t):=by
 intro pins s σ H Q I h;refine Q0 (cU I hg hm ?_ d9);refine callWith_K (h₀:=X.base) I.ok.mod.kin M.kp (thn (ha pos pins s σ H _ I h) λus s1 ⟨vs,H1,I1,r,q⟩=>#[I1.kIn,?_]) he c9;exact wH M F hr hb hd hx I1 r q
end
structure FnScope(N P:List Str)(sc:Q9):Prop where
 kind:sc.kind=.function
 co:sc.isCoroutine=false
 gen:sc.isGenerator=false
 nd:N.Nodup
 pre:N.take P.length=P
 par:∀x∈P,sc.names.lookup x=be .local\/sc.names.lookup x=be .cell
 nofree:∀y∈sc.names,y.2≠.free
def qj{kindOf:t6->Option Ri}{x:t6}:∀{binds:List (t6×KB)} {m:t6->Option KB},(∀v,(x,v)∉binds)->R1 kindOf binds m x=m x
 |[],_,_=>rfl
 |(n,v)::r,m,h=>by
  unfold R1;rw[qj λw hw=>h w (Fc _ hw)];split
  .have:x≠n:=by rintro rfl;exact h v Fd
   simp[this]
  .rfl
def bindC_out{kindOf:t6->Option Ri}{x:t6}:∀{binds:List (t6×KB)} {m:t6->Option KB},(∀v,(x,v)∉binds)->R3 kindOf binds m x=m x
 |[],_,_=>rfl
 |(n,v)::r,m,h=>by
  unfold R3;rw[bindC_out λw hw=>h w (Fc _ hw)];split
  .rfl
  .have:x≠n:=by rintro rfl;exact h v Fd
   simp[this]
def bindL_get{kindOf:t6->Option Ri}{x:t6}{v:KB}:∀{P:List t6} {vs:List KB} {i:Nat} {m:t6->Option KB},P.Nodup->P[i]?=be x->vs[i]?=be v->kindOf x=be .local->
  R1 kindOf (P.zip vs) m x=be v
 |[],_,_,_,_,h,_,_=>by simp at h
 |_::_,[],_,_,_,_,h,_=>by simp at h
 |p::P,w::vs,0,m,nd,h1,h2,hk=>by
  simp at h1 h2;subst h1;subst h2;show R1 kindOf ((p,w)::P.zip vs) m p=_;unfold R1;rw[qj λv hv=>(FT.mp nd).1 (G3 hv).1,if_pos hk];simp
 |p::P,w::vs,i+1,m,nd,h1,h2,hk=>by
  show R1 kindOf ((p,w)::P.zip vs) m x=_;unfold R1;exact bindL_get (i:=i) (FT.mp nd).2 (by simpa using h1) (by simpa using h2) hk
def qk{kindOf:t6->Option Ri}{x:t6}{v:KB}:∀{P:List t6} {vs:List KB} {i:Nat} {m:t6->Option KB},P.Nodup->P[i]?=be x->vs[i]?=be v->kindOf x≠be .local->
  R3 kindOf (P.zip vs) m x=be v
 |[],_,_,_,_,h,_,_=>by simp at h
 |_::_,[],_,_,_,_,h,_=>by simp at h
 |p::P,w::vs,0,m,nd,h1,h2,hk=>by
  simp at h1 h2;subst h1;subst h2;show R3 kindOf ((p,w)::P.zip vs) m p=_;unfold R3;rw[bindC_out λv hv=>(FT.mp nd).1 (G3 hv).1,if_neg hk];simp
 |p::P,w::vs,i+1,m,nd,h1,h2,hk=>by
  show R3 kindOf ((p,w)::P.zip vs) m x=_;unfold R3;exact qk (i:=i) (FT.mp nd).2 (by simpa using h1) (by simpa using h2) hk
def start(N:List t6)(vs:List V):St:=vs.map be++FU (N.length-vs.length) m_
def cxOf(CX:CXT)(P:QH)(w:QL)(K:Ex)(mg:t6->Option KB)(base:QN)(N:List t6)(qual:t6)(scope:Q9)(f:KF)(cd:KB)(A:QM)(outer:List Rt)(s:KM)(H:Hp)(E:XK):Cx where
 prog:=P
 w:=w
 K:=K
 mg:=mg
 base:=base
 A:=A.deeper (QX qual scope s.heap.objs.size f cd)
 N:=N
 s₀:=s
 H₀:=H
 env:=QX qual scope s.heap.objs.size f cd
 outer:=outer
 stack:=QX qual scope s.heap.objs.size f cd::outer
 ex:=[]
 calm:=true
 fn:=λ_=>true
 pn:=[]
 xe:=λe s'=>QI (QJ P w) (A.deeper (QX qual scope s.heap.objs.size f cd)) (R6 (QX qual scope s.heap.objs.size f cd) e) (λ_ Lo=>CX outer H s E e Lo) (λe' Lo=>CX outer H s E e' Lo) s'
def cell_has{sc:Q9}{n:Nat}{x:t6}(h:sc.names.lookup x=be .cell):∃c,(cellsFrom n sc.names []).lookup x=be c:=by
 have q:=cellsFrom_some sc.names n [] (.inl h);exact Option.isSome_iff_exists.mp q
variable{N:List t6}{scope:Q9}
def wI{qual:t6}{cd:KB}{s1:KM}{E:XK}{vs:List V}
  (S:FnScope N ps scope) (hd:A.handled=m_) (e0:Env0 P w K mg base A outer s H) (hl:vs.length=ps.length) (r:Vals vs us)
  (x:InCallC s s.heap.objs.size (R1 (QX qual scope s.heap.objs.size f cd).kindOf (ps.zip us) λ_=>m_) (cellsFrom (s.heap.objs.size+1) scope.names []) (R3 (QX qual scope s.heap.objs.size f cd).kindOf (ps.zip us) λ_=>m_) s1):
  Inv (cxOf CX P w K mg base N qual scope f cd A outer s H E) [] (start N vs) H s1:=by
 have c9:ps.length<=N.length:=by have:=congrArg Gu S.pre;rw[Gv]at this;lia
 obtain⟨h1,tk,rfl,hk⟩:=x.done;have JW:∀b:KF,b∉(cxOf CX P w K mg base N qual scope f cd A outer s H E).ex:=λb z=>absurd (show b∈([]:List KF)from z) IV;refine⟨#[e0.mod,S.kind,rfl,rfl,E5 _,λy z c h1 h2=>?_,λy hy=>?_,λy c _ h=>?_,λ_=>hd,Around.frames_deeper e0.frames,.inr #[rfl,rfl],λb z=>absurd z (JW b),e0.bs,e0.bsz,λb _ _=>JW b,λb z=>absurd z (JW b),e0.funs,e0.frf],
  rfl,e0.bare,Un.kept hk,#[_,x.toInCall.ns,λi y v h1 h2 h3=>?_],λy c h=>#[_,x.cell y c h],e0.hok.fresh (E5 _),λy c h=>?_,λp hp=>absurd (show p∈([]:List (KF×QY))from hp) IV,e0.hok.kept hk,?_⟩
 .exact name_of_addr x.apart (PySem.mem_of_lookup h1) (PySem.mem_of_lookup h2)
 .have hy:scope.names.lookup y=be .cell\/scope.names.lookup y=be .free:=hy;rcases hy with hy|hy
  .exact cell_has hy
  .exact absurd rfl (S.nofree _ (PySem.mem_of_lookup hy))
 .exact GC (x.above y c (PySem.mem_of_lookup h))
 .have hi:i<vs.length:=by
   unfold start at h2;by_cases hi:i<vs.length
   .exact hi
   .rw[FV (by simpa using hi)]at h2;rw[G4]at h2;split at h2<;>cases h2
  have ha:vs[i]?=be v:=by
   unfold start at h2;rw[FK (by simpa using hi),Fg]at h2;cases e:vs[i]? with
   |none=>rw[e]at h2;cases h2
   |some a=>rw[e]at h2;cases h2;rfl
  obtain⟨u,hu,rv⟩:=r.get ha;have hp:ps[i]?=be y:=by
   rw[<-S.pre,Ht t8];exact h1
  have Nr:ps.Nodup:=by rw[<-S.pre];exact S.nd.sublist (List.take_sublist _ _)
  refine#[u,rv,?_];rcases S.par y (Gg hp)with k|k
  .exact .inl #[k,bindL_get Nr hp hu k]
  .obtain⟨c,e⟩:=cell_has (n:=s.heap.objs.size+1) k;refine .inr #[.inl k,c,e,?_];have q:=x.cell y c e;rw[qk Nr hp hu (by show scope.names.lookup y≠_;rw[k];decide)]at q;exact q
 .exact e0.hok.fresh (GC (x.above y c (PySem.mem_of_lookup h)))
 .unfold start;show _=N.length;rw[Fn,E9,List.length_replicate];lia
def ql{name qual:t6}{params:Arguments}{body:List P3}{dV kV doc pm cdv ct oc:KB}{an od:Option KF}
  {osl:Array (Option KB)}   (lk:K.lookup f=be #[oc,od,.func (fnOf name qual params body scope dV kV doc pm an cdv ct),osl]) (g7:codeIn K cdv qual=true) (S:FnScope N ps scope)
  (len:∀vs H Q E,sp vs H Q E->vs.length=ps.length)
  (a9:∀(A:QM) (outer:List Rt) (s:KM) (H:Hp) (vs:List V) (Q:VK) (E:XK),Room k (A.deeper (QX qual scope s.heap.objs.size f cdv))->sp vs H Q E->
   ∃t,PSs (cxOf CX P w K mg base N qual scope f cdv A outer s H E) body t/\t {nx:=λ_ H'=>Q .non H',rt:=Q} (start N vs) H):
  FnOk P w K mg base CX (k+1) f (fnOf name qual params body scope dV kV doc pm an cdv ct) ps sp:=by
 refine#[len,λA outer s H args us vs Q E hr e0 hb r w9=>?_];have hl:=len _ _ _ _ w9;have KX:K.In s.heap:=e0.mod.kin.keeps λb o e=>(e0.bs b o e).1;have OG:s.heap.NoLimit:=e0.mod.nolimit.keeps λb o e=>(e0.bs b o e).1;have JX:∀y∈ps.zip us,scope.names.lookup y.1=be .local\/(scope.names.lookup y.1=be .cell/\((cellsFrom (s.heap.objs.size+1) scope.names []).lookup y.1).isSome=true):=λ⟨n,v⟩ hy=>by
  rcases S.par n (G3 hy).1 with q|q
  .exact .inl q
  .exact .inr #[q,cellsFrom_some _ _ _ (.inl q)]
 refine codeAny_call_function hr.depth (KX _ _ lk) rfl S.co S.gen rfl (codeRec_of KX g7) (hb _ _ _ _ ?_);refine wpAny_newFunctionEnv_cells S.kind JX λenv he s1 x=>?_;subst he;refine#[OG.keeps x.toInCall.keep,codeAny_func ?_];obtain⟨t,ht,hq⟩:=a9 A outer s H vs Q E (hr.deeper _) w9;have I:Inv (cxOf CX P w K mg base N qual scope f cdv A outer s H E) [] (start N vs) H s1:=wI S hr.hd e0 hl r x;refine QV (ht [] s1 (start N vs) H _ I hq) (λfl s' hs=>?_) λe s' hs=>hs;have d8:∀{σ':St} {H':Hp} {v:V} {u:KB},Inv (cxOf CX P w K mg base N qual scope f cdv A outer s H E) [] σ' H' s'->RelV v u->Q v H'->CE outer P w H s Q u s':=
  λ{σ' H' v u} J rv q=>#[v,H',J.os,J.bare,J.base,J.hok,rv,q]
 cases fl with
 |ret u=>
  obtain⟨v,σ',H',J,rv,q⟩:=hs;exact d8 J rv q
 |next=>
  obtain⟨σ',H',J,q⟩:=hs;exact d8 (v:=V.non) (u:=Value.none) J rfl q
 |brk=>
  obtain⟨_,_,_,q⟩:=hs;exact False.elim q
 |cont=>
  obtain⟨_,_,_,q⟩:=hs;exact False.elim q
section
variable {X:Cx}{x:t6}{p pos:QT}{e:QG}{es:List QG}{t:TA}{id T:String}{r:List V->Hp->VK->Prop}
def tCB(r:List V->Hp->VK->Prop)(t:TA):TE:=λσ H Q=>t σ H λvs H1=>r vs H1 Q
def fS(hc:bC X (.builtin id) r)(hg:Gl X x)(hm:X.mg x=m_)(hv:QZ x=be (.builtin id))(ha:PA X (e::es) t)(hn:autoParam (x≠"__name__") zA1)(d9:autoParam (zND x) zA1)
  (he:autoParam (zSE X e es) zA0) (c9:autoParam (zPL X pos es) zA0):PE X (.Call (.Name x p) (e::es) [] pos) (tCB r t):=by
 intro pins s σ H Q I h;refine Q0 (cV I hg hm hv ?_ hn d9);exact PyProof.Rows.callWith_builtin1 (thn (ha pos pins s σ H _ I h) λus s1 ⟨vs,H1,I1,r1,q1⟩=>hc pins s1 σ H1 vs us Q I1 r1 q1) he c9
def jl(hc:bC X (.type T) r)(hg:Gl X x)(hm:X.mg x=m_)(hv:QZ x=be (.type T))(ha:PA X (e::es) t)(hn:autoParam (x≠"__name__") zA1)(d9:autoParam (zND x) zA1)
  (he:autoParam (zSE X e es) zA0) (c9:autoParam (zPL X pos es) zA0):PE X (.Call (.Name x p) (e::es) [] pos) (tCB r t):=by
 intro pins s σ H Q I h;refine Q0 (cV I hg hm hv ?_ hn d9);exact PyProof.Rows.callWith_type1 (thn (ha pos pins s σ H _ I h) λus s1 ⟨vs,H1,I1,r1,q1⟩=>hc pins s1 σ H1 vs us Q I1 r1 q1) he c9
end
end L2
namespace HT
open PySem PyProof.Rows
section
variable {prog:QH}{w:QL}{A:QM}{E:KB->KM->Prop}{s:KM}
variable{Q:KB->KM->Prop}
def cat_tup{t b:KF}{vs ws:List KB}(ht:IsTup s.heap t vs.toArray)(hb:IsTup s.heap b ws.toArray)(hv:vs≠[])
  (h1:ws=[]->Q (.ref t) s) (h2:ws≠[]->Q (.ref s.heap.objs.size) {s with heap:=s.heap.push {cls:=.type "tuple",data:=.seq (vs++ws).toArray} })
  (ge:vs.length+ws.length<=sizeLine):QI (QJ prog w) A (Q4 .Add (.ref t) (.ref b)) Q E s:=by
 obtain⟨⟨cls,dd,data,sl⟩,ho,hc,n,hd⟩:=id ht;obtain⟨⟨OH,Nt,data2,KN⟩,KO,Nu,n2,k8⟩:=id hb;simp only at hc hd Nu k8;subst hc hd Nu k8;have e:vs.toArray++ws.toArray=(vs++ws).toArray:=IV
 by_cases hw:ws=[]
 .exact concat_meets #[_,ho,rfl] #[_,KO,rfl] noFill_tuple_add seq_tuple_add PySem.F.slot_tuple_add PySem.F.entry_tuple_add (PySem.F.args_tuple_add_2 _ _)
   (tuple_addW1 t b vs.toArray ws.toArray n n2 dd Nt sl KN (by simpa using hv) (by simp[hw])) #[ho,KO,h1 hw]
 .refine concat_meets #[_,ho,rfl] #[_,KO,rfl] noFill_tuple_add seq_tuple_add PySem.F.slot_tuple_add PySem.F.entry_tuple_add (PySem.F.args_tuple_add_2 _ _)
   (tuple_addW2 t b vs.toArray ws.toArray n n2 dd Nt sl KN (by simpa using hv) (by simpa using hw) (by rw[Fb,Fb];exact ge)) #[ho,KO,?_]
  rw[e];exact h2 hw
def sIx(n d:Nat):Option Int->Nat
 |none=>d
 |some v=>if v<0 then(v+(n:Int)).toNat else min v.toNat n
def sIx_none(n d:Nat):sIx n d m_=d:=rfl
def sIx_nat(n d k:Nat):sIx n d (be (k:Int))=min k n:=by
 show(if(k:Int)<0 then((k:Int)+(n:Int)).toNat else min (k:Int).toNat n)=min k n;rw[if_neg t8,GF]
def sIx_le(n d:Nat)(hd:d<=n)(o:Option Int):sIx n d o<=n:=by
 cases o with
 |none=>exact hd
 |some v=>
  show(if v<0 then(v+(n:Int)).toNat else min v.toNat n)<=n;by_cases hv:v<0
  .rw[if_pos hv];lia
  .rw[if_neg hv];exact Nat.min_le_right _ _
def qm(v:Int)(n d:Nat):(if v<0 then max (v+(n:Int)) 0 else min v (n:Int))=((sIx n d (be v):Nat):Int):=by
 show(if v<0 then max (v+(n:Int)) 0 else min v (n:Int))=(((if v<0 then(v+(n:Int)).toNat else min v.toNat n):Nat):Int);by_cases hv:v<0
 .simp only[if_pos hv];lia
 .simp only[if_neg hv];lia
def wJ(lo hi:Option Int)(n:Nat):Builtin.Slice.sliceAdjust lo hi 1 (n:Int)=(((sIx n 0 lo:Nat):Int),((sIx n n hi:Nat):Int)):=by
 have h1:¬((1:Int)<0):=t8
 unfold Builtin.Slice.sliceAdjust;simp only[h1,if_false];refine Prod.ext ?_ ?_
 .cases lo with
  |none=>rfl
  |some v=>exact qm v n 0
 .cases hi with
  |none=>rfl
  |some v=>exact qm v n n
def wK(i j:Nat):Builtin.Slice.slicePlaces (i:Int) (j:Int) 1=j-i:=by
 unfold Builtin.Slice.slicePlaces;have h1:(1:Int)>0:=t8
 simp only[h1,if_true,Int.ediv_one];split<;>lia
def qo{v:KB}{o:Option Int}{Q:Option Int->KM->Prop}(p:RP v o)(h:Q o s):QI (QJ prog w) A (Builtin.Slice.slicePartIndex v) Q E s:=by
 cases p with
 |none=>exact slicePart_none h
 |int i t=>exact slicePart_int h
variable{lo hi:Option Int}
def wL{sl:KF}{vl vu:KB}{n:Nat}{Q:Int×Int×Nat->KM->Prop}(hs:s.heap.IsSliceOf sl vl vu .none)(pl:RP vl lo)(pu:RP vu hi)
  (h:Q (((sIx n 0 lo:Nat):Int),1,sIx n n hi-sIx n 0 lo) s):QI (QJ prog w) A (Builtin.Slice.sliceApplied (.ref sl) (pure (n:Int))) Q E s:=by
 obtain⟨os,y_,KP,KQ⟩:=id hs;unfold Builtin.Slice.sliceApplied Builtin.Slice.sliceFields;refine Os (Os (Rg y_ KQ (x:=vl) rfl (Os (Rg y_ KQ (x:=vu) rfl (Os (Rg y_ KQ (x:=.none) rfl (QK ?_)))))));refine Os (slicePart_none ?_);show QI _ _ (if((1:Int)==0)=true then _ else _) _ _ s;rw[if_neg y8];refine Os (qo pl (Os (qo pu (Os (QK ?_)))));show QI _ _ (match Builtin.Slice.sliceAdjust lo hi 1 (n:Int)with|(lo,hi)=>pure (lo,(1:Int),Builtin.Slice.slicePlaces lo hi 1)) _ _ s;rw[wJ lo hi n];show QI _ _ (pure (((sIx n 0 lo:Nat):Int),(1:Int),Builtin.Slice.slicePlaces ((sIx n 0 lo:Nat):Int) ((sIx n n hi:Nat):Int) 1)) _ _ s;rw[wK];exact QK h
def wM(xs:Array KB)(i k:Nat):((E7 k).filterMap λ(m:Nat)=>xs[((i:Int)+(m:Int)*1).toNat]?).toArray=((xs.toList.drop i).take k).toArray:=by
 have e:(λ(m:Nat)=>xs[((i:Int)+(m:Int)*1).toNat]?)=λm=>xs[i+m]?:=by
  funext m;have:((i:Int)+(m:Int)*1).toNat=i+m:=t8
  rw[this]
 rw[e];have:=pick_run xs i k;rw[Hu]at this;have e2:((λx=>xs[x]?) ∘ λx=>i+x)=λm=>xs[i+m]?:=rfl;rw[e2]at this;rw[this]
def getItem_tuple_cut{t sl:KF}{items:Array KB}{vl vu:KB}(ht:IsTup s.heap t items)(hs:s.heap.IsSliceOf sl vl vu .none)(pl:RP vl lo)(pu:RP vu hi)
  (hw:¬(sIx items.size 0 lo=0/\sIx items.size items.size hi=items.size))
  (h:Q (.ref s.heap.objs.size) {s with heap:=s.heap.push {cls:=.type "tuple",data:=.seq ((items.toList.drop (sIx items.size 0 lo)).take (sIx items.size items.size hi-sIx items.size 0 lo)).toArray} })
  (ge:items.size<=sizeLine):QI (QJ prog w) A (R7 (.ref t) (.ref sl)) Q E s:=by
 have g4:sizeOk (.seq ((items.toList.drop (sIx items.size 0 lo)).take (sIx items.size items.size hi-sIx items.size 0 lo)).toArray):=by
  show((items.toList.drop (sIx items.size 0 lo)).take (sIx items.size items.size hi-sIx items.size 0 lo)).toArray.size<=sizeLine;rw[Fb,Gv,Gh,Ge];lia
 have hj:sIx items.size items.size hi<=items.size:=sIx_le _ _ (E5 _) hi;obtain⟨os,y_,KP,KQ⟩:=id hs;have OI:s.TypeIs (.ref sl) "slice":=#[os,y_,KP];unfold R7
 try with_reducible refine Rb ?_
 first|refine Os (QK ?_)|skip
 refine Os (wpAny_sequenceKey ht.typeIs y8 ?_);refine Os (wpAny_callSpecial?_slot (name:=Str.ofString "__getitem__") ht.typeIs PyProof.Rows.slot_tuple_getitem
  (wpAny_call_entry PyProof.Rows.slot_tuple_getitem ht.typeIs entry_tuple_getitem ?_ (args_tuple_getitem _ _)))
 show QI _ _ (Builtin.Tuple.tupleItemsOf (.ref t)>>=_) _ _ s;refine Os (tupleItemsOf_ ht ?_);refine Os (wpAny_typeOf OI ?_);rw[if_pos y8];refine Os (wL hs pl pu ?_);have JY:¬((((sIx items.size 0 lo:Nat):Int)==0&&(1:Int)==1&&(sIx items.size items.size hi-sIx items.size 0 lo)==items.size)=true):=by
  intro q;rw[Fv,Fv]at q;have q1:((sIx items.size 0 lo:Nat):Int)=0:=eq_of_beq q.1.1;have q2:sIx items.size items.size hi-sIx items.size 0 lo=items.size:=eq_of_beq q.2;exact hw #[t8,t8]
 show QI _ _ (if(((sIx items.size 0 lo:Nat):Int)==0&&(1:Int)==1&&(sIx items.size items.size hi-sIx items.size 0 lo)==items.size)=true then _ else _) _ _ s;rw[if_neg JY,wM]
 first
  |exact Os (m:=Builtin.Tuple.tupleExact _) (QU (QK ⟨_,rfl,QK h⟩) g4)
  |exact Os (m:=Builtin.Tuple.tupleExact _) (QU (Os (QK (QK ⟨_,rfl,QK h⟩))) g4)
  |exact Os (Os (m:=Builtin.Tuple.tupleExact _) (QU (QK (QK ⟨_,rfl,QK h⟩)) g4))
  |exact Os (Os (m:=Builtin.Tuple.tupleExact _) (QU (QK ⟨_,rfl,QK h⟩) g4))
end
end HT
namespace L2
open PySem PySem.Spec PyProof.Rows
abbrev TO:=St->Hp->(Option Int->Hp->Prop)->Prop
def PO(X:Cx)(e:Option QG)(t:TO):Prop:=
 ∀(pins:List (KF×QY)) (s:KM) (σ:St) (H:Hp) (Q:Option Int->Hp->Prop),Inv X pins σ H s->t σ H Q->
  QI (QJ X.prog X.w) X.A (evalPart e X.env) (λu s'=>∃o H',Inv X pins σ H' s'/\RP u o/\Q o H') X.xe s
def wN:TO:=λ_ H Q=>Q m_ H
def wO(t:TE):TO:=λσ H Q=>t σ H λx H1=>∃i,x=.int i/\Q (be i) H1
def intsAre_of{ns:List Int}:∀{us:List KB},Vals (ns.map V.int) us->RL us ns:=by
 induction ns with
 |nil=>intro us r;rw[FW]at r;cases r;exact .nil
 |cons n ns ih=>
  intro us r;rw[Fi]at r;cases r with
  |cons r1 r2=>
   obtain⟨t,e⟩:=r1;subst e;exact .cons n t (ih r2)
section
variable {X:Cx}{e:QG}{te:TE}{lo hi:Option QG}{tl th:TO}{pos p2:QT}
def qp:PO X m_ wN:=by
 intro pins s σ H Q I h;rw[evalPart_none];exact QK #[m_,H,I,.none,h]
def qq(h:PE X e te):PO X (be e) (wO te):=by
 intro pins s σ H Q I hw;rw[evalPart_some];refine thn (h pins s σ H _ I hw) λu s1 b9=>?_;obtain⟨x,H1,I1,r1,q1⟩:=b9;obtain⟨i,rfl,q⟩:=q1;obtain⟨t,rfl⟩:=r1;exact#[be i,H1,I1,.int i t,q]
def SlR(X:Cx)(r:V->Option Int->Option Int->Hp->VK->Prop):Prop:=
 ∀(pins:List (KF×QY)) (s:KM) (σ:St) (H:Hp) (x:V) (v vl vu:KB) (lo hi:Option Int) (sl:KF) (Q:VK),Inv X pins σ H s->RelV x v->s.heap.IsSliceOf sl vl vu .none->RP vl lo->RP vu hi->r x lo hi H Q->
  ∃T id,typeLookup (.type T) "__getitem__"=pure (be (.builtin id))/\s.TypeIs v T/\QI (QJ X.prog X.w) X.A (R7 v (.ref sl)) (EP X pins σ Q) X.xe s
variable{r:V->Option Int->Option Int->Hp->VK->Prop}
def SlR.or{r':V->Option Int->Option Int->Hp->VK->Prop}(h:SlR X r)(h':SlR X r'):SlR X (λx lo hi H Q=>r x lo hi H Q\/r' x lo hi H Q):=by
 intro pins s σ H x v vl vu lo hi sl Q I rx hs pl pu q;rcases q with q|q
 .exact h pins s σ H x v vl vu lo hi sl Q I rx hs pl pu q
 .exact h' pins s σ H x v vl vu lo hi sl Q I rx hs pl pu q
def tSl(r:V->Option Int->Option Int->Hp->VK->Prop)(te:TE)(tl th:TO):TE:=λσ H Q=>te σ H λx H1=>tl σ H1 λl H2=>th σ H2 λu H3=>r x l u H3 Q
def qr(hr:SlR X r)(he:PE X e te)(hl:PO X lo tl)(hu:PO X hi th):PE X (.Subscript e (.Slice lo hi m_ p2) pos) (tSl r te tl th):=by
 intro pins s σ H Q I h;refine Subscript_ (thn (he pins s σ H _ I h) λv s1 b9=>?_);obtain⟨x,H1,I1,r1,q1⟩:=b9;refine wpAny_Slice (thn (hl pins s1 σ H1 _ I1 q1) λvl s2 ⟨l,H2,I2,pl,q2⟩=>thn (hu pins s2 σ H2 _ I2 q2) λvu s3 b9=>?_);obtain⟨u,H3,I3,pu,q3⟩:=b9;rw[evalPart_none];refine QK ?_;have I4:Inv X pins σ H3 {s3 with heap:=s3.heap.push {cls:=.type "slice",data:=.fields [vl,vu,.none].toArray} }:=I3.kept (t':=s3.toks) λb ob q=>Heap.get?_push_of_some _ q;obtain⟨T,id,hT,ht,hg⟩:=hr pins {s3 with heap:=s3.heap.push {cls:=.type "slice",data:=.fields [vl,vu,.none].toArray} } σ H3 x v vl vu l u s3.heap.objs.size Q I4 r1 (Heap.IsSliceOf.new ..) pl pu q3;show QI (QJ X.prog X.w) X.A (subscriptTail e (.Slice lo hi m_ p2) v (.ref s3.heap.objs.size)) (EP X pins σ Q) X.xe {s3 with heap:=s3.heap.push {cls:=.type "slice",data:=.fields [vl,vu,.none].toArray} };exact tail_any (ops:=[.ref s3.heap.objs.size,v]) ht hT hg (by with_unfolding_all rfl)
def cutV(xs:List V)(lo hi:Option Int):List V:=(xs.drop (HT.sIx xs.length 0 lo)).take (HT.sIx xs.length xs.length hi-HT.sIx xs.length 0 lo)
def qt(xs:List V)(lo hi:Option Int):(cutV xs lo hi).length<=xs.length:=by
 unfold cutV;rw[Gv,Gh];lia
def rSlT(K:Ex):V->Option Int->Option Int->Hp->VK->Prop:=λx lo hi H Q=>∃a xs,x=.ref a/\SqT K H a xs/\
 ¬(HT.sIx xs.length 0 lo=0/\HT.sIx xs.length xs.length hi=xs.length)/\∀p,H p=m_->Q (.ref p) (upd H p (.tup (cutV xs lo hi)))
def wP:SlR X (rSlT X.K):=by
 intro pins s σ H x v vl vu lo hi sl Q I rx hs pl pu h;obtain⟨a,xs,rfl,hx,hw,q⟩:=h;cases rx;obtain⟨its,r,ht,hz⟩:=I.tuple hx;have a_:its.toArray.size=xs.length:=by rw[Fb];exact r.length.symm
 refine#["tuple",_,PyProof.Rows.slot_tuple_getitem.lookup,ht.typeIs,?_];refine HT.getItem_tuple_cut ht hs pl pu (by rw[a_];exact hw) ?_ (by rw[a_];exact hz);rw[a_];refine#[.ref s.heap.objs.size,_,I.laid (t':=s.toks) (o:=.tup (cutV xs lo hi)) (λb ob q=>Heap.get?_push_of_some _ q) (E5 _) ?_,rfl,q _ (I.hok.fresh (E5 _))];exact#[Fh (qt xs lo hi) hz,_,(r.drop (HT.sIx xs.length 0 lo)).take (HT.sIx xs.length xs.length hi-HT.sIx xs.length 0 lo),IsTup.new _ _]
def qu(K:Ex):R2:=λx y H Q=>∃a b xs ys,x=.ref a/\y=.ref b/\SqT K H a xs/\SqT K H b ys/\xs≠[]/\xs.length+ys.length<=sizeLine/\
 (ys=[]->Q (.ref a) H)/\(ys≠[]->∀p,H p=m_->Q (.ref p) (upd H p (.tup (xs++ys))))
def Vals.nil_iff{xs:List V}{us:List KB}(r:Vals xs us):us=[]↔xs=[]:=by
 cases r with
 |nil=>simp
 |cons _ _=>simp
def wQ:OpR X (Q4 .Add) (qu X.K):=by
 intro pins s σ H x y v u Q I rx ry h;obtain⟨a,b,xs,ys,rfl,rfl,ha,hb,hx,hz,q1,q2⟩:=h;cases rx;cases ry;obtain⟨its,r1,p1,_⟩:=I.tuple ha;obtain⟨d7,r2,p2,_⟩:=I.tuple hb;refine HT.cat_tup p1 p2 (λz=>hx (r1.nil_iff.mp z)) (λz=>#[.ref a,H,I,rfl,q1 (r2.nil_iff.mp z)]) (λz=>?_) (by rw[<-r1.length,<-r2.length];exact hz);refine#[.ref s.heap.objs.size,_,I.laid (t':=s.toks) (o:=.tup (xs++ys)) (λb ob q=>Heap.get?_push_of_some _ q) (E5 _) ?_,rfl,q2 (λw=>z (r2.nil_iff.mpr w)) _ (I.hok.fresh (E5 _))];exact#[by rw[Fn];exact hz,_,r1.append r2,IsTup.new _ _]
end
def ixN(n:Nat)(i:Int):Option Nat:=if 0<=i then(if i<n then be i.toNat else m_)else if -(n:Int)<=i then be (i+n).toNat else m_
def atI{α:Type}(xs:List α)(i:Int):Option α:=(ixN xs.length i).bind λj=>xs[j]?
def qv{n:Nat}{i:Int}{j:Nat}(h:ixN n i=be j):seqIndex? i n=be j/\j<n/\-(n:Int)<=i/\i<n:=by
 unfold ixN at h;by_cases h0:0<=i
 .rw[if_pos h0]at h;by_cases h1:i<n
  .rw[if_pos h1]at h;have e:i.toNat=j:=Option.some.inj h;exact#[by rw[R_ h0 h1,e],t8,t8,h1]
  .rw[if_neg h1]at h;cases h
 .rw[if_neg h0]at h;by_cases h1:-(n:Int)<=i
  .rw[if_pos h1]at h;have e:(i+n).toNat=j:=Option.some.inj h;exact#[by rw[R5 t8 h1,e],t8,h1,t8]
  .rw[if_neg h1]at h;cases h
def atI_get{α:Type}{xs:List α}{i:Int}{v:α}(h:atI xs i=be v):∃j,seqIndex? i xs.length=be j/\xs[j]?=be v/\j<xs.length/\-(xs.length:Int)<=i/\i<xs.length:=by
 unfold atI at h;cases e:ixN xs.length i with
 |none=>rw[e]at h;cases h
 |some j=>
  rw[e]at h;obtain⟨h1,h2,h3,h4⟩:=qv e;exact#[j,h1,h,h2,h3,h4]
def bI{α:Type}{xs:List α}{j:Nat}{v:α}(h:xs[j]?=be v):atI xs (j:Int)=be v:=by
 have hj:j<xs.length:=(Fj.mp h).1;have e:ixN xs.length (j:Int)=be j:=by
  unfold ixN;rw[if_pos t8,if_pos t8];simp
 unfold atI;rw[e];exact h
def dH(b:QG):Prop:=∀o i,subscripted b false o i=operate [o,i] (R7 o i)
def IxR(X:Cx)(r:R2):Prop:=
 ∀(value slice:QG) (pins:List (KF×QY)) (s:KM) (σ:St) (H:Hp) (x y:V) (v u:KB) (Q:VK),Inv X pins σ H s->RelV x v->RelV y u->r x y H Q->
  subscripted slice false v u=operate [v,u] (R7 v u)->QI (QJ X.prog X.w) X.A (subscriptTail value slice v u) (EP X pins σ Q) X.xe s
def MtR(X:Cx)(id:String)(r:V->List V->Hp->VK->Prop):Prop:=
 ∀(pins:List (KF×QY)) (s:KM) (σ:St) (H:Hp) (x:V) (xs:List V) (v:KB) (us:List KB) (Q:VK),Inv X pins σ H s->RelV x v->Vals xs us->r x xs H Q->
  QI (QJ X.prog X.w) X.A (call (.builtin id) (v::us)) (EP X pins σ Q) X.xe s
section
variable {X:Cx}{a b:QG}{ta tb:TE}{pos:QT}
def IxR.or{r r':R2}(h:IxR X r)(h':IxR X r'):IxR X (λx y H Q=>r x y H Q\/r' x y H Q):=by
 intro value slice pins s σ H x y v u Q I rx ry q hs;rcases q with q|q
 .exact h value slice pins s σ H x y v u Q I rx ry q hs
 .exact h' value slice pins s σ H x y v u Q I rx ry q hs
def pe_ix{r:R2}(hr:IxR X r)(ha:PE X a ta)(hb:PE X b tb)(hs:dH b):PE X (.Subscript a b pos) (tOp r ta tb):=by
 intro pins s σ H Q I h;exact Subscript_ (binT ha hb I h λv u s2 x y H2 I2 rx ry q=>hr a b pins s2 σ H2 x y v u Q I2 rx ry q (hs _ _))
def rIxL(K:Ex):R2:=λx y H Q=>∃p xs i v,x=.ref p/\y=.int i/\SqL K H p xs/\atI xs i=be v/\Q v H
def rIxT(K:Ex):R2:=λx y H Q=>∃p xs i v,x=.ref p/\y=.int i/\SqT K H p xs/\atI xs i=be v/\Q v H
def rIxS:R2:=λx y H Q=>∃z i c,x=.str z/\y=.int i/\z.length<=sizeLine/\atI z.cps.toList i=be c/\Q (.str #[[c].toArray]) H
def ix_list:IxR X (rIxL X.K):=by
 intro value slice pins s σ H x y v u Q I rx ry h hs;obtain⟨p,xs,i,z,rfl,rfl,hq,he,q⟩:=h;cases rx;obtain⟨t,rfl⟩:=ry;obtain⟨its,r,pl,hz⟩:=I.list hq;obtain⟨j,h1,h2,h3,h4,h5⟩:=atI_get he;obtain⟨w,ew,g9⟩:=r.get h2;have hl:=r.length;have hn:=line63;have d8:EP X pins σ Q w s:=#[z,H,I,g9,q];by_cases h0:0<=i
 .have hj:i.toNat=j:=by
   rw[R_ h0 h5]at h1;exact Option.some.inj h1
  exact item_listR pl.isList h0 t8 (by rw[hj];simpa using ew) d8 hs
 .have hj:(i+(its.toArray.size:Int)).toNat=j:=by
   rw[R5 t8 h4]at h1;rw[Fb,<-hl];exact Option.some.inj h1
  exact R4 (x:=w) pl.isList.typeIs slot_list_getitem.lookup
   (wpAny_getItem_list_neg (Q:=λr s'=>r=w/\EP X pins σ Q r s') pl.isList t8 (by rw[Fb]<;>lia) t8 (by rw[hj];simpa using ew) #[rfl,d8]) hs
def ix_tup:IxR X (rIxT X.K):=by
 intro value slice pins s σ H x y v u Q I rx ry h hs;obtain⟨p,xs,i,z,rfl,rfl,hq,he,q⟩:=h;cases rx;obtain⟨t,rfl⟩:=ry;obtain⟨its,r,pl,hz⟩:=I.tuple hq;obtain⟨j,h1,h2,h3,h4,h5⟩:=atI_get he;obtain⟨w,ew,g9⟩:=r.get h2;have hl:=r.length;have hn:=line63;have d8:EP X pins σ Q w s:=#[z,H,I,g9,q];exact R4 (x:=w) pl.typeIs slot_tuple_getitem.lookup
  (getItem_tuple (j:=j) (Q:=λr s'=>r=w/\EP X pins σ Q r s') pl t8 t8 (by rw[Fb,<-hl];exact h1) (by simpa using ew) #[rfl,d8]) hs
def wR:IxR X rIxS:=by
 intro value slice pins s σ H x y v u Q I rx ry h hs;obtain⟨z,i,c,rfl,rfl,hz,he,q⟩:=h;obtain⟨t,rfl⟩:=rx;obtain⟨t',rfl⟩:=ry;obtain⟨j,h1,h2,h3,h4,h5⟩:=atI_get he;have hl:z.cps.toList.length=z.length:=by simp[Str.length]
 rw[hl]at h1 h4 h5;have hn:=line63;exact tail_any (Sh s z t) slot_str_getitem.lookup (getItem_str (c:=c) (by
  have e1:decide (i< -(2^63:Int))=false:=decide_eq_false t8;have e2:decide (i>=2^63)=false:=decide_eq_false t8;rw[e1,e2,Bool.or_false]) (by rw[h1];simpa using h2) #[.str #[[c].toArray],H,I.tok _,#[_,rfl],q]) hs
def rIx(K:Ex):R2:=λx y H Q=>rIxL K x y H Q\/rIxT K x y H Q\/rIxS x y H Q
def qw:IxR X (rIx X.K):=ix_list.or (ix_tup.or wR)
def wS(its:List KB)(n j:Nat)(u:KB):Obj.mapSeq (·.setIfInBounds j u) {cls:=.type "list",data:=.seq its.toArray n}={cls:=.type "list",data:=.seq (its.set j u).toArray n}:=by
 simp[Obj.mapSeq]
def Inv.lst{pins:List (KF×QY)}{σ:St}{H:Hp}{s:KM}{p:KF}{xs:List V}(I:Inv X pins σ H s)(h:H p=be (.lst xs)):
  ∃(its:List KB) (n:Nat),Vals xs its/\s.heap.get? p=be {cls:=.type "list",data:=.seq its.toArray n}/\xs.length<=sizeLine:=by
 obtain⟨z,its,n,r,e⟩:=I.hok p _ h;exact#[its,n,r,e,z]
variable{pins:List (KF×QY)}{s:KM}
def Inv.lstUpd{σ:St}{H:Hp}{p:KF}{xs ys:List V}{its its':List KB}{n n':Nat}{f:QY->QY}(I:Inv X pins σ H s)(h:H p=be (.lst xs))
  (ho:s.heap.get? p=be {cls:=.type "list",data:=.seq its.toArray n}) (hf:f {cls:=.type "list",data:=.seq its.toArray n}={cls:=.type "list",data:=.seq its'.toArray n'}) (r:Vals ys its') (hz:ys.length<=sizeLine) (t:Nat):
  Inv X pins σ (upd H p (.lst ys)) {s with heap:=s.heap.update p f,toks:=t}:=by
 have e:(s.heap.update p f).get? p=be {cls:=.type "list",data:=.seq its'.toArray n'}:=by
  rw[Heap.get?_update_self f ho (by rw[hf]<;>rfl),hf]
 refine I.write (x:=p) (e:=p) (by rw[h];trivial) (.inl rfl) (λb u hb q=>(Heap.get?_update_other _ _ (Ne.symm hb)).trans q) #[_,e] ?_;exact#[hz,its',n',r,e]
def wT:V->V->V->Hp->(Hp->Prop)->Prop:=λo i v H Q=>∃p xs k j,o=.ref p/\i=.int k/\H p=be (.lst xs)/\ixN xs.length k=be j/\Q (upd H p (.lst (xs.set j v)))
def wU:PSet X wT:=by
 intro pins s σ H o i v ov iv u Q I ro ri rv h;obtain⟨p,xs,k,j,rfl,rfl,hp,hj,q⟩:=h;cases ro;obtain⟨t,rfl⟩:=ri;obtain⟨its,n,r,ho,hz⟩:=I.lst hp;obtain⟨h1,h2,h3,h4⟩:=qv hj;have hl:=r.length;have hn:=line63;have I':Inv X pins σ (upd H p (.lst (xs.set j v))) {s with heap:=s.heap.update p (Obj.mapSeq (·.setIfInBounds j u))}:=
  I.lstUpd hp ho (wS its n j u) (r.set rv j) (by rw[FX];exact hz) s.toks
 by_cases h0:0<=k
 .have hk:k.toNat=j:=by
   rw[R_ h0 h4]at h1;exact Option.some.inj h1
  exact ki_setAt ho h0 t8 (by rw[Fb,<-hl];exact h4) (by rw[hk];exact#[_,I',q])
 .have hk:(k+(its.toArray.size:Int)).toNat=j:=by
   rw[R5 t8 h3]at h1;rw[Fb,<-hl];exact Option.some.inj h1
  exact ki_setBack ho t8 (by rw[Fb,<-hl];exact h3) t8 (by rw[hk];exact#[_,I',q])
def wV(lo hi:Option Int)(n:Nat):(Rh lo hi m_ n).1=((HT.sIx n 0 lo:Nat):Int)/\(Rh lo hi m_ n).2.1=((HT.sIx n n hi:Nat):Int)/\(Rh lo hi m_ n).2.2=1:=by
 refine#[?_,?_,rfl]
 .cases lo with
  |none=>simp[Rh,HT.sIx]
  |some i=>
   simp only[Rh,HT.sIx,Hv,show(1:Int)>0 by decide,if_true];by_cases h:i<0
   .simp only[h,if_true]<;>lia
   .simp only[h,if_false]<;>lia
 .cases hi with
  |none=>simp[Rh,HT.sIx]
  |some i=>
   simp only[Rh,HT.sIx,Hv,show(1:Int)>0 by decide,if_true];by_cases h:i<0
   .simp only[h,if_true]<;>lia
   .simp only[h,if_false]<;>lia
def wW(its:List KB)(lo hi:Option Int):slicePick its.toArray lo hi m_=((its.drop (HT.sIx its.length 0 lo)).take (HT.sIx its.length its.length hi-HT.sIx its.length 0 lo)).toArray:=by
 obtain⟨h1,h2,h3⟩:=wV lo hi its.toArray.size;unfold slicePick;rw[h1,h2,h3];simp only[sliceRange_one,pick_run,Fb]<;>rfl
def rSlL(K:Ex):V->Option Int->Option Int->Hp->VK->Prop:=λx lo hi H Q=>∃a xs,x=.ref a/\SqL K H a xs/\∀p,H p=m_->Q (.ref p) (upd H p (.lst (cutV xs lo hi)))
def qy:SlR X (rSlL X.K):=by
 intro pins s σ H x v vl vu lo hi sl Q I rx hs pl pu h;obtain⟨a,xs,rfl,hx,q⟩:=h;cases rx;obtain⟨its,r,ht,hz⟩:=I.list hx;have a_:=r.length;refine#["list",_,slot_list_getitem.lookup,ht.isList.typeIs,?_];refine wpAny_getItem_list_slice ht.isList hs pl pu .none IV ?_ (by rw[Fb]<;>lia);rw[wW,<-a_];refine#[.ref s.heap.objs.size,_,I.laid (t':=s.toks) (o:=.lst (cutV xs lo hi)) (λb ob q=>Heap.get?_push_of_some _ q) (E5 _) ?_,rfl,q _ (I.hok.fresh (E5 _))];exact#[Fh (qt xs lo hi) hz,_,0,(r.drop (HT.sIx xs.length 0 lo)).take (HT.sIx xs.length xs.length hi-HT.sIx xs.length 0 lo),Heap.get?_push_size _ rfl]
def bp:V->Bool
 |.non=>true
 |.bl _=>true
 |.int _=>true
 |.str _=>true
 |_=>false
def eqV:V->V->Bool
 |.non,.non=>true
 |.bl a,.bl b=>a==b
 |.bl a,.int b=>(if a then 1 else 0)==b
 |.int a,.bl b=>a==(if b then 1 else 0)
 |.int a,.int b=>a==b
 |.str a,.str b=>a==b
 |_,_=>false
variable{x:V}
def eqAt_V{A:QM}{y:V}{u v:KB}(ry:RelV y u)(rx:RelV x v)(fy:bp y=true)(fx:bp x=true):SeqAt.EqAt A s u v (eqV y x):=by
 cases y with
 |non=>
  cases ry;cases x with
  |non=>cases rx;exact SeqAt.EqAt.same _
  |bl b=>cases rx;exact SeqAt.EqAt.none_bool b
  |int b=>obtain⟨t,rfl⟩:=rx;exact SeqAt.EqAt.none_int b t
  |str b=>obtain⟨t,rfl⟩:=rx;exact SeqAt.EqAt.none_str b t
  |_=>exact absurd (show false=true from fx) Fk
 |bl a=>
  cases ry;cases x with
  |non=>cases rx;exact SeqAt.EqAt.bool_none a
  |bl b=>cases rx;exact SeqAt.EqAt.bool_bool a b
  |int b=>obtain⟨t,rfl⟩:=rx;exact SeqAt.EqAt.bool_int a b t
  |str b=>obtain⟨t,rfl⟩:=rx;exact SeqAt.EqAt.bool_str a b t
  |_=>exact absurd (show false=true from fx) Fk
 |int a=>
  obtain⟨t',rfl⟩:=ry;cases x with
  |non=>cases rx;exact SeqAt.EqAt.int_none a t'
  |bl b=>cases rx;exact SeqAt.EqAt.int_bool a t' b
  |int b=>obtain⟨t,rfl⟩:=rx;exact SeqAt.EqAt.int_int a t' b t
  |str b=>obtain⟨t,rfl⟩:=rx;exact SeqAt.EqAt.int_str a t' b t
  |_=>exact absurd (show false=true from fx) Fk
 |str a=>
  obtain⟨t',rfl⟩:=ry;cases x with
  |non=>cases rx;exact SeqAt.EqAt.str_none a t'
  |bl b=>cases rx;exact SeqAt.EqAt.str_bool a t' b
  |int b=>obtain⟨t,rfl⟩:=rx;exact SeqAt.EqAt.str_int a t' b t
  |str b=>obtain⟨t,rfl⟩:=rx;exact SeqAt.EqAt.str_str a t' b t
  |_=>exact absurd (show false=true from fx) Fk
 |_=>exact absurd (show false=true from fy) Fk
def eqU(x:V)(u:KB):Bool:=match u with
 |.none=>eqV .non x
 |.bool b=>eqV (.bl b) x
 |.int i _=>eqV (.int i) x
 |.str z _=>eqV (.str z) x
 |_=>false
def qz{y:V}{u:KB}(r:RelV y u)(f:bp y=true):eqU x u=eqV y x:=by
 cases y with
 |non=>cases r;rfl
 |bl b=>cases r;rfl
 |int i=>obtain⟨t,rfl⟩:=r;rfl
 |str z=>obtain⟨t,rfl⟩:=r;rfl
 |_=>exact absurd (show false=true from f) Fk
def jn{x:V}:∀{xs:List V} {us:List KB},Vals xs us->xs.all bp=true->us.any (eqU x)=xs.any λy=>eqV y x
 |_,_,.nil,_=>rfl
 |y::xs,u::us,.cons r t,f=>by
  rw[FO,Fv]at f;rw[Gi,Gi,qz r f.1,jn t f.2]
def mem_eqAt{A:QM}{s:KM}{x:V}{v:KB}(rx:RelV x v)(fx:bp x=true):∀{xs:List V} {us:List KB},Vals xs us->xs.all bp=true->∀u∈us,SeqAt.EqAt A s u v (eqU x u)
 |_,_,.nil,_=>λu hu=>by cases hu
 |y::xs,u::us,.cons r t,f=>λu' hu=>by
  rw[FO,Fv]at f;rcases E8.mp hu with rfl|hu
  .rw[qz r f.1];exact eqAt_V r rx f.1 fx
  .exact mem_eqAt rx fx t f.2 u' hu
def inV(x:V)(xs:List V):Bool:=xs.any λy=>eqV y x
def rIn(K:Ex)(neg:Bool):R2:=λx y H Q=>∃p xs,y=.ref p/\(SqL K H p xs\/SqT K H p xs)/\bp x=true/\xs.all bp=true/\Q (.bl (if neg then !inV x xs else inV x xs)) H
def wX:OpR X (QW .NotIn) (rIn X.K true):=by
 intro pins s σ H x y v u Q I rx ry h;obtain⟨p,xs,rfl,hq,fx,fs,q⟩:=h;cases ry;rcases hq with hq|hq
 .obtain⟨its,r,pl,hz⟩:=I.list hq;refine SeqAt.notIn_listAt (eqU x) pl.isList (λw hw=>mem_eqAt rx fx r fs w (by simpa using hw)) #[.bl _,H,I,rfl,?_];rw[show its.toArray.any (eqU x)=its.any (eqU x)by simp,jn r fs];exact q
 .obtain⟨its,r,pl,hz⟩:=I.tuple hq;refine SeqAt.notIn_tupleAt (eqU x) pl (λw hw=>mem_eqAt rx fx r fs w (by simpa using hw)) #[.bl _,H,I,rfl,?_];rw[show its.toArray.any (eqU x)=its.any (eqU x)by simp,jn r fs];exact q
def wY:OpR X (QW .NotIn) (λx y H Q=>∃i j,x=.str i/\y=.str j/\Q (.bl (!(!(Builtin.Str.occurrences j i 0 j.length 1).isEmpty))) H):=by
 intro pins s σ H x y v u Q I rx ry h;obtain⟨i,j,rfl,rfl,q⟩:=h;obtain⟨t,rfl⟩:=rx;obtain⟨t',rfl⟩:=ry;exact notIn_str #[.bl _,H,I,rfl,q]
def qA:bC X (.type "list") (λxs H Q=>∃p ys,xs=[.ref p]/\(SqL X.K H p ys\/SqT X.K H p ys)/\∀l,H l=m_->Q (.ref l) (upd H l (.lst ys))):=by
 intro pins s σ H xs us Q I r h;obtain⟨p,ys,rfl,hq,q⟩:=h;obtain⟨u,rfl,rx⟩:=bS r;cases rx;have d8:∀(its:List KB),Vals ys its->ys.length<=sizeLine->∀(h':QN) (c':Nat),(∀b o',s.heap.get? b=be o'->h'.get? b=be o')->
   h'.get? s.heap.objs.size=be {cls:=.type "list",dict:=m_,data:=.seq its.toArray c',slots:=[].toArray}->EP X pins σ Q (.ref s.heap.objs.size) {s with heap:=h'}:=λits r' hz h' c' kp e=>
  #[.ref s.heap.objs.size,_,I.laid (t':=s.toks) kp (E5 _) (show ObjOk X.prog X.w _ h' _ (.lst ys)from#[hz,its,c',r',e]),rfl,q _ (I.hok.fresh (E5 _))]
 rcases hq with hq|hq
 .obtain⟨its,r',pl,hz⟩:=I.list hq;have a_:=r'.length;obtain⟨o,ho,hc,n,hd⟩:=pl.isList;exact call_list_seq p (.inl rfl) ho hc hd (λh' c' kp e=>d8 its r' hz h' c' kp e) (by simp only[Fb]<;>lia)
 .obtain⟨its,r',pl,hz⟩:=I.tuple hq;have a_:=r'.length;obtain⟨o,ho,hc,n,hd⟩:=pl;exact call_list_seq p (.inr rfl) ho hc hd (λh' c' kp e=>d8 its r' hz h' c' kp e) (by simp only[Fb]<;>lia)
def wZ:bC X (.type "tuple") (λxs H Q=>∃p ys,xs=[.ref p]/\((SqL X.K H p ys/\∀l,H l=m_->Q (.ref l) (upd H l (.tup ys)))\/(SqT X.K H p ys/\Q (.ref p) H))):=by
 intro pins s σ H xs us Q I r h;obtain⟨p,ys,rfl,h⟩:=h;obtain⟨u,rfl,rx⟩:=bS r;cases rx;rcases h with⟨hq,q⟩|⟨hq,q⟩
 .obtain⟨its,r',pl,hz⟩:=I.list hq;have a_:=r'.length;refine call_tuple_list pl.isList (λh' kp=>?_) (by simp only[Fb]<;>lia);have I1:Inv X pins σ H {s with heap:=h'}:=I.kept (t':=s.toks) kp;have I2:Inv X pins σ (upd H h'.objs.size (.tup ys)) {s with heap:=h'.push {cls:=.type "tuple",data:=.seq its.toArray} }:=
   I1.laid (t':=s.toks) (λb o e=>Heap.get?_push_of_some _ e) (E5 _) (show ObjOk X.prog X.w _ _ _ (.tup ys)from#[hz,its,r',IsTup.new _ _])
  exact#[.ref h'.objs.size,_,I2,rfl,q _ (I1.hok.fresh (E5 _))]
 .obtain⟨its,r',pl,hz⟩:=I.tuple hq;exact call_tuple_same pl #[.ref p,H,I,rfl,q]
def tyV(K:Ex)(T:String)(x:V)(H:Hp):Prop:=match x with
 |.str _=>T="str"
 |.int _=>T="int"
 | .ref p=>(T="list"/\∃xs,SqL K H p xs)\/(T="tuple"/\∃o,K.lookup p=be o/\o.cls=.type "tuple"/\o.dict=m_)\/
   (T="dict"/\((∃a8,H p=be (.dK a8))\/∃a8,H p=be (.dT a8)))\/(T="set"/\∃S n,H p=be (.set S n))
 |_=>False
def xa{σ:St}{H:Hp}{T:String}{v:KB}(I:Inv X pins σ H s)(r:RelV x v)(ty:tyV X.K T x H):
  s.TypeIs v T/\∀a,v=.ref a->∃ob,s.heap.get? a=be ob/\ob.dict=none:=by
 cases x with
 |str z=>
  obtain⟨t,rfl⟩:=r;cases(show T="str" from ty);exact#[Sh s z t,λ_ e=>nomatch e]
 |int i=>
  obtain⟨t,rfl⟩:=r;cases(show T="int" from ty);exact#[typeIs_int s i t,λ_ e=>nomatch e]
 |ref p=>
  cases r;rcases ty with⟨rfl,xs,hq⟩|⟨rfl,o,hk,hc,hd⟩|⟨rfl,hk⟩|⟨rfl,S,n,hk⟩
  .obtain⟨its,_,pl,_⟩:=I.list hq;refine#[pl.isList.typeIs,λa e=>?_];cases e;obtain⟨o,n,e,c,hd,_⟩:=pl;exact#[o,e,hd]
  .refine#[#[o,I.kIn p o hk,hc],λa e=>?_];cases e;exact#[o,I.kIn _ o hk,hd]
  .have z:∃o,s.heap.get? p=be o/\o.ExactDict:=by
    rcases hk with⟨a8,hk⟩|⟨a8,hk⟩
    .obtain⟨_,_,_,_,o,_,_,e,ex,_⟩:=I.hok p _ hk;exact#[o,e,ex]
    .obtain⟨_,_,_,_,o,_,_,e,ex,_⟩:=I.hok p _ hk;exact#[o,e,ex]
   obtain⟨o,e,ex⟩:=z;refine#[#[o,e,ex.1],λa e2=>?_];cases e2;exact#[o,e,ex.2.1]
  .obtain⟨o,_,_,_,e,ex,_⟩:=I.hok p _ hk;refine#[#[o,e,ex.1],λa e2=>?_];cases e2;exact#[o,e,ex.2.1]
 |_=>exact False.elim ty
def tBM(K:Ex)(T:String)(r:V->List V->Hp->VK->Prop)(to:TE)(t:TA):TE:=λσ H Q=>to σ H λx H1=>tyV K T x H1/\t σ H1 λxs H2=>r x xs H2 Q
variable {o e:QG}{es:List QG}{to:TE}{t:TA}{name:t6}{apos cpos:QT}{T id:String}{r:V->List V->Hp->VK->Prop}
def dI(pa:PlainAttrs T)(slot:Slot T name id)(Lp:typeOf (.builtin id)=pure (.type "method_descriptor"))(hm:MtR X id r)(ho:PE X o to)(ha:PA X (e::es) t)
  (b8:autoParam (QQ o name X.env (QS o X.env)=QS o X.env) zA0)
  (d_:((Rm cpos (QP (e::es) X.env)).all (λx=>!x.1)&&(RK cpos (Rq [] X.env)).all (λx=>x.1.isSome)
   && decide ((e::es).length+([]:List RE).length+(if([]:List RE).isEmpty then 0 else 1)<30))=true:=by rfl)
  (c5:autoParam ((apos.endLine==cpos.line)=true) zA0) (hs:autoParam (zSE X e es) zA0) (l_:autoParam (zPL X cpos es) zA0):
  PE X (.Call (.Attribute o name apos) (e::es) [] cpos) (tBM X.K T r to t):=by
 intro pins s σ H Q I h;refine wpAny_Call_method_late b8 d_ c5 rfl (thn (ho pins s σ H _ I h) λv s1 b9=>?_);obtain⟨x,H1,I1,r1,ty,q1⟩:=b9;obtain⟨h1,h2⟩:=xa I1 r1 ty;refine#[T,id,pa,slot,Lp,h1,h2,?_];have hA:=ha cpos pins s1 σ H1 _ I1 q1;rw[hs]at hA ⊢;refine Calls.callWith_builtin (by show(false||(Rm cpos (QP es X.env)).any (·.1))=false;rw[l_]<;>rfl) (Calls.evalArgs_plain ?_);exact thn hA λus s2 ⟨vs,H2,I2,r2,q2⟩=>hm pins s2 σ H2 x vs v us Q I2 r1 r2 q2
end
def MtM(X:Cx)(id:String)(r:V->List V->Hp->VK->Prop):Prop:=
 ∀(pins:List (KF×QY)) (s:KM) (σ:St) (H:Hp) (x:V) (xs:List V) (v:KB) (us:List KB) (Q:VK),Inv X pins σ H s->RelV x v->Vals xs us->r x xs H Q->
  QI (QJ X.prog X.w) X.A (call (.builtin id) (v::us)) (EP X pins σ Q) X.xe s
def Vals.one:∀{x:V} {us:List KB},Vals [x] us->∃u,us=[u]/\RelV x u:=by
 intro x us h;cases h with
 |cons r h=>cases h;exact#[_,rfl,r]
def Vals.two:∀{x y:V} {us:List KB},Vals [x,y] us->∃u v,us=[u,v]/\RelV x u/\RelV y v:=by
 intro x y us h;cases h with
 |cons r h=>
  obtain⟨u,rfl,q⟩:=Vals.one h;exact#[_,_,rfl,r,q]
def Vals.zero:∀{us:List KB},Vals [] us->us=[]
 |_,.nil=>rfl
def Vals.dropLast{xs:List V}{us:List KB}(h:Vals xs us):Vals xs.dropLast us.dropLast:=by
 induction h with
 |nil=>exact .nil
 |cons r t ih=>
  cases t with
  |nil=>exact .nil
  |cons q t'=>exact .cons r ih
section
variable {X:Cx}{pins:List (KF×QY)}{σ:St}{H:Hp}{s:KM}{l b:KF}{xs ys zs:List V}
variable{its:List KB}
def Inv.lset{its':List KB}{n:Nat}{f:Array KB->Array KB}{t':Nat}(I:Inv X pins σ H s)(hH:H l=be (.lst xs))
  (e:s.heap.get? l=be {cls:=.type "list",data:=.seq its.toArray n}) (hf:f its.toArray=its'.toArray) (hv:Vals ys its') (hz:ys.length<=sizeLine):
  Inv X pins σ (upd H l (.lst ys)) {s with heap:=s.heap.update l (Obj.mapSeq f),toks:=t'}:=by
 have q:=PySem.IsL.update e f;rw[hf]at q;refine I.write (x:=l) (e:=l) (by rw[hH];exact trivial) (.inl rfl) (λb' u hb hu=>(Heap.get?_update_other s.heap (Obj.mapSeq f) (Ne.symm hb)).trans hu) #[_,q] ?_;exact#[hz,its',_,hv,q]
def Inv.lnew{t':Nat}(I:Inv X pins σ H s)(hv:Vals ys its)(hz:ys.length<=sizeLine):
  Inv X pins σ (upd H s.heap.objs.size (.lst ys)) {s with heap:=s.heap.push {cls:=.type "list",data:=.seq its.toArray},toks:=t'}:=
 I.laid (λ_ _ q=>Heap.get?_push_of_some _ q) (E5 _) #[hz,its,0,hv,Heap.get?_push_size _ rfl]
def Inv.fresh(I:Inv X pins σ H s):H s.heap.objs.size=none:=I.hok.fresh (E5 _)
def Inv.lstM(I:Inv X pins σ H s)(hH:H l=be (.lst xs)):xs.length<=sizeLine/\∃(its:List KB) (n:Nat),Vals xs its/\xs.length=its.length/\s.heap.get? l=be {cls:=.type "list",data:=.seq its.toArray n}:=by
 obtain⟨z,its,n,r,e⟩:=I.hok l _ hH;exact#[z,its,n,r,r.length,e]
def xb{n:Nat}(h:n<=sizeLine):Builtin.List.listTooLong n=false:=by
 unfold Builtin.List.listTooLong;exact decide_eq_false t8
end
section
variable {X:Cx}
def xc:V->List V->Hp->VK->Prop:=λx vs H Q=>∃l xs y,x=.ref l/\vs=[y]/\H l=be (.lst xs)/\xs.length<sizeLine/\Q .non (upd H l (.lst (xs++[y])))
def jp:MtM X "list.append" xc:=by
 intro pins s σ H x vs v us Q I rx rv h;obtain⟨l,xs,y,rfl,rfl,hH,hz,q⟩:=h;cases rx;obtain⟨u,rfl,ru⟩:=rv.one;obtain⟨z,its,n,r,hl,e⟩:=I.lstM hH;refine call_meets F.slot_list_append #[_,e,rfl] F.entry_list_append (F.args_list_append_2 _ _) (PySem.list_append l its.toArray n u (by rw[Fb];lia)) #[e,?_];refine#[.non,_,I.lset (its':=its++[u]) hH e IV (r.append (.cons ru .nil)) ?_,rfl,q];rw[Fn,List.length_singleton];lia
def xf:V->List V->Hp->VK->Prop:=λx vs H Q=>∃l b xs zs,x=.ref l/\vs=[.ref b]/\H l=be (.lst xs)/\H b=be (.lst zs)/\xs.length+zs.length<=sizeLine/\Q .non (upd H l (.lst (xs++zs)))
def EY:MtM X "list.extend" xf:=by
 intro pins s σ H x vs v us Q I rx rv h;obtain⟨l,b,xs,zs,rfl,rfl,hH,hB,hz,q⟩:=h;cases rx;obtain⟨u,rfl,ru⟩:=rv.one;cases ru;obtain⟨z,its,n,r,hl,e⟩:=I.lstM hH;obtain⟨z2,d7,n2,r2,KR,e2⟩:=I.lstM hB;have ge:its.toArray.size+d7.toArray.size<=sizeLine:=by rw[Fb,Fb];lia
 have JZ:¬(!its.toArray.isEmpty&&Builtin.List.listTooLong (its.toArray.size+d7.toArray.size))=true:=by
  rw[xb ge,Hw];exact Fk
 refine call_meets F.slot_list_extend #[_,e,rfl] F.entry_list_extend (F.args_list_extend_2 _ _)
  (AutoSeq1.list_extend_list_list_0 l its.toArray n b d7.toArray n2 JZ (by rw[Fb];lia) t8) #[e,e2,?_]
 refine#[.non,_,I.lset (its':=its++d7) hH e IV (r.append r2) ?_,rfl,q];rw[Fn];lia
def rCat:R2:=λx y H Q=>∃l b xs zs,x=.ref l/\y=.ref b/\H l=be (.lst xs)/\H b=be (.lst zs)/\xs.length+zs.length<=sizeLine/\∀p,H p=m_->Q (.ref p) (upd H p (.lst (xs++zs)))
def xg:OpR X (Q4 .Add) rCat:=by
 intro pins s σ H x y v u Q I rx ry h;obtain⟨l,b,xs,zs,rfl,rfl,hH,hB,hz,q⟩:=h;cases rx;cases ry;obtain⟨z,its,n,r,hl,e⟩:=I.lstM hH;obtain⟨z2,d7,n2,r2,KR,e2⟩:=I.lstM hB;refine PySem.P.add_list e e2 ?_ (by rw[Fb,Fb];lia);have ea:its.toArray++d7.toArray=(its++d7).toArray:=IV
 rw[ea];exact#[.ref _,_,I.lnew (t':=s.toks) (r.append r2) (by rw[Fn];lia),rfl,q _ I.fresh]
end
end L2
namespace Nv
open PySem PySem.W PySem.Calls PyProof.Rows
variable{P:Params}
def xh{h:QN}:∀(ns:List Int) (vs:List KB),WellAll P h vs (ns.map WData.int)->RL vs ns:=by
 intro ns;induction ns with
 |nil=>
  intro vs w;rw[FW]at w;cases w;exact .nil
 |cons n ns ih=>
  intro vs w;rw[Fi]at w;cases w with
  |cons a b=>
   cases a;exact .cons _ _ (ih _ b)
variable{l:OpenLaw}
def xi{n:Nat}(hn:l.most=be n){h:QN}{args:List WData}{IY:List KB}
  (z6:l.row.toRowW.claim.pre args=true) (Lq:WellAll P h IY args):
  ∃a vs ns,IY=[Value.ref a]/\args=[WData.list (ns.map WData.int)]/\h.get? a=be {cls:=.type "list",data:=.seq vs.toArray}/\RL vs ns/\ns.length<=n:=by
 have OJ:WShape.hasAll [] args [.list .int]=true:=(pre_splitW z6).1;have hc:l.pre.holds [] {args:=args}=true:=(pre_splitW z6).2;obtain⟨d,r,rfl,h1,h2⟩:=hasAllW_cons OJ;obtain rfl:=hasAllW_nil h2;obtain⟨xs,rfl,h3⟩:=hasW_list h1;obtain⟨ns,rfl⟩:=items_int h3;have a_:ns.length<=n:=by
  unfold OpenLaw.pre at hc;have h4:(WTm.not (.lt (.lit (.int (n:Int))) (.len (.arg 0)))).holds [] {args:=[.list (ns.map .int)]}=true:=by
   have h4:=(holds_andW hc).1;rw[hn]at h4;exact h4
  have h5:=condW_of h4 (w_not (w_lt w_lit (w_len_list (w_arg rfl))));rw[E9]at h5;refine Gw λq=>?_;have q':(n:Int)<((ns.length:Nat):Int):=t8
  first
   |(rw[decide_eq_true q']at h5;exact absurd h5 y8)
   |(simp at h5;lia)
 cases Lq with
 |cons w1 w2=>
  cases w2;cases w1 with
  |list ho z7=>exact#[_,_,ns,rfl,rfl,ho,xh ns _ z7,a_]
def xj(l:OpenLaw)(args:List WData):l.row.toRowW.claim.post args (.bool true) args=true:=
 postW_of (r:=l.row.toRowW) (X:=(true==true))
  (show WShape.has [] (.bool true) .bool=true by first|rfl|decide|simp[WShape.has,WShape.arms,WShape.armsAll])
  (show(WTm.eq .res (.lit (.bool true))).value [] {args:=args,res:=be (.bool true),after:=args}=be (.bool (true==true))from w_eq_bool (w_res rfl) w_lit) rfl
def attach_call{n:Nat}{q:QH}{i6:List t6}{XP:(t6->Option KB)->QN->Prop}{YP:QL->QN->Prop}{d:DefRec}
  (hn:l.most=be n) (J0:d.params.defaults=[])
  (call:∀(w:QL) (s₀ s₁:KM) (mg mb:t6->Option KB) (fa:KF) (o:QY) (pm cd doc:KB) (a:KF) (vs:List KB) (ns:List Int),
   Ground q i6 [] XP w s₀ mg mb s₁.heap->YP w s₁.heap->
   s₁.heap.get? fa=be o->o.data=.func (docDef d.name d.params d.body d.scope pm cd doc)->s₁.heap.CodeRec cd d.name->mg d.name=be (.ref fa)->
   s₁.heap.get? a=be {cls:=.type "list",data:=.seq vs.toArray}->RL vs ns->ns.length<=n->s₁.gens=[].toArray->
   RD (QJ l.prog w) RI (.call (.ref fa) #[[.ref a],[]]) (λr s'=>r=.ok (.ret (.bool true))/\OldK s₁.heap s'.heap/\s'.os=s₁.os/\Ru s'.gens) s₁):
  WalkO q i6 XP YP l.row.toRowW d [] (λf vs=>PySem.call f vs):=by
 intro w s₀ s₁ mg mb G Y fa o pm cd doc dV kV ho hd g7 hD j_ hg args IY as z6 OK P' Lq P_;obtain rfl:dV=.none:=Dflts.none hD J0;obtain rfl:kV=.none:=Dflts.noKw hD;obtain⟨a,vs,ns,rfl,rfl,IZ,s_,a_⟩:=xi hn z6 Lq;refine enter_call (Ry (call w s₀ s₁ mg mb fa o pm cd doc a vs ns G Y ho (fd_plain hd) g7 j_ IZ s_ a_ hg) λr s' hq=>?_);obtain⟨rfl,h2,h3,h4⟩:=hq;exact#[.inl #[.bool true,.bool true,[],rfl,λ_=>rfl,.bool true,xj l _,λ_=>#[List.Pairwise.nil,λ_ hm=>(nomatch hm)]],h2,h3,h4]
end Nv
namespace L2
open PySem PySem.Spec PyProof.Rows
def qB:∀{vs:List KB} {ns:List Int},RL vs ns->Vals (ns.map V.int) vs
 |_,_,.nil=>.nil
 |_,_,.cons n t h=>.cons #[t,rfl] (qB h)
def Only(H:Hp):Prop:=∀b,H b=m_\/∃o xs,H b=be (.frz o (.lst xs))
variable{P:QH}{w:QL}{a:KF}
def xk{K:Ex}{mg mb:t6->Option KB}{CX:CXT}{k:Nat}{fa:KF}{fd:QR}{x:t6}{sp:Sp}{s₁:KM}{vs:List KB}{ns:List Int}
  (KX:K.In s₁.heap) (hns:s₁.heap.Ns Pi mg) (hb:s₁.heap.Ns Sj mb) (OL:∀x:t6,x≠"__name__"->mb x=QZ x) (Lr:s₁.heap.NoLimit) (hg:s₁.gens=[].toArray)
  (ha:s₁.heap.get? a=be {cls:=.type "list",data:=.seq vs.toArray}) (hi:RL vs ns) (hl:ns.length<=sizeLine) (hr:Room k RI)
  (F:∀base:QN,K.In base->base.Ns Pi mg->FnOk P w K mg base CX k fa fd [x] sp) (J1:∀(s:KM) (u:KB),RN s fd #[[u],[]] [(x,u)])
  (w9:∀H:Hp,Only H->SqL K H a (ns.map V.int)->sp [.ref a] H (λv _=>v=.bl true) λ_ _ _=>False)
  (Ls:∀H e s',CX [] H s₁ (λ_ _ _=>False) e s'->False):
  RD (QJ P w) RI (.call (.ref fa) #[[.ref a],[]]) (λr s'=>r=.ok (.ret (.bool true))/\OldK s₁.heap s'.heap/\s'.os=s₁.os/\Ru s'.gens) s₁:=by
 have rv:=qB hi;have Lu:=hi.length;have J3:∀H:Hp,Only H->SqL K H a (ns.map V.int)->HOk P w H s₁.heap->(∀b,H b≠m_->b=a)->(H a≠m_->K.lookup a=m_)->
   RD (QJ P w) RI (.call (.ref fa) #[[.ref a],[]]) (λr s'=>r=.ok (.ret (.bool true))/\OldK s₁.heap s'.heap/\s'.os=s₁.os/\Ru s'.gens) s₁:=by
  intro H hO hS hok hA hK;have n4:∀{b:KF} {o:QY},s₁.heap.get? b=be o->H b=m_->(hidT s₁.heap H).get? b=be o:=λe n=>vd e n;have JW:∀{b:KF} {o:QY} {es:Array DictEntry} {ep:Nat},s₁.heap.get? b=be o->o.data=.dict es ep->H b=none:=λ{b o es ep} e d=>by
   cases q:H b with
   |none=>rfl
   |some u=>
    have e':b=a:=hA b (by rw[q];simp);subst e';rw[ha]at e;cases e;have d':Data.seq vs.toArray _=Data.dict es ep:=d;cases d'
  have KU:∀{b:KF} {m:t6->Option KB},s₁.heap.Ns b m->(hidT s₁.heap H).Ns b m:=λ{b m} ⟨o,es,ep,e,d,r⟩=>#[o,es,ep,n4 e (JW e d),d,r];have Ny:K.In (hidT s₁.heap H):=λb o e=>n4 (KX b o e) (by
   cases q:H b with
   |none=>rfl
   |some u=>
    have e':b=a:=hA b (by rw[q];simp);subst e';rw[hK (by rw[q];simp)]at e;cases e)
  have hM:Mod K mg (hidT s₁.heap H):=#[Ny,KU hns,#[mb,KU hb,OL],let ⟨mc,h1,h2⟩:=Lr;#[mc,KU h1,h2]];have e0:Env0 P w K mg (hidT s₁.heap H) RI [] s₁ H:=#[rfl,hM,λb o e=>ve e,GE (vc _ _),trivial,λb hb=>absurd (show b∈([]:List KF)from hb) IV,hok,.of_eq hg];refine Ry ((F _ Ny (KU hns)).run RI [] s₁ H #[[.ref a],[]] [.ref a] [.ref a] _ _ hr e0 (J1 s₁ (.ref a)) (.cons rfl .nil) (w9 H hO hS)) λr s' h=>?_;cases r with
  |error e=>exact(Ls H e s' h).elim
  |ok fl=>
   cases fl with
   |next=>exact False.elim h
   |brk=>exact False.elim h
   |cont=>exact False.elim h
   |ret u=>
    obtain⟨v,H',os,bare,un,Lv,r',q⟩:=h;have q':v=.bl true:=q;subst q';obtain rfl:u=Value.bool true:=r';refine#[rfl,OldK.of_keep λb o e=>?_,os,bare];cases q:H b with
    |none=>exact un.keep b o e q (by intro z;exact absurd (show b∈([]:List KF)from z) IV) IV
    |some u=>
     rcases hO b with z|⟨ob,xs,z⟩
     .rw[q]at z;cases z
     .have z2:=un.frzs b ob _ z;obtain⟨e1,_⟩:=hok b _ z;obtain⟨e2,_⟩:=Lv b _ z2;rw[e]at e1;cases e1;exact e2
 cases hk:K.lookup a with
 |some o=>
  have e:=KX a o hk;rw[ha]at e;cases e;refine J3 (λ_=>m_) (λ_=>.inl rfl) (.inr #[_,vs.toArray,_,hk,rfl,rfl,rfl,by rw[Fb,Lu];exact hl,by simpa using rv]) (λb u z=>by have z':(m_:Option HO)=be u:=z;cases z') (λb z=>absurd rfl z) λz=>absurd rfl z
 |none=>
  refine J3 (λb=>if b=a then be (.frz {cls:=.type "list",data:=.seq vs.toArray} (.lst (ns.map V.int)))else m_) (λb=>?_) (.inl (.inr #[{cls:=.type "list",data:=.seq vs.toArray},if_pos rfl])) (λb u z=>?_) (λb z=>?_) λ_=>hk
  .by_cases hb:b=a
   .exact .inr #[_,_,if_pos hb]
   .exact .inl (if_neg hb)
  .by_cases hb:b=a
   .have z':=(if_pos hb).symm.trans z;cases z';subst hb;exact#[ha,by rw[E9];exact hl,vs,_,rv,ha]
   .have z':=(if_neg hb).symm.trans z;cases z'
  .by_cases hb:b=a
   .exact hb
   .exact absurd (if_neg hb) z
def walk_of{l:G5}{n k:Nat}{q:QH}{i6:List t6}{XP:(t6->Option KB)->QN->Prop}{YP:QL->QN->Prop}{d:DefRec}{K:Params->Ex}{CX:QL->CXT}{sp:QL->Sp}{x:t6}
  (hn:l.most=be n) (IW:n<=sizeLine) (J0:d.params.defaults=[]) (hr:Room k RI)
  (hY:∀(w:QL) (h:QN),YP w h->(K w.params).In h)
  (F:∀(w:QL) (mg:t6->Option KB) (fa:KF) (h:QN),(K w.params).In h->h.Ns Pi mg->mg d.name=be (.ref fa)->
   ∃fd:QR,(∀(s:KM) (u:KB),RN s fd #[[u],[]] [(x,u)])/\
    ∀base:QN,(K w.params).In base->base.Ns Pi mg->FnOk l.prog w (K w.params) mg base (CX w) k fa fd [x] (sp w))
  (w9:∀(w:QL) (H:Hp) (a:KF) (ns:List Int),ns.length<=n->Only H->SqL (K w.params) H a (ns.map V.int)->sp w [.ref a] H (λv _=>v=.bl true) λ_ _ _=>False)
  (Ls:∀(w:QL) (H:Hp) (s:KM) (e:KB) (s':KM),CX w [] H s (λ_ _ _=>False) e s'->False):
  Hx q i6 XP YP l.row.toRowW d [] (λf vs=>PySem.call f vs):=by
 refine Nv.attach_call hn J0 λw s₀ s₁ mg mb fa o pm cd doc a vs ns G Y ho hd g7 j_ IZ s_ a_ hg=>?_;have KX:=hY w _ Y;obtain⟨fd,hb,hF⟩:=F w mg fa _ KX G.T.g j_;exact xk KX G.T.g G.T.b G.T.builtins G.T.nolimit hg IZ s_ (Fh a_ IW) hr hF hb (λH hO hS=>w9 w H a ns a_ hO hS) λH e s'=>Ls w H s₁ e s'
def bi(s:P3)(j:Nat):P3:=match s with
 |.ClassDef _ _ _ body _ _ _ _ _ _ _=>body.getD j (.Pass #[0,0,0,0])
 |_=>.Pass #[0,0,0,0]
def bJ(s:P3):Arguments:=match s with
 |.FunctionDef _ a _ _ _ _ _ _ _ _=>a
 |_=>{posonlyargs:=[],args:=[],vararg:=m_,kwonlyargs:=[],kw_defaults:=[],kwarg:=m_,defaults:=[]}
def aK(s:P3):List P3:=match s with
 |.FunctionDef _ _ b _ _ _ _ _ _ _=>b
 |_=>[]
def ah(s:P3):Q9:=match s with
 |.FunctionDef _ _ _ _ _ _ sc _ _ _=>sc
 |_=>{kind:=.function,names:=[],isGenerator:=false,isCoroutine:=false}
abbrev CX0:CXT:=λ_ _ _ _ _ _=>False
abbrev E0:XK:=λ_ _ _=>False
structure FunG(K:Ex)(dV:KB)(x qual:Str)(st:P3)(f:KF)(fd:QR):Prop where
 ex:∃(oc:KB) (od:Option KF) (kV doc pm:KB) (an:Option KF) (cdv ct:KB) (osl:Array (Option KB)),
  fd=fnOf x qual (bJ st) (aK st) (ah st) dV kV doc pm an cdv ct/\K.lookup f=be #[oc,od,.func fd,osl]/\codeIn K cdv qual=true
 kp:keepIn K (.ref f)=true
abbrev Fun(K:Ex):t6->t6->P3->KF->QR->Prop:=FunG K .none
section
variable {P:QH}{w:QL}{K:Ex}{mg:t6->Option KB}{base:QN}
variable{x qual:t6}{st:P3}{f:KF}{ps:List t6}
def Fun.ok{fd:QR}{N:List t6}{k:Nat}{sp:Sp}(F:Fun K x qual st f fd)(S:FnScope N ps (ah st))(len:∀vs H Q E,sp vs H Q E->vs.length=ps.length)
  (a9:∀(cdv:KB) (A:QM) (outer:List Rt) (s:KM) (H:Hp) (vs:List V) (Q:VK) (E:XK),Room k (A.deeper (QX qual (ah st) s.heap.objs.size f cdv))->sp vs H Q E->
   ∃t,PSs (cxOf CX0 P w K mg base N qual (ah st) f cdv A outer s H E).nox (aK st) t/\t {nx:=λ_ H'=>Q .non H',rt:=Q} (start N vs) H):FnOk P w K mg base CX0 (k+1) f fd ps sp:=by
 obtain⟨oc,od,kV,doc,pm,an,cdv,ct,osl,rfl,lk,g7⟩:=F.ex;refine ql lk g7 S len λA outer s H vs Q E hr w9=>?_;obtain⟨t,h,q⟩:=a9 cdv A outer s H vs Q E hr w9;exact#[t,h.nox,q]
def Fun.binds{fd:QR}(F:Fun K x qual st f fd)
  (h:∀(kV doc pm:KB) (an:Option KF) (cdv ct:KB) (us:List KB),us.length=ps.length->Rl (fnOf x qual (bJ st) (aK st) (ah st) .none kV doc pm an cdv ct) #[us,[]]=pure (ps.zip us)):Binds K fd ps []:=by
 obtain⟨oc,od,kV,doc,pm,an,cdv,ct,osl,rfl,lk,g7⟩:=F.ex;exact .all (h kV doc pm an cdv ct)
def fT{oc:KB}{od an:Option KF}{osl:Array (Option KB)}{kV doc pm cdv ct:KB}(l:K.lookup f=be #[oc,od,.func (fnOf x qual (bJ st) (aK st) (ah st) .none kV doc pm an cdv ct),osl])
  (c:codeIn K cdv qual=true) (k:keepIn K (.ref f)=true):Fun K x qual st f (fnOf x qual (bJ st) (aK st) (ah st) .none kV doc pm an cdv ct):=#[#[oc,od,kV,doc,pm,an,cdv,ct,osl,rfl,l,c],k]
end
def dJ{A:QM}{k:Nat}(hr:Room k A):A.units+1<RJ:=Hy (Nat.add_le_add_left (y8:1<=64) _) hr.units
def xm{n:Nat}(h:n<=1000):n<sizeLine:=Hy h y8
def ite2{c A B:Prop}[Decidable c](h1:c->A)(h2:¬c->B):if c then A else B:=by
 by_cases h:c
 .rw[if_pos h];exact h1 h
 .rw[if_neg h];exact h2 h
def Same(H H':Hp):Prop:=∀b o,H b=be o->H' b=be o
def Same.refl(H:Hp):Same H H:=λ_ _ h=>h
variable{H:Hp}
def Same.trans{H1 H2:Hp}(a:Same H H1)(b:Same H1 H2):Same H H2:=λc o h=>b c o (a c o h)
variable{H':Hp}
def Same.free(e:Same H H'){l:KF}(h:H' l=Option.none):H l=Option.none:=by
 cases q:H l with
 |none=>rfl
 |some o=>
  rw[e l o q]at h;cases h
def Same.seq{K:Ex}{xs:List V}(e:Same H H')(h:SqL K H a xs):SqL K H' a xs:=by
 rcases h with(h|⟨o,h⟩)|h
 .exact .inl (.inl (e _ _ h))
 .exact .inl (.inr #[o,e _ _ h])
 .exact .inr h
section
variable {κ:Type}[DecidableEq κ]
def valV(a8:List (κ×V))(k:κ):Option V:=(a8.find? λkv=>decide (kv.1=k)).map (·.2)
def putK(a8:List (κ×V))(k:κ)(v:V):List (κ×V):=
 if(a8.any λkv=>decide (kv.1=k))=true then a8.map (λkv=>if kv.1=k then(kv.1,v)else kv)else a8++[(k,v)]
def jq{p:κ×V}{r:List (κ×V)}{k:κ}(e:p.1=k):valV (p::r) k=be p.2:=by simp[valV,Gj,e]
def jr{p:κ×V}{r:List (κ×V)}{k:κ}(e:¬p.1=k):valV (p::r) k=valV r k:=by simp[valV,Gj,e]
def RelO.getD{o:Option V}{u:Option KB}{d:V}{d':KB}(r:RelO o u)(rd:RelV d d'):RelV (o.getD d) (u.getD d'):=by
 cases o with
 |none=>cases u with
  |none=>exact rd
  |some _=>exact(show False from r).elim
 |some _=>cases u with
  |none=>exact(show False from r).elim
  |some _=>exact r
def KV.val{a8:List (κ×V)}{vs:List (κ×KB)}(r:KV a8 vs)(k:κ):RelO (valV a8 k) (RS vs k):=by
 unfold KV at r;induction r with
 |nil=>exact True.intro
 |@cons p q ps qs h t ih=>
  obtain⟨h1,h2⟩:=h;by_cases e:p.1=k
  .have e':q.1=k:=h1.symm.trans e;have b:RS (q::qs) k=be q.2:=by simp[RS,Gj,e']
   rw[jq e,b];exact h2
  .have e':¬q.1=k:=λz=>e (h1.trans z);have b:RS (q::qs) k=RS qs k:=by simp[RS,Gj,e']
   rw[jr e,b];exact ih
def KV.any{a8:List (κ×V)}{vs:List (κ×KB)}(r:KV a8 vs)(k:κ):(a8.any λkv=>decide (kv.1=k))=vs.any λkv=>decide (kv.1=k):=by
 unfold KV at r;induction r with
 |nil=>rfl
 |cons h t ih=>rw[Gi,Gi,ih,h.1]
def KV.keys{a8:List (κ×V)}{vs:List (κ×KB)}(r:KV a8 vs):a8.map (·.1)=vs.map (·.1):=by
 unfold KV at r;induction r with
 |nil=>rfl
 |cons h t ih=>rw[Fi,Fi,ih,h.1]
def KV.length{a8:List (κ×V)}{vs:List (κ×KB)}(r:KV a8 vs):a8.length=vs.length:=Paired.length r
end
def qC{k:Key}{u:KB}(r:RelV (kV k) u):(bH P w).is k u=true:=by
 cases k with
 |inl i=>obtain⟨t,e⟩:=(show ∃t,u=Value.int i t from r);subst e;exact mixKind_int P w i t
 |inr x=>obtain⟨t,e⟩:=(show ∃t,u=Value.str x t from r);subst e;exact va P w x t
def qD{P:QH}{w:QL}:∀{ks:List Key} {us:List KB},Vals (ks.map kV) us->ItemsAre (bH P w) ks us
 |[],_,r=>by rw[FW]at r;cases r;exact .nil
 |k::ks,_,r=>by
  rw[Fi]at r;cases r with
  |cons h t=>exact .cons (qC h) (qD t)
abbrev KT(H:Hp):List (List Key×V)->List (List Key×KF×KB)->Prop:=Paired λp q=>p.1=q.1/\H q.2.1=be (.tup (p.1.map kV))/\RelV p.2 q.2.2
variable{xs:List (List Key×KF×KB)}{a8:List (List Key×V)}
def KT.val(r:KT H a8 xs)(k:List Key):RelO (valV a8 k) ((RR xs k).map (·.2)):=by
 induction r with
 |nil=>exact True.intro
 |@cons p q ps qs h t ih=>
  obtain⟨h1,_,h2⟩:=h;by_cases e:p.1=k
  .have e':q.1=k:=h1.symm.trans e;have b:RR (q::qs) k=be q.2:=by simp[RR,Gj,e']
   rw[jq e,b];exact h2
  .have e':¬q.1=k:=λz=>e (h1.trans z);have b:RR (q::qs) k=RR qs k:=by simp[RR,Gj,e']
   rw[jr e,b];exact ih
def KT.keeps(r:KT H a8 xs)(ht:∀b ys,H b=be (.tup ys)->H' b=be (.tup ys)):KT H' a8 xs:=
 Paired.mapP r λ_ _ z=>#[z.1,ht _ _ z.2.1,z.2.2]
section
variable {P:QH}{w:QL}{H:Hp}{h:QN}{a:KF}
def qE{u:HO}(ok:HOk P w H h)(e:Rd H a u):ObjOk P w H h a u:=e.ok ok
def xn{a8:List (Key×V)}(ok:HOk P w H h)(e:Rd H a (.dK a8)):a8.length<=sizeLine/\(a==Q7)=false/\∃vs,KV a8 vs/\h.DictOf (bH P w) a vs:=
 show ObjOk P w H h a (.dK a8)from qE ok e
def key_of{ks:List Key}(ok:HOk P w H h)(e:H a=be (.tup (ks.map kV))):(Rv (bH P w)).is h ks a:=by
 obtain⟨_,its,r,o,h1,h2,n,h3⟩:=(show ObjOk P w H h a (.tup (ks.map kV))from ok a _ e);exact#[o,its.toArray,n,h1,h2,h3,by simpa using qD r]
variable{a8:List (List Key×V)}
def qF(ok:HOk P w H h)(e:Rd H a (.dT a8)):a8.length<=sizeLine/\(a==Q7)=false/\
  ∃xs,KT H a8 xs/\h.DictOfH (Rv (bH P w)) a xs:=by
 obtain⟨z,y,xs,r,o,es,ep,h1,h2,h3,h4,h5⟩:=(show ObjOk P w H h a (.dT a8)from qE ok e);refine#[z,y,xs,r,o,es,ep,h1,h2,h3,h4,λx hx=>?_,h5];have all:∀{l:List (List Key×V)} {m:List (List Key×KF×KB)},KT H l m->∀x∈m,(Rv (bH P w)).is h x.1 x.2.1:=by
  intro l m q;induction q with
  |nil=>intro x hx;exact nomatch hx
  |@cons p q ps qs hq t ih=>
   intro x hx;rcases E8.mp hx with e|hx
   .subst e;exact key_of ok (by rw[<-hq.1];exact hq.2.1)
   .exact ih x hx
 exact all r x hx
def xo(ok:HOk P w H h)(e:H a=be (.dT a8)):a8.length<=sizeLine/\(a==Q7)=false/\
  ∃xs,KT H a8 xs/\h.DictOfH (Rv (bH P w)) a xs:=qF ok (.inl e)
end
def DGet(H:Hp)(a:KF)(y:V)(r:Option V):Prop:=
 (∃a8 k,Rd H a (.dK a8)/\y=kV k/\r=valV a8 k)\/∃a8 k b,Rd H a (.dT a8)/\y=.ref b/\H b=be (.tup (k.map kV))/\r=valV a8 k
def DPut(H:Hp)(a:KF)(y v:V)(H':Hp):Prop:=
 (∃a8 k,H a=be (.dK a8)/\y=kV k/\a8.length<sizeLine/\H'=upd H a (.dK (putK a8 k v)))\/
 ∃a8 k b,H a=be (.dT a8)/\y=.ref b/\H b=be (.tup (k.map kV))/\a8.length<sizeLine/\H'=upd H a (.dT (putK a8 k v))
def DGet.k{a8:List (Key×V)}{k:Key}(e:H a=be (.dK a8)):DGet H a (kV k) (valV a8 k):=.inl #[a8,k,.inl e,rfl,rfl]
def DGet.t{b:KF}{k:List Key}(e:H a=be (.dT a8))(eb:H b=be (.tup (k.map kV))):DGet H a (.ref b) (valV a8 k):=.inr #[a8,k,b,.inl e,rfl,eb,rfl]
def DPut.k{a8:List (Key×V)}{k:Key}{v:V}(e:H a=be (.dK a8))(hl:a8.length<sizeLine):DPut H a (kV k) v (upd H a (.dK (putK a8 k v))):=.inl #[a8,k,e,rfl,hl,rfl]
def DPut.t{b:KF}{k:List Key}{v:V}(e:H a=be (.dT a8))(eb:H b=be (.tup (k.map kV)))(hl:a8.length<sizeLine):
  DPut H a (.ref b) v (upd H a (.dT (putK a8 k v))):=.inr #[a8,k,b,e,rfl,eb,hl,rfl]
section
variable {X:Cx}{pins:List (KF×QY)}{σ:St}{H:Hp}{s:KM}{a:KF}{y v:V}{u r:KB}{o:Option V}{A:QM}{E:KB->KM->Prop}
def Inv.big(I:Inv X pins σ H s):Q7<s.heap.objs.size:=by
 have h:Pi<s.heap.objs.size:=(I.mod.glob.keeps I.bk).lt;exact Hz y8 h
def xp{h':QN}{t':Nat}{ob:HO}(I:Inv X pins σ H s)(mu:Mut (H a))(hs:Heap.SameBut a s.heap h')(he:∃q,h'.get? a=be q)(new:ObjOk X.prog X.w (upd H a ob) h' a ob):
  Inv X pins σ (upd H a ob) {s with heap:=h',toks:=t'}:=
 I.write (x:=a) (e:=a) mu (.inl rfl) (λb q hb z=>(hs.2 b hb).trans z) he new
end
def xq(h:QN)(hb:Q7<h.objs.size):ObjOk P w H (h.push {cls:=.type "dict",data:=.dict [].toArray}) h.objs.size (.dT []):=
 #[FB _,beq_eq_false_iff_ne.mpr (Ne.symm (Ff hb)),[],.nil,_,[].toArray,0,Heap.get?_push_size _ rfl,#[rfl,rfl,rfl],rfl,rfl,HA]
def xr:TE:=λ_ H Q=>∀p,H p=m_->Q (.ref p) (upd H p (.dT []))
section
variable {X:Cx}{pos:QT}
def pe_dnewT:PE X (.Dict [] [] pos) xr:=λpins s σ H Q I h=>
 wpAny_Dict_empty #[.ref s.heap.objs.size,_,I.laid (a:=s.heap.objs.size) (o:=.dT []) (t':=s.toks) (λ_ _ q=>Heap.get?_push_of_some _ q) (E5 _) (xq s.heap I.big),rfl,h _ (I.hok.fresh (E5 _))]
end
structure M1(X:Cx)(o:QG)(m:Str)(apos:QT)(e:QG)(cpos:QT):Prop where
 base:QQ o m X.env (QS o X.env)=QS o X.env
 few:((Rm cpos (QP [e] X.env)).all (λx=>!x.1)&&(RK cpos (Rq [] X.env)).all (λx=>x.1.isSome)
  && decide (([e]:List QG).length+([]:List RE).length+(if([]:List RE).isEmpty then 0 else 1)<30))=true
 line:(apos.endLine==cpos.line)=true
 trees:Rm cpos (QP [e] X.env)=[(false,QS e X.env)]
structure M2(X:Cx)(o:QG)(m:Str)(apos:QT)(e f:QG)(cpos:QT):Prop where
 base:QQ o m X.env (QS o X.env)=QS o X.env
 few:((Rm cpos (QP [e,f] X.env)).all (λx=>!x.1)&&(RK cpos (Rq [] X.env)).all (λx=>x.1.isSome)
  && decide (([e,f]:List QG).length+([]:List RE).length+(if([]:List RE).isEmpty then 0 else 1)<30))=true
 line:(apos.endLine==cpos.line)=true
 trees:Rm cpos (QP [e,f] X.env)=[(false,QS e X.env),(false,QS f X.env)]
section
variable {X:Cx}{pins:List (KF×QY)}{σ:St}{H:Hp}{s:KM}{a:KF}{y d:V}{u r:KB}{o:Option V}{A:QM}{E:KB->KM->Prop}
def xt{Q:KB->KM->Prop}(hu:A.units+1<RJ)(I:Inv X pins σ H s)(g:DGet H a y o)(ry:RelV y u)(rd:RelV d r)(h:∀w' s',Inv X pins σ H s'->RelV (o.getD d) w'->Q w' s'):
  QI (QJ X.prog X.w) A (call (.builtin "dict.get") [.ref a,u,r]) Q E s:=by
 rcases g with⟨a8,k,e,ey,l⟩|⟨a8,k,b,e,ey,eb,l⟩
 .subst ey;obtain⟨z,hd,vs,rel,dd⟩:=xn I.hok e;refine R9 PySem.F.slot_dict_get dd.typeIs PySem.F.entry_dict_get (PySem.F.args_dict_get_3 _ _ _) (meets_dict_get_default (bH X.prog X.w) a (qC ry) hd r) #[_,dd.mapOf,h _ _ (I.tok _) ?_];rw[l];exact(rel.val k).getD rd
 .subst ey;cases(show u=Value.ref b from ry);obtain⟨z,hd,xs,rel,dd⟩:=qF I.hok e;refine R9 PySem.F.slot_dict_get dd.typeIs PySem.F.entry_dict_get (PySem.F.args_dict_get_3 _ _ _) (meetsH_dict_get_default (Rv (bH X.prog X.w)) a b hd r) #[Si hu,k,xs,key_of I.hok eb,dd,h _ _ (I.tok _) ?_];rw[l];exact(rel.val k).getD rd
end
end L2
end
section
open PySem PySem.Spec PyProof.Rows L2
namespace Exc
open PySem PySem.Spec PyProof.Rows PySem.W L2
def aU:List KB->Bool
 |.ref _::r=>aU r
 |l=>l==[.type "ValueError",.type "Exception",.type "BaseException",.type "object"]
def xu(self:KB):∀{l:List KB},aU l=true->refuseLoop self "__setattr__" l=pure ()
 |.ref c::r,e=>by rw[refuseLoop_ref];exact xu self (by unfold aU at e;exact e)
 |[],e=>by simp[aU]at e
 |.type n::r,e=>by
  have e':(Value.type n::r)=[.type "ValueError",.type "Exception",.type "BaseException",.type "object"]:=by simpa[aU]using e
  rw[e'];exact PySem.F.store_ValueError.passes self
 |.none::r,e=>by simp[aU]at e
 |.bool _::r,e=>by simp[aU]at e
 |.int _ _::r,e=>by simp[aU]at e
 |.float _ _::r,e=>by simp[aU]at e
 |.str _ _::r,e=>by simp[aU]at e
 |.bytes _ _::r,e=>by simp[aU]at e
 |.builtin _::r,e=>by simp[aU]at e
def qG{T:String}(hT:[Value.type "ValueError",.type "Exception",.type "BaseException",.type "object"].contains (.type T)=true):∀{l:List KB},aU l=true->l.contains (.type T)=true
 |.ref c::r,e=>by rw[G6,qG hT (l:=r) (by unfold aU at e;exact e),GH]
 |[],e=>by simp[aU]at e
 |.type n::r,e=>by
  have e':(Value.type n::r)=[.type "ValueError",.type "Exception",.type "BaseException",.type "object"]:=by simpa[aU]using e
  rw[e'];exact hT
 |.none::r,e=>by simp[aU]at e
 |.bool _::r,e=>by simp[aU]at e
 |.int _ _::r,e=>by simp[aU]at e
 |.float _ _::r,e=>by simp[aU]at e
 |.str _ _::r,e=>by simp[aU]at e
 |.bytes _ _::r,e=>by simp[aU]at e
 |.builtin _::r,e=>by simp[aU]at e
abbrev veLine:List KB:=[.type "ValueError",.type "Exception",.type "BaseException",.type "object"]
section
variable {prog:QH}{w:QL}{A:QM}{E:KB->KM->Prop}{s:KM}{env:Rt}
variable {nm q:t6}{C N:KF}{bs bm:List KB}{hdct:Bool}{sn:List t6}{sub:List KB}{ab:Bool}{col:Option Bool}{dd:Option KF}{k0 k1 k2 k3 k5:Option KB}{newId:String}
variable{Q:Flow->KM->Prop}
def xx{x:Sb KB}(b8:bm.contains (.type "BaseException")=true)(hh:A.handled=m_)
  (h:QI (QJ prog w) A x (λv s₁=>∃e t od sl,v=.ref e/\s₁.heap.get? C=be (Q8 nm q C N bs bm hdct sn sub ab col dd k0 k1 k2 k3 k5 newId)/\
   s₁.heap.get? e=be #[.ref C,od,.fields [.ref t,.none,.none,.none,.bool false,.none].toArray,sl]/\E (.ref e) s₁) E s):
  QI (QJ prog w) A (raiseStmt env (be x) m_) Q E s:=by
 have Lw:(Value.ref C::bm).contains (.type "BaseException")=true:=by rw[G6,b8,GH]
 unfold raiseStmt;refine Os (QV h (λv s₁ h₁=>?_) λ_ _ x=>x);obtain⟨e,t,od,sl,rfl,hC,he,hE⟩:=h₁;obtain⟨hp,g,d,tk,os⟩:=s₁
 repeat(first|(with_reducible refine Rp he ?_)|(with_reducible refine Rp hC ?_)|(with_reducible refine RF hC ?_;rw[Lw])|wp_step)
 exact wpAny_raiseNew_none hh hE
def xy{x:QG}{pos:QT}(b8:bm.contains (.type "BaseException")=true)(hh:A.handled=m_)
  (h:QI (QJ prog w) A (QS x env) (λv s₁=>∃e t od sl,v=.ref e/\s₁.heap.get? C=be (Q8 nm q C N bs bm hdct sn sub ab col dd k0 k1 k2 k3 k5 newId)/\
   s₁.heap.get? e=be #[.ref C,od,.fields [.ref t,.none,.none,.none,.bool false,.none].toArray,sl]/\E (.ref e) s₁) E s):
  QI (QJ prog w) A (exec (.Raise (be x) m_ pos) env) Q E s:=by
 rw[arm_exec_Raise];show QI (QJ prog w) A (do RC pos;raiseStmt env (be (do let v <-QS x env;RC pos;pure v)) m_) Q E s;exact Os (Q_ (xx b8 hh (Os (QV h (λv s₁ h₁=>Os (Q_ (QK h₁))) λ_ _ x=>x))))
end
def ExAt(h:QN)(e C:KF)(od:Option KF)(T:KF)(fl:KB):Prop:=
 ∃sl vs oT ts,h.get? e=be #[.ref C,od,.fields vs,sl]/\vs[1]?=be (.ref T)/\T≠e/\h.get? T=be oT/\oT.data=.fields ts/\ts[3]?=be fl
structure Stay(fs ex:List KF)(h h':QN):Prop where
 keep:∀b o,h.get? b=be o->b∉ex->b∉fs->h'.get? b=be o
 slot:∀b o,h.get? b=be o->b∉ex->∃sl,h'.get? b=be {o with slots:=sl}
 there:∀b o,h.get? b=be o->∃o',h'.get? b=be o'
section
variable {M:So}{A:QM}{E:KB->KM->Prop}{s:KM}{env:Rt}{outer:List Rt}{base:QN}{L e C T:KF}{od:Option KF}
variable{Q:Unit->KM->Prop}
def qH{sl:Array (Option KB)}{vs:Array KB}(hfr:A.frames=be (env::outer))(hl:s.heap.FunFrames base (env::outer))(hf:env.frame=be L)
  (he:s.heap.get? e=be #[.ref C,od,.fields vs,sl]) (h1:vs[1]?=be .none)
  (h:∀h' T,ExAt h' e C od T (Rx L)->s.heap.objs.size<=T->Stay (frs (env::outer)) [e] s.heap h'->Q () {s with heap:=h'}):QI M A (Rw (.ref e) env) Q E s:=by
 have ge:1<vs.size:=(GI.mp h1).1;have I_:e∉(env::outer).filterMap (·.frame):=λhm=>by
  obtain⟨_,o,ho,hnf⟩:=hl.mem hm;rw[he]at ho;injection ho with ho;subst ho;exact hnf vs rfl
 unfold Rw;simp only[hf];refine Os (Rg he rfl h1 ?_);rw[if_neg y8];refine Os (Sk hfr hl hf λh₁ hs₁=>Os (Se λpl c9=>?_));unfold EntryCells.newEntry newFields;refine Os (QU ?_ (c9.sizeOk5 _ _ _ _ _));have he₁:h₁.get? e=be #[.ref C,od,.fields vs,sl]:=(hs₁.2.1 e I_).trans he;have fresh:h₁.get? h₁.objs.size=none:=Heap.get?_none_of_le (E5 _);generalize J5:({cls:=.type "traceback",dict:=m_,data:=.fields ([Value.none,.ref L,.none,Rx L,.none]++(if pl.isEmpty then FU 6 Value.none else pl)).toArray}:QY)=oT;have he₂:=Heap.get?_push_of_some (h:=h₁) oT he₁;have td:h₁.objs.size≠e:=F5 (Heap.lt_size he₁);refine RB he₂ rfl ge (h _ h₁.objs.size ?_ ?_ ?_)
 .refine#[sl,vs.setIfInBounds 1 (.ref h₁.objs.size),oT,([Value.none,.ref L,.none,Rx L,.none]++(if pl.isEmpty then FU 6 Value.none else pl)).toArray,?_,by simp[ge],td,?_,by rw[<-J5],IV]
  .rw[Heap.get?_update_self _ he₂ rfl];rfl
  .rw[Heap.get?_update_other _ _ (Ne.symm td)];exact Heap.get?_push_size h₁ (by rw[<-J5];rfl)
 .exact GE hs₁.1.symm
 .have kp:∀b o,b≠e->h₁.get? b=be o->((h₁.push oT).update e (Obj.mapFields (·.setIfInBounds 1 (Value.ref h₁.objs.size)))).get? b=be o:=λb o hb z=>by
   rw[Heap.get?_update_other _ _ (Ne.symm hb)];exact Heap.get?_push_of_some _ z
  refine#[λb o q n m=>kp b o (λz=>n (by simp[z])) ((hs₁.2.1 b m).trans q),λb o q n=>?_,λb o q=>?_]
  .obtain⟨s9,z⟩:=hs₁.2.2 b o q;exact#[s9,kp b _ (λz=>n (by simp[z])) z]
  .by_cases hb:b=e
   .subst hb;exact#[_,Heap.get?_update_self _ he₂ rfl]
   .obtain⟨s9,z⟩:=hs₁.2.2 b o q;exact#[_,kp b _ hb z]
def qI(hfr:A.frames=be (env::outer))(hl:s.heap.FunFrames base (env::outer))(hf:env.frame=be L)(hx:ExAt s.heap e C od T .none)
  (h:∀h' T',ExAt h' e C od T' (Rx L)->s.heap.objs.size<=T'->Stay (frs (env::outer)) [T,e] s.heap h'->Q () {s with heap:=h'}):QI M A (Rw (.ref e) env) Q E s:=by
 obtain⟨sl,vs,oT,ts,he,h1,td,hT,j5,h3⟩:=hx;have ge:1<vs.size:=(GI.mp h1).1;have KW:3<ts.size:=(GI.mp h3).1;have I_:e∉(env::outer).filterMap (·.frame):=λhm=>by
  obtain⟨_,o,ho,hnf⟩:=hl.mem hm;rw[he]at ho;injection ho with ho;subst ho;exact hnf vs rfl
 unfold Rw;simp only[hf];refine Os (Rg he rfl h1 ?_);rw[if_pos (show(Value.ref T !=Value.none)=true from IV)];refine Os (Rg hT j5 h3 ?_);rw[if_neg (show¬((Value.none==Rx L)=true)from by simp[Rx])];refine Os (RB hT j5 KW ?_);have other:∀b,b≠T->(s.heap.update T (Obj.mapFields (·.setIfInBounds 3 Value.none))).get? b=s.heap.get? b:=λb hb=>Heap.get?_update_other _ _ (Ne.symm hb);have nT:∀b o,s.heap.get? b=be o->(∀vs,o.data≠.fields vs)->b≠T:=λb o hb hnf q=>by
  rw[q,hT]at hb;injection hb with hb;subst hb;exact hnf ts j5
 have OM:(s.heap.update T (Obj.mapFields (·.setIfInBounds 3 Value.none))).FunFrames base (env::outer):=hl.of_keeps λb o hb hnf=>#[o,(other b (nT b o hb hnf)).trans hb,rfl];have ON:∃o',(s.heap.update T (Obj.mapFields (·.setIfInBounds 3 Value.none))).get? T=be o':=#[_,Heap.get?_update_self _ hT (Obj.isFreed_of_fields (Obj.data_mapFields j5 _))];refine Os (Sk hfr OM hf λh₁ hs₁=>Os (Se λpl c9=>?_));unfold EntryCells.newEntry newFields;refine Os (QU ?_ (c9.sizeOk5 _ _ _ _ _));have he₁:h₁.get? e=be #[.ref C,od,.fields vs,sl]:=(hs₁.2.1 e I_).trans ((other e (Ne.symm td)).trans he);have fresh:h₁.get? h₁.objs.size=none:=Heap.get?_none_of_le (E5 _);generalize J5:({cls:=.type "traceback",dict:=m_,data:=.fields ([Value.ref T,.ref L,.none,Rx L,.none]++(if pl.isEmpty then FU 6 Value.none else pl)).toArray}:QY)=Lx;have he₂:=Heap.get?_push_of_some (h:=h₁) Lx he₁;have J6:h₁.objs.size≠e:=F5 (Heap.lt_size he₁);refine RB he₂ rfl ge (h _ h₁.objs.size ?_ ?_ ?_)
 .refine#[sl,vs.setIfInBounds 1 (.ref h₁.objs.size),Lx,([Value.ref T,.ref L,.none,Rx L,.none]++(if pl.isEmpty then FU 6 Value.none else pl)).toArray,?_,by simp[ge],J6,?_,by rw[<-J5],IV]
  .rw[Heap.get?_update_self _ he₂ rfl];rfl
  .rw[Heap.get?_update_other _ _ (Ne.symm J6)];exact Heap.get?_push_size h₁ (by rw[<-J5];rfl)
 .exact GE (hs₁.1.trans (Heap.size_after_update _ _ _)).symm
 .have kp:∀b o,b≠e->h₁.get? b=be o->((h₁.push Lx).update e (Obj.mapFields (·.setIfInBounds 1 (Value.ref h₁.objs.size)))).get? b=be o:=λb o hb z=>by
   rw[Heap.get?_update_other _ _ (Ne.symm hb)];exact Heap.get?_push_of_some _ z
  refine#[λb o q n m=>kp b o (λz=>n (by simp[z])) ((hs₁.2.1 b m).trans ((other b (λz=>n (by simp[z]))).trans q)),λb o q n=>?_,λb o q=>?_]
  .obtain⟨s9,z⟩:=hs₁.2.2 b o ((other b (λz=>n (by simp[z]))).trans q);exact#[s9,kp b _ (λz=>n (by simp[z])) z]
  .by_cases hb:b=e
   .subst hb;exact#[_,Heap.get?_update_self _ he₂ rfl]
   .have:∃o',(s.heap.update T (Obj.mapFields (·.setIfInBounds 3 Value.none))).get? b=be o':=by
     by_cases hb:b=T
     .rw[hb];exact ON
     .exact#[o,(other _ hb).trans q]
    obtain⟨o',q'⟩:=this;obtain⟨s9,z⟩:=hs₁.2.2 b o' q';exact#[_,kp b _ hb z]
def flight_none{fl:KB}(hx:ExAt s.heap e C od T fl)(h:∀h',ExAt h' e C od T .none->Stay [] [T] s.heap h'->Q () {s with heap:=h'}):QI M A (RO (.ref e) m_) Q E s:=by
 obtain⟨sl,vs,oT,ts,he,h1,td,hT,j5,h3⟩:=hx;have KW:3<ts.size:=(GI.mp h3).1;unfold RO;refine Os (Rg he rfl h1 ?_);rw[if_pos (show(Value.ref T !=Value.none)=true from IV)];refine RB hT j5 KW (h _ ?_ ?_)
 .exact#[sl,vs,_,_,(Heap.get?_update_other _ _ td).trans he,h1,td,Heap.get?_update_self _ hT (Obj.isFreed_of_fields (Obj.data_mapFields j5 _)),Obj.data_mapFields j5 _,by simp[KW]]
 .have other:∀b o,b∉[T]->s.heap.get? b=be o->(s.heap.update T (Obj.mapFields (·.setIfInBounds 3 ((m_:Option KF).elim Value.none λf=>Rx f)))).get? b=be o:=λb o hb q=>(Heap.get?_update_other _ _ (λz=>hb (by simp[z]))).trans q;refine#[λb o q n _=>other b o n q,λb o q n=>#[o.slots,other b o n q],λb o q=>?_];by_cases hb:b=T
  .subst hb;exact#[_,Heap.get?_update_self _ hT (Obj.isFreed_of_fields (Obj.data_mapFields j5 _))]
  .exact#[o,other b o (by simp[hb]) q]
end
def CX1(P:QH)(w:QL):CXT:=λouter H s E ev s'=>∃e C od T H',ev=.ref e/\s'.os=s.os/\Ru s'.gens/\Un (frs outer) [] H H' s.heap s'.heap/\HOk P w H' s'.heap/\ExAt s'.heap e C od T .none/\s.heap.get? e=m_/\s.heap.get? T=m_/\H' e=m_/\H' T=m_/\E (.ref C) od H'
variable{fs ex:List KF}
def eZ{P:QH}{w:QL}{H:Hp}{h h':QN}(x:HOk P w H h)(st:Stay fs ex h h')(hf:∀b∈fs,H b=m_)(he:∀b∈ex,H b=m_):HOk P w H h':=λa o q=>
 (x a o q).stay (λb u hb r=>by
  have hn:H b≠none:=by
   rcases hb with rfl|hb
   .rw[q];exact λz=>nomatch z
   .rw[hb];exact λz=>nomatch z
  exact st.keep b u r (λz=>hn (he b z)) (λz=>hn (hf b z))) (λ_ q=>q) λ_ _ q=>q
def fU{l5:List KF}{H H':Hp}{h h1 h2:QN}(u:Un fs [] H H' h h1)(st:Stay l5 ex h1 h2)(hex:∀b∈ex,h.get? b=m_)(KY:∀b∈l5,b∈fs\/h.get? b=m_):Un fs [] H H' h h2 where
 keep:=λb o q n hb hx=>st.keep b o (u.keep b o q n hb hx) (λz=>by rw[hex b z]at q;cases q) (λz=>(KY b z).elim hb λy=>by rw[y]at q;cases q)
 slot:=λb o q n hb hx=>by
  obtain⟨sl,e1⟩:=u.slot b o q n hb hx;obtain⟨s9,e2⟩:=st.slot b _ e1 (λz=>by rw[hex b z]at q;cases q);exact#[s9,e2]
 free:=u.free
 there:=λb o q hx=>by
  obtain⟨o1,e1⟩:=u.there b o q hx;exact st.there b o1 e1
 tups:=u.tups
 frzs:=u.frzs
 tbls:=u.tbls
section
variable {P:QH}{w:QL}{K:Ex}{mg:t6->Option KB}{base:QN}{N:List t6}{qual:t6}{scope:Q9}{f:KF}{cd:KB}{A:QM}{outer:List Rt}{s:KM}{H:Hp}{E E':XK}
def qJ{b:KF}(hb:b∈frs (QX qual scope s.heap.objs.size f cd::outer)):b∈frs outer\/s.heap.get? b=none:=by
 unfold frs at hb;rw[GD]at hb;rcases E8.mp (show b∈s.heap.objs.size::outer.filterMap (·.frame)from hb)with e|e
 .rw[e];exact .inr (Heap.get?_none_of_le (E5 _))
 .exact .inl e
def qK{pins:List (KF×QY)}{σ:L2.St}{H1:Hp}{s1:KM}{e C:KF}{od:Option KF}{sl:Array (Option KB)}{vs:Array KB}(I:Inv (cxOf (CX1 P w) P w K mg base N qual scope f cd A outer s H E') pins σ H1 s1)
  (he:s1.heap.get? e=be #[.ref C,od,.fields vs,sl]) (h1:vs[1]?=be .none) (He:H1 e=m_) (ne:s.heap.get? e=m_) (hE:E' (.ref C) od H1):(cxOf (CX1 P w) P w K mg base N qual scope f cd A outer s H E').xe (.ref e) s1:=by
 show QI _ _ (R6 _ _) _ _ _;unfold R6;refine Os (qH I.ok.frames I.stack rfl he h1 λh2 T2 n5 t5 ox=>flight_none (s:={s1 with heap:=h2}) n5 λh3 J7 v_=>?_);have z8:s1.heap.get? T2=none:=Heap.get?_none_of_le t5;have f1:∀b,s1.heap.get? b=m_->s.heap.get? b=none:=λb q=>by
  cases z:s.heap.get? b with
  |none=>rfl
  |some o=>
   obtain⟨o',z'⟩:=I.base.there b o z (by exact λy=>absurd (show b∈([]:List KF)from y) IV);rw[q]at z';cases z'
 have hok:HOk P w H1 s1.heap:=I.hok;have Iz:H1 T2=none:=hok.fresh t5;have u2:Un (frs outer) [] H H1 s.heap h2:=fU (show Un (frs outer) [] H H1 s.heap s1.heap from I.base) ox (λb hb=>by rw[E6.mp hb];exact ne) λb hb=>qJ hb;have u3:Un (frs outer) [] H H1 s.heap h3:=fU u2 v_ (λb hb=>by rw[E6.mp hb];exact f1 T2 z8) λb hb=>by cases hb
 have k2:=eZ hok ox (λb hb=>I.stkFree b hb) (λb hb=>by rw[E6.mp hb];exact He);have k3:=eZ k2 v_ (λb hb=>by cases hb) (λb hb=>by rw[E6.mp hb];exact Iz);exact#[e,C,od,T2,H1,rfl,I.os,I.bare,u3,k3,J7,ne,f1 T2 z8,He,Iz,hE]
end
end Exc
namespace L2
def Same.tup{K:Ex}{H H':Hp}{a:KF}{xs:List V}(e:Same H H')(h:SqT K H a xs):SqT K H' a xs:=by
 rcases h with(h|⟨o,h⟩)|h
 .exact .inl (.inl (e _ _ h))
 .exact .inl (.inr #[o,e _ _ h])
 .exact .inr h
end L2
namespace My
def fV{X:Cx}:eY (Exc.CX1 X.prog X.w) X E0:=λ_ _ _ _ _ _ _ h=>by
 obtain⟨e,C,od,T,H',_,_,_,_,_,_,_,_,_,_,h⟩:=h;exact h.elim
def Fun.okC{P:QH}{w:QL}{K:Ex}{mg:t6->Option KB}{base:QN}{CX:CXT}{x qual:t6}{st:P3}{f:KF}{fd:QR}{N ps:List t6}{k:Nat}{sp:Sp}{dV:KB}(F:FunG K dV x qual st f fd)(S:FnScope N ps (ah st))(len:∀vs H Q E,sp vs H Q E->vs.length=ps.length)
  (a9:∀(cdv:KB) (A:QM) (outer:List Rt) (s:KM) (H:Hp) (vs:List V) (Q:VK) (E:XK),Room k (A.deeper (QX qual (ah st) s.heap.objs.size f cdv))->sp vs H Q E->
   ∃t,PSs (cxOf CX P w K mg base N qual (ah st) f cdv A outer s H E) (aK st) t/\t {nx:=λ_ H'=>Q .non H',rt:=Q} (start N vs) H):FnOk P w K mg base CX (k+1) f fd ps sp:=by
 obtain⟨oc,od,kV,doc,pm,an,cdv,ct,osl,rfl,lk,g7⟩:=F.ex;refine ql lk g7 S len λA outer s H vs Q E hr w9=>?_;exact a9 cdv A outer s H vs Q E hr w9
def Cal(P:QH)(w:QL)(K:Ex)(mg:t6->Option KB)(base:QN)(n:Nat)(x:t6)(ps:List t6)(sp:Sp):Prop:=
 ∃f fd,FnOk P w K mg base (Exc.CX1 P w) n f fd ps sp/\Binds K fd ps []/\keepIn K (.ref f)=true/\mg x=be (.ref f)
def Tx(K:Ex)(mg:t6->Option KB)(x:t6)(st:P3)(ps:List t6):Prop:=
 ∃f fd,Fun K x x st f fd/\Binds K fd ps []/\mg x=be (.ref f)
section
variable {X:Cx}{n m:Nat}{ps:List t6}{sp:Sp}{x:t6}{p pos:QT}{e:QG}{es:List QG}{t:TA}
def xz(C:Cal X.prog X.w X.K X.mg X.base n x ps sp)(hr:Room m X.A)(ha:PA X (e::es) t)(hg:autoParam (Gl X x) zA0)(hn:autoParam (n<=m) zA1)(d9:autoParam (zND x) zA1)
  (he:autoParam (zSE X e es) zA0) (c9:autoParam (zPL X pos es) zA0):
  PE X (.Call (.Name x p) (e::es) [] pos) (qi sp [] E0 t):=by
 obtain⟨f,fd,F,hb,hk,hm⟩:=C;exact wG F (hr.mono hn) hg hm hk hb .nil fV ha d9 he c9
end
section
variable {P:QH}{w:QL}{K:Ex}{mg:t6->Option KB}{base:QN}
def Tx.ok{x:t6}{st:P3}{N ps:List t6}{k:Nat}{sp:Sp}(T:Tx K mg x st ps)(S:FnScope N ps (ah st))(len:∀vs H Q E,sp vs H Q E->vs.length=ps.length)
  (a9:∀(f:KF) (cdv:KB) (A:QM) (outer:List Rt) (s:KM) (H:Hp) (vs:List V) (Q:VK) (E:XK),Room k (A.deeper (QX x (ah st) s.heap.objs.size f cdv))->sp vs H Q E->
   ∃t,PSs (cxOf (Exc.CX1 P w) P w K mg base N x (ah st) f cdv A outer s H E).nox (aK st) t/\t {nx:=λ_ H'=>Q .non H',rt:=Q} (start N vs) H):Cal P w K mg base (k+1) x ps sp:=by
 obtain⟨f,fd,F,hb,hm⟩:=T;refine#[f,fd,Fun.okC F S len (λcdv A outer s H vs Q E hr h=>?_),hb,F.kp,hm];obtain⟨t,h1,h2⟩:=a9 f cdv A outer s H vs Q E hr h;exact#[t,h1.nox,h2]
end
def aO{H:Hp}{p:KF}(h:H p=m_)(o:HO):Same H (upd H p o):=λb u q=>by rw[ay (cJ q h)];exact q
def sz{n:Nat}(h:n<=1000):n<=sizeLine:=GC (xm h)
end My
namespace L2
section
variable {X:Cx}
variable{e:QG}
def PE.anti{t t':TE}(h:PE X e t)(a:∀s H Q,t' s H Q->t s H Q):PE X e t':=λpins s σ H Q I q=>h pins s σ H Q I (a _ _ _ q)
def PT.anti{t t':TT}(h:PT X e t)(a:∀s H Q,t' s H Q->t s H Q):PT X e t':=λpins s σ H Q I q=>h pins s σ H Q I (a _ _ _ q)
def PW.anti{t t':TT}(h:PW X e t)(a:∀s H Q,t' s H Q->t s H Q):PW X e t':=λwh pins s σ H Q I q=>h wh pins s σ H Q I (a _ _ _ q)
def PA.anti{e:List QG}{t t':TA}(h:PA X e t)(a:∀s H Q,t' s H Q->t s H Q):PA X e t':=λp pins s σ H Q I q=>h p pins s σ H Q I (a _ _ _ q)
def PS.anti{e:P3}{t t':TS}(h:PS X e t)(a:∀E s H,t' E s H->t E s H):PS X e t':=λpins s σ H Q I q=>h pins s σ H Q I (a _ _ _ q)
def PSs.anti{e:List P3}{t t':TS}(h:PSs X e t)(a:∀E s H,t' E s H->t E s H):PSs X e t':=λpins s σ H Q I q=>h pins s σ H Q I (a _ _ _ q)
end
end L2
namespace My
inductive D where
 |non|bl (b:Bool)|int (i:Int)|str (x:Str)|tup (xs:List D)|lst (xs:List D)
  |rol (xs:List D)
  |obj (x:t6) (fs:List (t6×D))
  |exc (x:t6) (fs:List (t6×D))
  |own (xs:List D)
  |ptr (a:KF)
  |dti (a8:List ((Int×Int)×Int))
def dtiV(a8:List ((Int×Int)×Int)):List (List Key×V):=a8.map λe=>([.inl e.1.1,.inl e.1.2],.int e.2)
def XO(e C:KF)(od:Option KF):HO:=.ext λh=>∃vs sl,h.get? e=be #[.ref C,od,.fields vs,sl]
mutual
def Rep(K:Ex)(H:Hp):D->V->Prop
 |.non,v=>v=.non
 |.bl b,v=>v=.bl b
 |.int i,v=>v=.int i
 |.str x,v=>v=.str x
 |.tup ds,v=>∃a vs,v=.ref a/\H a=be (.tup vs)/\Reps K H ds vs
 |.lst ds,v=>∃a vs,v=.ref a/\H a=be (.lst vs)/\Reps K H ds vs
 |.rol ds,v=>∃a vs,v=.ref a/\SqL K H a vs/\Reps K H ds vs
 |.obj x fs,v=>∃a C dx vs,v=.ref a/\nsIn K Pi x=be (be (.ref C))/\H a=be (.ins C dx vs)/\RepF K H fs vs
 |.exc x fs,v=>∃a C od vs,v=.ref a/\nsIn K Pi x=be (be (.ref C))/\H a=be (XO a C od)/\RepF K H fs vs/\((od=m_/\vs=[])\/∃b,od=be b/\H b=be (.xd vs))
 |.own _,_=>False
 |.ptr a,v=>v=.ref a
 |.dti a8,v=>∃a,v=.ref a/\H a=be (.dT (dtiV a8))
def RepF(K:Ex)(H:Hp):List (t6×D)->List (t6×V)->Prop
 |[],vs=>vs=[]
 |(f,d)::ds,vs=>∃v r,vs=(f,v)::r/\Rep K H d v/\RepF K H ds r
def Reps(K:Ex)(H:Hp):List D->List V->Prop
 |[],vs=>vs=[]
 |d::ds,vs=>∃v r,vs=v::r/\Rep K H d v/\Reps K H ds r
end
mutual
def Rep.mono{K:Ex}{H H':Hp}(g:Same H H'):∀(d:D) (v:V),Rep K H d v->Rep K H' d v
 |.non,v,h=>by unfold Rep at h ⊢;exact h
 |.bl b,v,h=>by unfold Rep at h ⊢;exact h
 |.int b,v,h=>by unfold Rep at h ⊢;exact h
 |.str b,v,h=>by unfold Rep at h ⊢;exact h
 |.tup ds,v,h=>by
  unfold Rep at h ⊢;obtain⟨a,vs,e,q,r⟩:=h;exact#[a,vs,e,g _ _ q,Reps.mono g ds vs r]
 |.lst ds,v,h=>by
  unfold Rep at h ⊢;obtain⟨a,vs,e,q,r⟩:=h;exact#[a,vs,e,g _ _ q,Reps.mono g ds vs r]
 |.rol ds,v,h=>by
  unfold Rep at h ⊢;obtain⟨a,vs,e,q,r⟩:=h;exact#[a,vs,e,g.seq q,Reps.mono g ds vs r]
 |.obj C fs,v,h=>by
  unfold Rep at h ⊢;obtain⟨a,C,dx,vs,e,n,q,r⟩:=h;exact#[a,C,dx,vs,e,n,g _ _ q,RepF.mono g fs vs r]
 |.exc C fs,v,h=>by
  unfold Rep at h ⊢;obtain⟨a,C,od,vs,e,n,q,r,d⟩:=h;exact#[a,C,od,vs,e,n,g _ _ q,RepF.mono g fs vs r,d.imp id λ⟨b,h1,h2⟩=>#[b,h1,g _ _ h2]]
 |.own ds,v,h=>by
  unfold Rep at h ⊢;exact h
 |.ptr a,v,h=>by unfold Rep at h ⊢;exact h
 |.dti a8,v,h=>by
  unfold Rep at h ⊢;obtain⟨a,e,q⟩:=h;exact#[a,e,g _ _ q]
def RepF.mono{K:Ex}{H H':Hp}(g:Same H H'):∀(ds:List (t6×D)) (vs:List (t6×V)),RepF K H ds vs->RepF K H' ds vs
 |[],vs,h=>by unfold RepF at h ⊢;exact h
 |(f,d)::ds,vs,h=>by
  unfold RepF at h ⊢;obtain⟨v,r,e,q1,q2⟩:=h;exact#[v,r,e,Rep.mono g d v q1,RepF.mono g ds r q2]
def Reps.mono{K:Ex}{H H':Hp}(g:Same H H'):∀(ds:List D) (vs:List V),Reps K H ds vs->Reps K H' ds vs
 |[],vs,h=>by unfold Reps at h ⊢;exact h
 |d::ds,vs,h=>by
  unfold Reps at h ⊢;obtain⟨v,r,e,q1,q2⟩:=h;exact#[v,r,e,Rep.mono g d v q1,Reps.mono g ds r q2]
end
section
variable {K:Ex}{H:Hp}
variable{v:V}
def rep_non:Rep K H .non v↔v=.non:=by unfold Rep;exact Iff.rfl
def rep_bl{b:Bool}:Rep K H (.bl b) v↔v=.bl b:=by unfold Rep;exact Iff.rfl
def rep_int{i:Int}:Rep K H (.int i) v↔v=.int i:=by unfold Rep;exact Iff.rfl
variable{x:t6}
def rep_str:Rep K H (.str x) v↔v=.str x:=by unfold Rep;exact Iff.rfl
variable{ds:List My.D}
def rep_tupS:Rep K H (.tup ds) v↔∃a vs,v=.ref a/\H a=be (.tup vs)/\Reps K H ds vs:=by
 constructor
 .intro h;unfold Rep at h;exact h
 .intro h;unfold Rep;exact h
def rep_tup_mp(h:Rep K H (.tup ds) v):∃a vs,v=.ref a/\SqT K H a vs/\Reps K H ds vs:=by
 obtain⟨a,vs,e,q,r⟩:=rep_tupS.mp h;exact#[a,vs,e,SqT.of q,r]
def rep_ptr{a:KF}:Rep K H (.ptr a) v↔v=.ref a:=by unfold Rep;exact Iff.rfl
def rep_dti{a8:List ((Int×Int)×Int)}:Rep K H (.dti a8) v↔∃a,v=.ref a/\H a=be (.dT (dtiV a8)):=by
 constructor
 .intro h;unfold Rep at h;exact h
 .intro h;unfold Rep;exact h
def rep_lst:Rep K H (.lst ds) v↔∃a vs,v=.ref a/\H a=be (.lst vs)/\Reps K H ds vs:=by
 constructor
 .intro h;unfold Rep at h;exact h
 .intro h;unfold Rep;exact h
def rep_rol:Rep K H (.rol ds) v↔∃a vs,v=.ref a/\SqL K H a vs/\Reps K H ds vs:=by
 constructor
 .intro h;unfold Rep at h;exact h
 .intro h;unfold Rep;exact h
variable{fs:List (t6×My.D)}
def rep_obj:Rep K H (.obj x fs) v↔∃a C dx vs,v=.ref a/\nsIn K Pi x=be (be (.ref C))/\H a=be (.ins C dx vs)/\RepF K H fs vs:=by
 constructor
 .intro h;unfold Rep at h;exact h
 .intro h;unfold Rep;exact h
def rep_exc:Rep K H (.exc x fs) v↔∃a C od vs,v=.ref a/\nsIn K Pi x=be (be (.ref C))/\H a=be (XO a C od)/\RepF K H fs vs/\((od=m_/\vs=[])\/∃b,od=be b/\H b=be (.xd vs)):=by
 constructor
 .intro h;unfold Rep at h;exact h
 .intro h;unfold Rep;exact h
def rep_own:¬Rep K H (.own ds) v:=by intro h;unfold Rep at h;exact h
variable{vs:List (t6×V)}
def repf_nil:RepF K H [] vs↔vs=[]:=by unfold RepF;exact Iff.rfl
def repf_cons{f:t6}{d:D}{ds:List (t6×D)}:RepF K H ((f,d)::ds) vs↔∃v r,vs=(f,v)::r/\Rep K H d v/\RepF K H ds r:=by
 constructor
 .intro h;unfold RepF at h;exact h
 .intro h;unfold RepF;exact h
def RepF.look{f:t6}{d:D}:∀{fs:List (t6×D)} {vs:List (t6×V)},RepF K H fs vs->fs.lookup f=be d->∃v,vs.lookup f=be v/\Rep K H d v
 |[],_,_,e=>by cases e
 |(g,x)::fs,vs,h,e=>by
  obtain⟨v,r,rfl,h1,h2⟩:=repf_cons.mp h;rw[Fq]at e ⊢;split at e
  .cases e;exact#[v,rfl,h1]
  .exact RepF.look h2 e
def RepF.none{f:t6}:∀{fs:List (t6×D)} {vs:List (t6×V)},RepF K H fs vs->fs.lookup f=Option.none->vs.lookup f=Option.none
 |[],vs,h,_=>by rw[repf_nil.mp h];rfl
 |(g,x)::fs,vs,h,e=>by
  obtain⟨v,r,rfl,h1,h2⟩:=repf_cons.mp h;rw[Fq]at e ⊢;split at e
  .cases e
  .exact RepF.none h2 e
def reps_nil{vs:List V}:Reps K H [] vs↔vs=[]:=by unfold Reps;exact Iff.rfl
def reps_cons{d:D}{vs:List V}:Reps K H (d::ds) vs↔∃v r,vs=v::r/\Rep K H d v/\Reps K H ds r:=by
 constructor
 .intro h;unfold Reps at h;exact h
 .intro h;unfold Reps;exact h
def Reps.length:∀{ds:List D} {vs:List V},Reps K H ds vs->vs.length=ds.length
 |[],vs,h=>by rw[reps_nil.mp h];rfl
 |d::ds,vs,h=>by
  obtain⟨v,r,rfl,_,h2⟩:=reps_cons.mp h;rw[Fe,Fe,Reps.length h2]
def Reps.get:∀{ds:List D} {vs:List V} {i:Nat} {d:D},Reps K H ds vs->ds[i]?=be d->∃v,vs[i]?=be v/\Rep K H d v
 |[],_,_,_,_,e=>by simp at e
 |x::ds,vs,0,d,h,e=>by
  obtain⟨v,r,rfl,h1,_⟩:=reps_cons.mp h;simp at e;subst e;exact#[v,rfl,h1]
 |x::ds,vs,i+1,d,h,e=>by
  obtain⟨v,r,rfl,_,h2⟩:=reps_cons.mp h;obtain⟨u,q1,q2⟩:=Reps.get (i:=i) h2 (by simpa using e);exact#[u,by simpa using q1,q2]
def Reps.ints:∀{ns:List Int} {vs:List V},Reps K H (ns.map D.int) vs↔vs=ns.map V.int
 |[],vs=>reps_nil
 |n::ns,vs=>by
  rw[Fi,reps_cons,Fi];constructor
  .rintro⟨v,r,rfl,h1,h2⟩;rw[rep_int.mp h1,Reps.ints.mp h2]
  .rintro rfl;exact#[_,_,rfl,rep_int.mpr rfl,Reps.ints.mpr rfl]
end
abbrev SD:=List (Option D)
def fW:D->Bool|.own _=>true|_=>false
structure RepS(K:Ex)(B F H:Hp)(t:SD)(s:L2.St):Prop where
 len:s.length=t.length
 val:∀(i:Nat) d,t[i]?=be (be d)->fW d=false->∃v,s[i]?=be (be v)/\Rep K F d v
 own:∀(i:Nat) ds,t[i]?=be (be (.own ds))->∃a vs,s[i]?=be (be (.ref a))/\H a=be (.lst vs)/\B a=m_/\F a=m_/\Reps K F ds vs
 apart:∀(i j:Nat) di dj a,t[i]?=be (be (.own di))->t[j]?=be (be (.own dj))->s[i]?=be (be (.ref a))->s[j]?=be (be (.ref a))->i=j
structure Grow(F H F' H':Hp):Prop where
 ff:Same F F'
 fh:Same F' H'
 hh:Same H H'
 out:∀b,F b=m_->H b≠m_->F' b=m_
variable{F H:Hp}
def Grow.refl(h:Same F H):Grow F H F H:=#[Same.refl F,h,Same.refl H,λ_ h _=>h]
def Grow.trans{F1 H1 F2 H2:Hp}(g:Grow F H F1 H1)(k:Grow F1 H1 F2 H2):Grow F H F2 H2:=
 ⟨g.ff.trans k.ff,k.fh,g.hh.trans k.hh,λb h1 h2=>k.out b (g.out b h1 h2) (by
  cases e:H b with
  |none=>exact absurd e h2
  |some o=>rw[g.hh b o e];exact λz=>nomatch z)⟩
def Grow.new{p:KF}(h:Same F H)(hp:H p=m_)(o:HO):Grow F H (upd F p o) (upd H p o):=by
 have fp:F p=none:=h.free hp;refine#[aO fp o,λb u e=>?_,aO hp o,λb h1 h2=>?_]
 .by_cases hb:b=p
  .subst hb;rw[aG]at e ⊢;exact e
  .rw[ay hb]at e ⊢;exact h b u e
 .by_cases hb:b=p
  .subst hb;exact absurd hp h2
  .rw[ay hb];exact h1
class Jx where
 B:Hp
 F0:Hp
 RX:SD->t6->List (t6×D)->Prop
structure Kept[J:Jx](B F0 F H:Hp):Prop where
 bh:Same B H
 fh:Same F H
 f0:Same F0 F
 out:∀b,F0 b=m_->B b≠m_->F b=m_
 eb:B=J.B
 jf:Same J.F0 F0
 jo:∀b,J.F0 b=m_->B b≠m_->F0 b=m_
variable{B:Hp}
def Kept.kf[J:Jx]{F0:Hp}(k:Kept B F0 F H):Kept B J.F0 F H:=#[k.bh,k.fh,k.jf.trans k.f0,λb h1 h2=>k.out b (k.jo b h1 h2) h2,k.eb,Same.refl _,λ_ h _=>h]
def Kept.grow[Jx]{F0 F' H':Hp}(k:Kept B F0 F H)(g:Grow F H F' H'):Kept B F0 F' H':=
 ⟨k.bh.trans g.hh,g.fh,k.f0.trans g.ff,λb h1 h2=>g.out b (k.out b h1 h2) (by
  cases e:B b with
  |none=>exact absurd e h2
  |some o=>rw[k.bh b o e];exact λz=>nomatch z),k.eb,k.jf,k.jo⟩
section
variable {K:Ex}{B F H F' H':Hp}{t:SD}{s:L2.St}
def RepS.grow(g:Grow F H F' H')(h:RepS K B F H t s):RepS K B F' H' t s where
 len:=h.len
 val:=λi d e no=>let ⟨v,q1,q2⟩:=h.val i d e no;#[v,q1,q2.mono g.ff]
 own:=λi ds e=>by
  obtain⟨a,vs,q1,q2,q3,q4,q5⟩:=h.own i ds e;exact#[a,vs,q1,g.hh a _ q2,q3,g.out a q4 (by rw[q2];exact λz=>nomatch z),q5.mono g.ff]
 apart:=h.apart
variable{i:Nat}
def RepS.set{d:D}{v:V}(h:RepS K B F H t s)(r:Rep K F d v):RepS K B F H (t.set i (be d)) (s.set i (be v)):=by
 have no:fW d=false:=by
  cases d with
  |own ds=>exact absurd r rep_own
  |_=>rfl
 have get:∀{j:Nat} {x:D},(t.set i (be d))[j]?=be (be x)->(j=i/\x=d/\i<t.length)\/(j≠i/\t[j]?=be (be x)):=λ{j x} e=>by
  by_cases hj:i=j
  .subst hj;rw[Gx]at e;simp at e;exact .inl #[rfl,e.2.symm,e.1]
  .rw[Fu hj]at e;exact .inr #[λz=>hj z.symm,e]
 refine#[by rw[FX,FX];exact h.len,λj x e nx=>?_,λj ds e=>?_,λj k dj dk a e1 e2 e3 e4=>?_]
 .rcases get e with⟨rfl,rfl,hl⟩|⟨hj,e⟩
  .exact#[v,by rw[FM (by rw[h.len];exact hl)],r]
  .obtain⟨u,q1,q2⟩:=h.val j x e nx;exact#[u,by rw[Fu (λz=>hj z.symm)];exact q1,q2]
 .rcases get e with⟨rfl,rfl,hl⟩|⟨hj,e⟩
  .cases no
  .obtain⟨a,vs,q1,q⟩:=h.own j ds e;exact#[a,vs,by rw[Fu (λz=>hj z.symm)];exact q1,q]
 .rcases get e1 with⟨rfl,rfl,hl⟩|⟨hj,e1⟩
  .cases no
  .rcases get e2 with⟨rfl,rfl,hl⟩|⟨hk,e2⟩
   .cases no
   .rw[Fu (λz=>hj z.symm)]at e3;rw[Fu (λz=>hk z.symm)]at e4;exact h.apart j k dj dk a e1 e2 e3 e4
variable{ds:List My.D}
def RepS.setOwn{a:KF}{vs:List V}(h:RepS K B F H t s)(hB:B a=m_)(hF:F a=m_)(r:Reps K F ds vs)
  (free:∀(j:Nat) dj,j≠i->t[j]?=be (be (.own dj))->s[j]?≠be (be (.ref a))):RepS K B F (upd H a (.lst vs)) (t.set i (be (.own ds))) (s.set i (be (.ref a))):=by
 have get:∀{j:Nat} {x:D},(t.set i (be (.own ds)))[j]?=be (be x)->(j=i/\x=.own ds/\i<t.length)\/(j≠i/\t[j]?=be (be x)):=λ{j x} e=>by
  by_cases hj:i=j
  .subst hj;rw[Gx]at e;simp at e;exact .inl #[rfl,e.2.symm,e.1]
  .rw[Fu hj]at e;exact .inr #[λz=>hj z.symm,e]
 refine#[by rw[FX,FX];exact h.len,λj x e nx=>?_,λj dj e=>?_,λj k dj dk b e1 e2 e3 e4=>?_]
 .rcases get e with⟨rfl,rfl,hl⟩|⟨hj,e⟩
  .cases nx
  .obtain⟨u,q1,q2⟩:=h.val j x e nx;exact#[u,by rw[Fu (λz=>hj z.symm)];exact q1,q2]
 .rcases get e with⟨rfl,e,hl⟩|⟨hj,e⟩
  .cases e;exact#[a,vs,by rw[FM (by rw[h.len];exact hl)],aG,hB,hF,r]
  .obtain⟨b,us,q1,q2,q⟩:=h.own j dj e;have ne:b≠a:=λz=>free j dj hj e (z ▸ q1);exact#[b,us,by rw[Fu (λz=>hj z.symm)];exact q1,by rw[ay ne];exact q2,q]
 .rcases get e1 with⟨hj,c1,hl⟩|⟨hj,f1⟩
  .rcases get e2 with⟨hk,c2,KR⟩|⟨hk,f2⟩
   .rw[hj,hk]
   .rw[hj,FM (by rw[h.len];exact hl)]at e3;rw[Fu (λz=>hk z.symm)]at e4;cases e3;exact absurd e4 (free k dk hk f2)
  .rcases get e2 with⟨hk,c2,KR⟩|⟨hk,f2⟩
   .rw[hk,FM (by rw[h.len];exact KR)]at e4;rw[Fu (λz=>hj z.symm)]at e3;cases e4;exact absurd e3 (free j dj hj f1)
   .rw[Fu (λz=>hj z.symm)]at e3;rw[Fu (λz=>hk z.symm)]at e4;exact h.apart j k dj dk b f1 f2 e3 e4
def RepS.freeze[Jx]{F0:Hp}(h:RepS K B F H t s)(k:Kept B F0 F H)(e:t[i]?=be (be (.own ds))):∃F',Kept B F0 F' H/\RepS K B F' H (t.set i (be (.lst ds))) s:=by
 obtain⟨a,vs,q1,q2,q3,q4,q5⟩:=h.own i ds e;have hl:i<t.length:=(Fj.mp e).1;have g:Same F (upd F a (.lst vs)):=aO q4 _;have get:∀{j:Nat} {x:D},(t.set i (be (.lst ds)))[j]?=be (be x)->(j=i/\x=.lst ds)\/(j≠i/\t[j]?=be (be x)):=λ{j x} e=>by
  by_cases hj:i=j
  .subst hj;rw[Gx]at e;simp at e;exact .inl #[rfl,e.2.symm]
  .rw[Fu hj]at e;exact .inr #[λz=>hj z.symm,e]
 refine#[upd F a (.lst vs),#[k.bh,λb o z=>?_,k.f0.trans g,λb h1 h2=>?_,k.eb,k.jf,k.jo],#[by rw[FX];exact h.len,λj x e' nx=>?_,λj dj e'=>?_,λj l dj dl b e1 e2 e3 e4=>?_]]
 .by_cases hb:b=a
  .subst hb;rw[aG]at z;cases z;exact q2
  .rw[ay hb]at z;exact k.fh b o z
 .by_cases hb:b=a
  .subst hb;exact absurd q3 h2
  .rw[ay hb];exact k.out b h1 h2
 .rcases get e' with⟨rfl,rfl⟩|⟨hj,e'⟩
  .exact#[.ref a,q1,rep_lst.mpr #[a,vs,rfl,aG,q5.mono g]]
  .obtain⟨u,p1,p2⟩:=h.val j x e' nx;exact#[u,p1,p2.mono g]
 .rcases get e' with⟨rfl,c⟩|⟨hj,e'⟩
  .cases c
  .obtain⟨b,us,p1,p2,p3,p4,p5⟩:=h.own j dj e';have ne:b≠a:=λz=>hj (h.apart j i dj ds a e' e (z ▸ p1) q1);exact#[b,us,p1,p2,p3,by rw[ay ne];exact p4,p5.mono g]
 .rcases get e1 with⟨rfl,c⟩|⟨hj,e1⟩
  .cases c
  .rcases get e2 with⟨rfl,c⟩|⟨hk,e2⟩
   .cases c
   .exact h.apart j l dj dl b e1 e2 e3 e4
end
def startD(N:List t6)(ds:List D):SD:=ds.map be++FU (N.length-ds.length) m_
variable{K:Ex}
def Rep.noown{d:D}{v:V}(r:Rep K F d v):fW d=false:=by
 cases d with
 |own ds=>exact absurd r rep_own
 |_=>rfl
def fg{N:List t6}{ds:List D}{vs:List V}(h:Reps K F ds vs):RepS K B F H (startD N ds) (L2.start N vs):=by
 have hl:=h.length;have get:∀(i:Nat) d,(startD N ds)[i]?=be (be d)->∃v,(L2.start N vs)[i]?=be (be v)/\Rep K F d v:=λi d e=>by
  unfold startD at e;unfold L2.start;by_cases hi:i<ds.length
  .rw[FK (by simpa using hi),Fg]at e;cases q:ds[i]? with
   |none=>rw[q]at e;cases e
   |some x=>
    rw[q]at e;cases e;obtain⟨v,q1,q2⟩:=h.get q;exact#[v,by rw[FK (by simpa[hl]using hi),Fg,q1];rfl,q2]
  .rw[FV (by simpa using hi),G4]at e;split at e<;>cases e
 refine#[by unfold startD L2.start;simp[hl],λi d e _=>get i d e,λi d e=>?_,λi j di dj a e=>?_]
 .obtain⟨v,_,r⟩:=get i _ e;exact absurd r rep_own
 .obtain⟨v,_,r⟩:=get i _ e;exact absurd r rep_own
abbrev TD:=SD->(D->Prop)->Prop
abbrev TDT:=SD->(Bool->Prop)->Prop
abbrev TDA:=SD->(List D->Prop)->Prop
structure EndsD where
 nx:SD->Prop
 rt:D->Prop
 bk:SD->Prop:=λ_=>False
 ct:SD->Prop:=λ_=>False
abbrev TSD:=EndsD->SD->Prop
def lE(K:Ex)[J:Jx](t:TD):TE:=λs H Q=>∃B F z,Kept B J.F0 F H/\RepS K B F H z s/\∃R:D->Prop,t z R/\∀d v F' H',Grow F H F' H'->R d->Rep K F' d v->Q v H'
def lT(K:Ex)[J:Jx](t:TDT):TT:=λs H Q=>∃B F z,Kept B J.F0 F H/\RepS K B F H z s/\∃R:Bool->Prop,t z R/\∀b F' H',Grow F H F' H'->R b->Q b H'
def lA(K:Ex)[J:Jx](t:TDA):TA:=λs H Q=>∃B F z,Kept B J.F0 F H/\RepS K B F H z s/\∃R:List D->Prop,t z R/\∀ds vs F' H',Grow F H F' H'->R ds->Reps K F' ds vs->Q vs H'
structure EndsOk[Jx](K:Ex)(B F0:Hp)(ED:EndsD)(E:Ends):Prop where
 nx:∀z' s' F' H',Kept B F0 F' H'->ED.nx z'->RepS K B F' H' z' s'->E.nx s' H'
 rt:∀d v F' H',Kept B F0 F' H'->ED.rt d->Rep K F' d v->E.rt v H'
 bk:∀z' s' F' H',Kept B F0 F' H'->ED.bk z'->RepS K B F' H' z' s'->E.bk s' H'
 ct:∀z' s' F' H',Kept B F0 F' H'->ED.ct z'->RepS K B F' H' z' s'->E.ct s' H'
def lS(K:Ex)[Jx](t:TSD):TS:=λE s H=>∃B F0 F z,Kept B F0 F H/\RepS K B F H z s/\∃ED:EndsD,t ED z/\EndsOk K B F0 ED E
abbrev DE(X:Cx)[Jx](e:QG)(t:TD):Prop:=PE X e (lE X.K t)
abbrev DT(X:Cx)[Jx](e:QG)(t:TDT):Prop:=PT X e (lT X.K t)
abbrev DW(X:Cx)[Jx](e:QG)(t:TDT):Prop:=PW X e (lT X.K t)
abbrev DA(X:Cx)[Jx](es:List QG)(t:TDA):Prop:=PA X es (lA X.K t)
abbrev DS(X:Cx)[Jx](st:P3)(t:TSD):Prop:=PS X st (lS X.K t)
abbrev DSs(X:Cx)[Jx](st:List P3)(t:TSD):Prop:=PSs X st (lS X.K t)
structure WDE(X:Cx)[Jx](e:QG)(t:TD):Prop where
 out:DE X e t
structure WDT(X:Cx)[Jx](e:QG)(t:TDT):Prop where
 out:DT X e t
structure WDW(X:Cx)[Jx](e:QG)(t:TDT):Prop where
 out:DW X e t
structure WDA(X:Cx)[Jx](es:List QG)(t:TDA):Prop where
 out:DA X es t
structure WDS(X:Cx)[Jx](st:P3)(t:TSD):Prop where
 out:DS X st t
structure WDSs(X:Cx)[Jx](st:List P3)(t:TSD):Prop where
 out:DSs X st t
section
variable {X:Cx}
def okR(R:D->Prop):D->Prop|.own _=>False|d=>R d
def dVar(i:Nat):TD:=λz R=>match z[i]? with|some (be d)=>okR R d|_=>False
def dC(d:D):TD:=λ_ R=>R d
variable{x:t6}
def aa[Jx](i:Nat){pos:QT}(hN:autoParam (X.N[i]?=be x) zA0)(hv:autoParam (Vis X.env.scope x) zA5)(hd:autoParam (zND x) zA1)
  (g7:autoParam (zNC x) zA1):WDE X (.Name x pos) (dVar i):=⟨(eU hN hv hd g7).anti λs H Q h=>by
 obtain⟨B,F,z,kf,r,R,h1,h2⟩:=h;have fh:=kf.fh;unfold dVar at h1;split at h1
 .rename_i d e;have no:fW d=false:=by
   cases d with
   |own ds=>exact False.elim h1
   |_=>rfl
  have OO:R d:=by
   cases d with
   |own ds=>exact False.elim h1
   |_=>exact h1
  obtain⟨v,q1,q2⟩:=r.val i d e no;exact#[v,q1,h2 d v F H (Grow.refl fh) OO q2]
 .exact h1.elim⟩
variable{e:QG}
def de_c[Jx]{d:D}{v:V}(h:PE X e (tC v))(r:∀H,Rep X.K H d v):DE X e (dC d):=h.anti λs H Q q=>by
 obtain⟨B,F,z,kf,_,R,h1,h2⟩:=q;have fh:=kf.fh;exact h2 d v F H (Grow.refl fh) h1 (r F)
def ad[Jx]{i j pos}:WDE X (.Constant (.int i) j pos) (dC (.int i)):=#[de_c vf λ_=>rep_int.mpr rfl]
def cL[Jx]{b j pos}:WDE X (.Constant (.bool b) j pos) (dC (.bl b)):=#[de_c vg λ_=>rep_bl.mpr rfl]
def bq[Jx]{j pos}:WDE X (.Constant .none j pos) (dC .non):=#[de_c vh λ_=>rep_non.mpr rfl]
def ax[Jx]{x j pos}:WDE X (.Constant (.str x) j pos) (dC (.str x)):=#[de_c pE λ_=>rep_str.mpr rfl]
abbrev RD2:=D->D->(D->Prop)->Prop
def dOp(r:RD2)(ta tb:TD):TD:=λz R=>ta z λx=>tb z λy=>r x y R
def aY(K:Ex)(r:R2)(rd:RD2):Prop:=∀x y u v F H R Q,Same F H->rd x y R->Rep K F x u->Rep K F y v->(∀d w F' H',Grow F H F' H'->R d->Rep K F' d w->Q w H')->r u v H Q
variable{r:R2}{rd:RD2}
def js[Jx]{ta tb:TD}(L:aY X.K r rd)(h:PE X e (tOp r (lE X.K ta) (lE X.K tb))):DE X e (dOp rd ta tb):=h.anti λs H Q q=>by
 obtain⟨B,F,z,kf,rs,R,h1,h2⟩:=q;have fh:=kf.fh;refine#[B,F,z,kf,rs,_,h1,λx u F1 H1 g1 hx rx=>?_];refine#[B,F1,z,kf.grow g1,rs.grow g1,_,hx,λy v F2 H2 g2 hy ry=>?_];exact L x y u v F2 H2 R Q g2.fh hy (rx.mono g2.ff) ry λd w F' H' g3=>h2 d w F' H' (g1.trans (g2.trans g3))
variable {a b c:QG}{ta tb tc:TD}{pos:QT}
def cX[Jx]{op:Operator}(ho:OpR X (Q4 op) r)(L:aY X.K r rd)(ha:DE X a ta)(hb:DE X b tb):DE X (.BinOp a op b pos) (dOp rd ta tb):=js L (pT ho ha hb)
def jt[Jx]{op:Sq}(ho:OpR X (QW op) r)(L:aY X.K r rd)(ha:DE X a ta)(hb:DE X b tb)(hm:Q6 op b=false):DE X (.Compare a [op] [b] pos) (dOp rd ta tb):=js L (vY ho ha hb hm)
def xA[Jx](hr:IxR X r)(L:aY X.K r rd)(ha:DE X a ta)(hb:DE X b tb)(hs:autoParam (dH b) zA6):DE X (.Subscript a b pos) (dOp rd ta tb):=js L (pe_ix hr ha hb hs)
def rdAdd:RD2:=λx y R=>match x,y with
 |.int i,.int j=>R (.int (i+j))
 |.str i,.str j=>i.length+j.length<=1000000/\R (.str (i++j))
 |.lst xs,.lst ys=>xs.length+ys.length<=1000000/\R (.lst (xs++ys))
 |.tup xs,.tup ys=>(xs≠[]/\ys≠[]/\xs.length+ys.length<=1000000)/\R (.tup (xs++ys))
 |_,_=>False
def qL(K:Ex):R2:=λx y H Q=>rI0 (λi j=>.int (i+j)) x y H Q\/((λx y H Q=>∃i j,x=.str i/\y=.str j/\i.length+j.length<=sizeLine/\Q (.str (i++j)) H) x y H Q\/(rCat x y H Q\/qu K x y H Q))
def qM:OpR X (Q4 .Add) (qL X.K):=OpR.or vN (OpR.or wg (OpR.or xg wQ))
def Reps.append{K:Ex}{F:Hp}:∀{xs ys:List D} {us vs:List V},Reps K F xs us->Reps K F ys vs->Reps K F (xs++ys) (us++vs)
 |[],ys,us,vs,r1,r2=>by rw[reps_nil.mp r1];exact r2
 |x::xs,ys,us,vs,r1,r2=>by
  obtain⟨u,ur,rfl,a1,a2⟩:=reps_cons.mp r1;exact reps_cons.mpr #[u,ur++vs,rfl,a1,Reps.append a2 r2]
variable{K:Ex}
def Reps.ne_nil{F:Hp}{xs:List D}{us:List V}(r:Reps K F xs us)(h:xs≠[]):us≠[]:=by
 cases xs with
 |nil=>exact absurd rfl h
 |cons x xs=>obtain⟨u,ur,rfl,_⟩:=reps_cons.mp r;exact λz=>nomatch z
def qN:aY K (qL K) rdAdd:=by
 intro x y u v F H R Q fh h rx ry q;unfold rdAdd at h;split at h
 .exact .inl #[_,_,rep_int.mp rx,rep_int.mp ry,q _ _ F H (Grow.refl fh) h (rep_int.mpr rfl)]
 .exact .inr (.inl #[_,_,rep_str.mp rx,rep_str.mp ry,Fh h.1 y8,q _ _ F H (Grow.refl fh) h.2 (rep_str.mpr rfl)])
 .obtain⟨a,us,rfl,hq,rr⟩:=rep_lst.mp rx;obtain⟨b,vs,rfl,j9,k9⟩:=rep_lst.mp ry;refine .inr (.inr (.inl #[a,b,us,vs,rfl,rfl,fh _ _ hq,fh _ _ j9,by rw[rr.length,k9.length];exact Fh h.1 y8,λp hp=>?_]));exact q _ _ _ _ (Grow.new fh hp _) h.2 (rep_lst.mpr #[p,_,rfl,aG,(rr.append k9).mono (aO (fh.free hp) _)])
 .obtain⟨a,us,rfl,hq,rr⟩:=rep_tup_mp rx;obtain⟨b,vs,rfl,j9,k9⟩:=rep_tup_mp ry;obtain⟨⟨n1,n2,hz⟩,h⟩:=h;refine .inr (.inr (.inr #[a,b,us,vs,rfl,rfl,fh.tup hq,fh.tup j9,rr.ne_nil n1,by rw[rr.length,k9.length];exact Fh hz y8,λz=>absurd z (k9.ne_nil n2),λ_ p hp=>?_]));exact q _ _ _ _ (Grow.new fh hp _) h (rep_tupS.mpr #[p,_,rfl,aG,(rr.append k9).mono (aO (fh.free hp) _)])
 .exact h.elim
def am[Jx](ha:WDE X a ta)(hb:WDE X b tb):WDE X (.BinOp a .Add b pos) (dOp rdAdd ta tb):=#[have ha:=ha.out;have hb:=hb.out;cX qM qN ha hb]
def rdSub:RD2:=λx y R=>match x,y with|.int i,.int j=>R (.int (i-j))|_,_=>False
def qO:aY K (rI0 λi j=>.int (i-j)) rdSub:=by
 intro x y u v F H R Q fh h rx ry q;unfold rdSub at h;split at h
 .exact#[_,_,rep_int.mp rx,rep_int.mp ry,q _ _ F H (Grow.refl fh) h (rep_int.mpr rfl)]
 .exact h.elim
def bn[Jx](ha:WDE X a ta)(hb:WDE X b tb):WDE X (.BinOp a .Sub b pos) (dOp rdSub ta tb):=#[have ha:=ha.out;have hb:=hb.out;cX pU qO ha hb]
def rdMul:RD2:=λx y R=>match x,y with|.int i,.int j=>CMul i j/\R (.int (i*j))|_,_=>False
def xB:aY K (rI CMul λi j=>.int (i*j)) rdMul:=by
 intro x y u v F H R Q fh h rx ry q;unfold rdMul at h;split at h
 .exact#[_,_,rep_int.mp rx,rep_int.mp ry,h.1,q _ _ F H (Grow.refl fh) h.2 (rep_int.mpr rfl)]
 .exact h.elim
def aw[Jx](ha:WDE X a ta)(hb:WDE X b tb):WDE X (.BinOp a .Mult b pos) (dOp rdMul ta tb):=#[have ha:=ha.out;have hb:=hb.out;cX vO xB ha hb]
def rdFdiv:RD2:=λx y R=>match x,y with|.int i,.int j=>(0<j/\j<1073741824)/\R (.int (i/j))|_,_=>False
def xC:aY K (rI CDiv λi j=>.int (i/j)) rdFdiv:=by
 intro x y u v F H R Q fh h rx ry q;unfold rdFdiv at h;split at h
 .exact#[_,_,rep_int.mp rx,rep_int.mp ry,h.1,q _ _ F H (Grow.refl fh) h.2 (rep_int.mpr rfl)]
 .exact h.elim
def aI[Jx](ha:WDE X a ta)(hb:WDE X b tb):WDE X (.BinOp a .FloorDiv b pos) (dOp rdFdiv ta tb):=#[have ha:=ha.out;have hb:=hb.out;cX vP xC ha hb]
def qP(i j:Int):Prop:=j≠0/\j.natAbs<4611686018427387904
def xD:OpR X (Q4 .FloorDiv) (rI qP λi j=>.int (i.fdiv j)):=opI λ_ j _ _ _ _ _ hc q=>floordiv_int hc.1 q (.inl (PyProof.noPylong_of_log2 (Hz ((HB (λz=>hc.1 (HC.mp z))).mpr (show j.natAbs<2^62 from hc.2)) y8)))
def rdFdivN:RD2:=λx y R=>match x,y with|.int i,.int j=>(j≠0/\j.natAbs<4611686018427387904)/\R (.int (i.fdiv j))|_,_=>False
def xE:aY K (rI qP λi j=>.int (i.fdiv j)) rdFdivN:=by
 intro x y u v F H R Q fh h rx ry q;unfold rdFdivN at h;split at h
 .exact#[_,_,rep_int.mp rx,rep_int.mp ry,h.1,q _ _ F H (Grow.refl fh) h.2 (rep_int.mpr rfl)]
 .exact h.elim
def xF[Jx](ha:WDE X a ta)(hb:WDE X b tb):WDE X (.BinOp a .FloorDiv b pos) (dOp rdFdivN ta tb):=#[have ha:=ha.out;have hb:=hb.out;cX xD xE ha hb]
def rdMod:RD2:=λx y R=>match x,y with|.int i,.int j=>0<j/\R (.int (i%j))|_,_=>False
def xG:aY K (rI (λ_ j=>0<j) λi j=>.int (i%j)) rdMod:=by
 intro x y u v F H R Q fh h rx ry q;unfold rdMod at h;split at h
 .exact#[_,_,rep_int.mp rx,rep_int.mp ry,h.1,q _ _ F H (Grow.refl fh) h.2 (rep_int.mpr rfl)]
 .exact h.elim
def av[Jx](ha:WDE X a ta)(hb:WDE X b tb):WDE X (.BinOp a .Mod b pos) (dOp rdMod ta tb):=#[have ha:=ha.out;have hb:=hb.out;cX vQ xG ha hb]
def rdModN:RD2:=λx y R=>match x,y with|.int i,.int j=>j≠0/\R (.int (i.fmod j))|_,_=>False
def xH:aY K (rI (λ_ j=>j≠0) λi j=>.int (i.fmod j)) rdModN:=by
 intro x y u v F H R Q fh h rx ry q;unfold rdModN at h;split at h
 .exact#[_,_,rep_int.mp rx,rep_int.mp ry,h.1,q _ _ F H (Grow.refl fh) h.2 (rep_int.mpr rfl)]
 .exact h.elim
def qQ[Jx](ha:WDE X a ta)(hb:WDE X b tb):WDE X (.BinOp a .Mod b pos) (dOp rdModN ta tb):=#[have ha:=ha.out;have hb:=hb.out;cX vR xH ha hb]
def rdLt:RD2:=λx y R=>match x,y with|.int i,.int j=>R (.bl (decide (i<j)))|_,_=>False
def qR:aY K (rI0 λi j=>.bl (decide (i<j))) rdLt:=by
 intro x y u v F H R Q fh h rx ry q;unfold rdLt at h;split at h
 .exact#[_,_,rep_int.mp rx,rep_int.mp ry,q _ _ F H (Grow.refl fh) h (rep_bl.mpr rfl)]
 .exact h.elim
def rdLe:RD2:=λx y R=>match x,y with|.int i,.int j=>R (.bl (decide (i<=j)))|_,_=>False
def xI:aY K (rI0 λi j=>.bl (decide (i<=j))) rdLe:=by
 intro x y u v F H R Q fh h rx ry q;unfold rdLe at h;split at h
 .exact#[_,_,rep_int.mp rx,rep_int.mp ry,q _ _ F H (Grow.refl fh) h (rep_bl.mpr rfl)]
 .exact h.elim
def rdGt:RD2:=λx y R=>match x,y with|.int i,.int j=>R (.bl (decide (j<i)))|_,_=>False
def xJ:aY K (rI0 λi j=>.bl (decide (j<i))) rdGt:=by
 intro x y u v F H R Q fh h rx ry q;unfold rdGt at h;split at h
 .exact#[_,_,rep_int.mp rx,rep_int.mp ry,q _ _ F H (Grow.refl fh) h (rep_bl.mpr rfl)]
 .exact h.elim
def rdGe:RD2:=λx y R=>match x,y with|.int i,.int j=>R (.bl (decide (j<=i)))|_,_=>False
def xK:aY K (rI0 λi j=>.bl (decide (j<=i))) rdGe:=by
 intro x y u v F H R Q fh h rx ry q;unfold rdGe at h;split at h
 .exact#[_,_,rep_int.mp rx,rep_int.mp ry,q _ _ F H (Grow.refl fh) h (rep_bl.mpr rfl)]
 .exact h.elim
def rdEq:RD2:=λx y R=>match x,y with
 |.int i,.int j=>R (.bl (decide (i=j)))
 |.bl i,.bl j=>R (.bl (decide (i=j)))
 |.str i,.str j=>R (.bl (decide (i=j)))
 |.non,.non=>R (.bl true)
 |_,_=>False
def rdNe:RD2:=λx y R=>match x,y with
 |.int i,.int j=>R (.bl (!decide (i=j)))
 |.bl i,.bl j=>R (.bl (!decide (i=j)))
 |.str i,.str j=>R (.bl (!decide (i=j)))
 |.non,.non=>R (.bl false)
 |_,_=>False
def ju:aY K rEq rdEq:=by
 intro x y u v F H R Q fh h rx ry q;unfold rdEq at h;split at h
 .rw[rep_int.mp rx,rep_int.mp ry];refine#[rfl,q _ _ F H (Grow.refl fh) h (rep_bl.mpr ?_)];simp
 .rw[rep_bl.mp rx,rep_bl.mp ry];refine#[rfl,q _ _ F H (Grow.refl fh) h (rep_bl.mpr ?_)];simp
 .rw[rep_str.mp rx,rep_str.mp ry];refine#[rfl,q _ _ F H (Grow.refl fh) h (rep_bl.mpr ?_)];simp
 .rw[rep_non.mp rx,rep_non.mp ry];refine#[rfl,q _ _ F H (Grow.refl fh) h (rep_bl.mpr ?_)];simp
 .exact h.elim
def xL:aY K rNe rdNe:=by
 intro x y u v F H R Q fh h rx ry q;unfold rdNe at h;split at h
 .rw[rep_int.mp rx,rep_int.mp ry];refine#[rfl,q _ _ F H (Grow.refl fh) h (rep_bl.mpr ?_)];simp
 .rw[rep_bl.mp rx,rep_bl.mp ry];refine#[rfl,q _ _ F H (Grow.refl fh) h (rep_bl.mpr ?_)];simp
 .rw[rep_str.mp rx,rep_str.mp ry];refine#[rfl,q _ _ F H (Grow.refl fh) h (rep_bl.mpr ?_)];simp
 .rw[rep_non.mp rx,rep_non.mp ry];refine#[rfl,q _ _ F H (Grow.refl fh) h (rep_bl.mpr ?_)];simp
 .exact h.elim
def cY[Jx](ha:WDE X a ta)(hb:WDE X b tb):WDE X (.Compare a [.Eq] [b] pos) (dOp rdEq ta tb):=#[have ha:=ha.out;have hb:=hb.out;jt je ju ha hb (nomark _)]
def qS:D->Bool|.non=>true|_=>false
def rdIs(f:Bool->Bool):RD2:=λx y R=>match y with|.non=>R (.bl (f (qS x)))|_=>False
def qT{H:Hp}{x:D}{u:V}(r:Rep K H x u):decide (u=.non)=qS x:=by
 cases x with
 |non=>rw[rep_non.mp r];rfl
 |bl b=>rw[rep_bl.mp r];rfl
 |int b=>rw[rep_int.mp r];rfl
 |str b=>rw[rep_str.mp r];rfl
 |tup b=>obtain⟨a,vs,rfl,_⟩:=rep_tup_mp r;rfl
 |lst b=>obtain⟨a,vs,rfl,_⟩:=rep_lst.mp r;rfl
 |rol b=>obtain⟨a,vs,rfl,_⟩:=rep_rol.mp r;rfl
 |obj C b=>obtain⟨a,C,dx,vs,rfl,_⟩:=rep_obj.mp r;rfl
 |exc C b=>obtain⟨a,C,od,vs,rfl,_⟩:=rep_exc.mp r;rfl
 |own b=>exact absurd r rep_own
 |ptr b=>rw[rep_ptr.mp r];rfl
 |dti b=>obtain⟨a,rfl,_⟩:=rep_dti.mp r;rfl
def jv:aY K (λx y H Q=>y=.non/\Q (.bl (decide (x=.non))) H) (rdIs id):=by
 intro x y u v F H R Q fh h rx ry q;unfold rdIs at h;split at h
 .exact#[rep_non.mp ry,q _ _ F H (Grow.refl fh) h (rep_bl.mpr (by rw[qT rx];rfl))]
 .exact h.elim
def xM:aY K (λx y H Q=>y=.non/\Q (.bl (!decide (x=.non))) H) (rdIs not):=by
 intro x y u v F H R Q fh h rx ry q;unfold rdIs at h;split at h
 .exact#[rep_non.mp ry,q _ _ F H (Grow.refl fh) h (rep_bl.mpr (by rw[qT rx]))]
 .exact h.elim
def qU[Jx](ha:WDE X a ta)(hb:WDE X b tb):WDE X (.Compare a [.Is] [b] pos) (dOp (rdIs id) ta tb):=#[have ha:=ha.out;have hb:=hb.out;jt jg jv ha hb (nomark _)]
def rdIx:RD2:=λx y R=>match x,y with
 |.tup ds,.int i=>∃d,atI ds i=be d/\R d
 |.lst ds,.int i=>∃d,atI ds i=be d/\R d
 |.rol ds,.int i=>∃d,atI ds i=be d/\R d
 |.str x,.int i=>∃c,(x.length<=1000000/\atI x.cps.toList i=be c)/\R (.str #[[c].toArray])
 |_,_=>False
def Reps.at{H:Hp}{ds:List D}{vs:List V}{i:Int}{d:D}(r:Reps K H ds vs)(e:atI ds i=be d):∃v,atI vs i=be v/\Rep K H d v:=by
 unfold atI at e ⊢;rw[r.length];cases q:ixN ds.length i with
 |none=>rw[q]at e;cases e
 |some j=>
  rw[q]at e;exact r.get e
def qV:aY K (rIx K) rdIx:=by
 intro x y u v F H R Q fh h rx ry q;unfold rdIx at h;split at h
 .obtain⟨d,e,h⟩:=h;obtain⟨a,vs,e1,hq,rs⟩:=rep_tup_mp rx;obtain⟨w,e2,g9⟩:=rs.at e;exact .inr (.inl #[a,vs,_,w,e1,rep_int.mp ry,fh.tup hq,e2,q d w F H (Grow.refl fh) h g9])
 .obtain⟨d,e,h⟩:=h;obtain⟨a,vs,e1,hq,rs⟩:=rep_lst.mp rx;obtain⟨w,e2,g9⟩:=rs.at e;exact .inl #[a,vs,_,w,e1,rep_int.mp ry,fh.seq (SqL.of hq),e2,q d w F H (Grow.refl fh) h g9]
 .obtain⟨d,e,h⟩:=h;obtain⟨a,vs,e1,hq,rs⟩:=rep_rol.mp rx;obtain⟨w,e2,g9⟩:=rs.at e;exact .inl #[a,vs,_,w,e1,rep_int.mp ry,fh.seq hq,e2,q d w F H (Grow.refl fh) h g9]
 .obtain⟨c,⟨hz,e⟩,h⟩:=h;exact .inr (.inr #[_,_,c,rep_str.mp rx,rep_int.mp ry,Fh hz y8,e,q _ _ F H (Grow.refl fh) h (rep_str.mpr rfl)])
 .exact h.elim
def af[Jx](ha:WDE X a ta)(hb:WDE X b tb)(hs:autoParam (dH b) zA6):WDE X (.Subscript a b pos) (dOp rdIx ta tb):=#[have ha:=ha.out;have hb:=hb.out;xA qw qV ha hb hs]
def dUn(r:D->(D->Prop)->Prop)(ta:TD):TD:=λz R=>ta z λx=>r x R
def qW:D->(D->Prop)->Prop:=λx R=>match x with|.int i=>R (.int (-i))|_=>False
def bY[Jx](ha:WDE X a ta):WDE X (.UnaryOp .USub a pos) (dUn qW ta):=⟨have ha:=ha.out;(vM vS ha).anti λs H Q h=>by
 obtain⟨B,F,z,kf,rs,R,h1,h2⟩:=h;have fh:=kf.fh;refine#[B,F,z,kf,rs,_,h1,λx u F1 H1 g1 hx rx=>?_];unfold qW at hx;split at hx
 .exact#[_,rep_int.mp rx,h2 _ _ F1 H1 g1 hx (rep_int.mpr rfl)]
 .exact hx.elim⟩
def dNil:TDA:=λ_ R=>R []
def xN(ta:TD)(tr:TDA):TDA:=λz R=>ta z λx=>tr z λxs=>R (x::xs)
def ae[Jx]:WDA X [] dNil:=⟨pa_nil.anti λs H Q h=>by
 obtain⟨B,F,z,kf,rs,R,h1,h2⟩:=h;have fh:=kf.fh;exact h2 [] [] F H (Grow.refl fh) h1 (reps_nil.mpr rfl)⟩
variable{es:List QG}{t:TDA}
def ac[Jx]{te:TD}(ha:WDE X e te)(hr:WDA X es t)(hs:autoParam (zSE X e es) zA0):WDA X (e::es) (xN te t):=⟨have ha:=ha.out;have hr:=hr.out;(bz ha hr hs).anti λs H Q h=>by
 obtain⟨B,F,z,kf,rs,R,h1,h2⟩:=h;have fh:=kf.fh;refine#[B,F,z,kf,rs,_,h1,λx u F1 H1 g1 hx rx=>?_];refine#[B,F1,z,kf.grow g1,rs.grow g1,_,hx,λxs us F2 H2 g2 hy ry=>?_];exact h2 _ _ F2 H2 (g1.trans g2) hy (reps_cons.mpr #[_,_,rfl,rx.mono g2.ff,ry])⟩
def dTup(t:TDA):TD:=λz R=>t z λxs=>xs.length<=1000/\R (.tup xs)
def dLst(t:TDA):TD:=λz R=>t z λxs=>xs.length<=1000/\R (.lst xs)
def au[Jx]{x1}(h:WDA X es t):WDE X (.Tuple es x1 pos) (dTup t):=⟨have h:=h.out;(qh h).anti λs H Q q=>by
 obtain⟨B,F,z,kf,rs,R,h1,h2⟩:=q;have fh:=kf.fh;refine#[B,F,z,kf,rs,_,h1,λds vs F1 H1 g1 hx rx=>?_];have hl:=rx.length;refine#[sz (by rw[hl];exact hx.1),λp hp=>?_];exact h2 _ _ _ _ (g1.trans (Grow.new g1.fh hp _)) hx.2 (rep_tupS.mpr #[p,vs,rfl,aG,rx.mono (aO (g1.fh.free hp) _)])⟩
def aH[Jx](h:WDA X es t):WDE X (.List es pos) (dLst t):=⟨have h:=h.out;(jj h).anti λs H Q q=>by
 obtain⟨B,F,z,kf,rs,R,h1,h2⟩:=q;have fh:=kf.fh;refine#[B,F,z,kf,rs,_,h1,λds vs F1 H1 g1 hx rx=>?_];have hl:=rx.length;refine#[sz (by rw[hl];exact hx.1),λp hp=>?_];exact h2 _ _ _ _ (g1.trans (Grow.new g1.fh hp _)) hx.2 (rep_lst.mpr #[p,vs,rfl,aG,rx.mono (aO (g1.fh.free hp) _)])⟩
abbrev SpD:=List D->(D->Prop)->Prop
def lSp(K:Ex)(S:SpD):Sp:=λvs H Q _=>∃F ds,Same F H/\Reps K F ds vs/\∃R:D->Prop,S ds R/\∀d v F' H',Grow F H F' H'->R d->Rep K F' d v->Q v H'
def xO(S:SpD)(t:TDA):TD:=λz R=>t z λds=>S ds R
abbrev CalD(P:QH)(w:QL)(K:Ex)(mg:t6->Option KB)(base:QN)(n:Nat)(x:t6)(ps:List t6)(S:SpD):Prop:=Cal P w K mg base n x ps (lSp K S)
variable{p:QT}
def ao[Jx]{n m:Nat}{ps:List t6}{S:SpD}(C:CalD X.prog X.w X.K X.mg X.base n x ps S)(hr:Room m X.A)(ha:WDA X (e::es) t)(hg:autoParam (Gl X x) zA0)(hn:autoParam (n<=m) zA1)(d9:autoParam (zND x) zA1)
  (he:autoParam (zSE X e es) zA0) (c9:autoParam (zPL X pos es) zA0):WDE X (.Call (.Name x p) (e::es) [] pos) (xO S t):=⟨have ha:=ha.out;(xz C hr ha hg hn d9 he c9).anti λs H Q h=>by
 obtain⟨B,F,z,kf,rs,R,h1,h2⟩:=h;have fh:=kf.fh;refine#[B,F,z,kf,rs,_,h1,λds vs F1 H1 g1 hx rx=>?_];exact#[F1,ds,g1.fh,by rw[FN];exact rx,R,hx,λd v F' H' g=>h2 d v F' H' (g1.trans g)]⟩
abbrev RDn:=List D->(D->Prop)->Prop
def ca(K:Ex)(r:List V->Hp->VK->Prop)(rd:RDn):Prop:=∀ds vs F H R Q,Same F H->rd ds R->Reps K F ds vs->(∀d w F' H',Grow F H F' H'->R d->Rep K F' d w->Q w H')->r vs H Q
def dCB(r:RDn)(t:TDA):TD:=λz R=>t z λds=>r ds R
def fX[Jx]{id:String}{r:List V->Hp->VK->Prop}{rd:RDn}(hc:bC X (.builtin id) r)(L:ca X.K r rd)(hm:X.mg x=m_)(hv:QZ x=be (.builtin id))(ha:DA X (e::es) t)(hg:autoParam (Gl X x) zA0)(hn:autoParam (x≠"__name__") zA1)(d9:autoParam (zND x) zA1)
  (he:autoParam (zSE X e es) zA0) (c9:autoParam (zPL X pos es) zA0):DE X (.Call (.Name x p) (e::es) [] pos) (dCB rd t):=(fS hc hg hm hv ha hn d9 he c9).anti λs H Q h=>by
 obtain⟨B,F,z,kf,rs,R,h1,h2⟩:=h;have fh:=kf.fh;refine#[B,F,z,kf,rs,_,h1,λds vs F1 H1 g1 hx rx=>?_];exact L ds vs F1 H1 R Q g1.fh hx rx λd w F' H' g=>h2 d w F' H' (g1.trans g)
def rdLen:RDn:=λds R=>match ds with
 |[.tup xs]=>R (.int xs.length)
 |[.lst xs]=>R (.int xs.length)
 |[.rol xs]=>R (.int xs.length)
 |[.str x]=>x.length<=1000000/\R (.int x.length)
 |_=>False
def qX:ca K (λxs H Q=>∃x n,xs=[x]/\LenV K x H n/\Q (.int n) H) rdLen:=by
 intro ds vs F H R Q fh h rx q;unfold rdLen at h;split at h
 .obtain⟨v,r,rfl,h1,h2⟩:=reps_cons.mp rx;rw[reps_nil.mp h2];obtain⟨a,us,rfl,hq,rs⟩:=rep_tup_mp h1;exact#[.ref a,us.length,rfl,.inr #[us,fh.tup hq,rfl],q _ _ F H (Grow.refl fh) h (rep_int.mpr (by rw[rs.length]))]
 .obtain⟨v,r,rfl,h1,h2⟩:=reps_cons.mp rx;rw[reps_nil.mp h2];obtain⟨a,us,rfl,hq,rs⟩:=rep_lst.mp h1;exact#[.ref a,us.length,rfl,.inl #[us,fh.seq (SqL.of hq),rfl],q _ _ F H (Grow.refl fh) h (rep_int.mpr (by rw[rs.length]))]
 .obtain⟨v,r,rfl,h1,h2⟩:=reps_cons.mp rx;rw[reps_nil.mp h2];obtain⟨a,us,rfl,hq,rs⟩:=rep_rol.mp h1;exact#[.ref a,us.length,rfl,.inl #[us,fh.seq hq,rfl],q _ _ F H (Grow.refl fh) h (rep_int.mpr (by rw[rs.length]))]
 .obtain⟨v,r,rfl,h1,h2⟩:=reps_cons.mp rx;rw[reps_nil.mp h2,rep_str.mp h1];exact#[.str _,_,rfl,#[Fh h.1 y8,rfl],q _ _ F H (Grow.refl fh) h.2 (rep_int.mpr rfl)]
 .exact h.elim
def ck[Jx](hm:X.mg "len"=m_)(ha:WDA X [e] t)(hg:autoParam (Gl X "len") zA0)(he:autoParam (zSE X e []) zA0):WDE X (.Call (.Name "len" p) [e] [] pos) (dCB rdLen t):=#[have ha:=ha.out;fX jh qX hm PySem.boot_len ha hg y8 y8 he]
def rdAbs:RDn:=λds R=>match ds with
 |[.int i]=>R (.int (if i<0 then -i else i))
 |_=>False
def xP:ca K (λxs H Q=>∃i,xs=[.int i]/\Q (.int (if i<0 then -i else i)) H) rdAbs:=by
 intro ds vs F H R Q fh h rx q;unfold rdAbs at h;split at h
 .obtain⟨v,r,rfl,h1,h2⟩:=reps_cons.mp rx;rw[reps_nil.mp h2,rep_int.mp h1];exact#[_,rfl,q _ _ F H (Grow.refl fh) h (rep_int.mpr rfl)]
 .exact h.elim
def dL[Jx](hm:X.mg "abs"=m_)(ha:WDA X [e] t)(hg:autoParam (Gl X "abs") zA0)(he:autoParam (zSE X e []) zA0):WDE X (.Call (.Name "abs" p) [e] [] pos) (dCB rdAbs t):=#[have ha:=ha.out;fX wj xP hm PyProof.Rows.boot_abs ha hg y8 y8 he]
end
section
variable {X:Cx}{a b c e:QG}{ta tb tc te:TD}{pos:QT}
def dTst(t:TD):TDT:=λz R=>t z λx=>match x with|.bl k=>R k|_=>False
def cM[Jx]{op:Sq}{r:R2}{rd:RD2}(ho:OpR X (QW op) r)(L:aY X.K r rd)(ha:DE X a ta)(hb:DE X b tb)(hm:Q6 op b=false):DT X (.Compare a [op] [b] pos) (dTst (dOp rd ta tb)):=(qa ho ha hb hm).anti λs H Q q=>by
 obtain⟨B,F,z,kf,rs,R,h1,h2⟩:=q;have fh:=kf.fh;refine#[B,F,z,kf,rs,_,h1,λx u F1 H1 g1 hx rx=>?_];refine#[B,F1,z,kf.grow g1,rs.grow g1,_,hx,λy v F2 H2 g2 hy ry=>?_];refine L x y u v F2 H2 _ _ g2.fh hy (rx.mono g2.ff) ry λd w F' H' g3 hd rd=>?_;split at hd
 .exact#[_,rep_bl.mp rd,h2 _ F' H' (g1.trans (g2.trans g3)) hd]
 .exact hd.elim
def fj[Jx](ha:WDE X a ta)(hb:WDE X b tb):WDT X (.Compare a [.Lt] [b] pos) (dTst (dOp rdLt ta tb)):=#[have ha:=ha.out;have hb:=hb.out;cM pZ qR ha hb (nomark _)]
def jw[Jx](ha:WDE X a ta)(hb:WDE X b tb):WDT X (.Compare a [.LtE] [b] pos) (dTst (dOp rdLe ta tb)):=#[have ha:=ha.out;have hb:=hb.out;cM vU xI ha hb (nomark _)]
def fk[Jx](ha:WDE X a ta)(hb:WDE X b tb):WDT X (.Compare a [.Gt] [b] pos) (dTst (dOp rdGt ta tb)):=#[have ha:=ha.out;have hb:=hb.out;cM vV xJ ha hb (nomark _)]
def qY[Jx](ha:WDE X a ta)(hb:WDE X b tb):WDT X (.Compare a [.GtE] [b] pos) (dTst (dOp rdGe ta tb)):=#[have ha:=ha.out;have hb:=hb.out;cM vW xK ha hb (nomark _)]
def aV[Jx](ha:WDE X a ta)(hb:WDE X b tb):WDT X (.Compare a [.Eq] [b] pos) (dTst (dOp rdEq ta tb)):=#[have ha:=ha.out;have hb:=hb.out;cM je ju ha hb (nomark _)]
def bK[Jx](ha:WDE X a ta)(hb:WDE X b tb):WDT X (.Compare a [.NotEq] [b] pos) (dTst (dOp rdNe ta tb)):=#[have ha:=ha.out;have hb:=hb.out;cM vT xL ha hb (nomark _)]
def fY[Jx](ha:WDE X a ta)(hb:WDE X b tb):WDT X (.Compare a [.Is] [b] pos) (dTst (dOp (rdIs id) ta tb)):=#[have ha:=ha.out;have hb:=hb.out;cM jg jv ha hb (nomark _)]
def qZ[Jx](ha:WDE X a ta)(hb:WDE X b tb):WDT X (.Compare a [.IsNot] [b] pos) (dTst (dOp (rdIs not) ta tb)):=#[have ha:=ha.out;have hb:=hb.out;cM vX xM ha hb (nomark _)]
def dTru(t:TD):TDT:=λz R=>t z λx=>match x with
 |.non=>R false
 |.bl k=>R k
 |.int i=>R (i !=0)
 |.str y=>y.length<=1000/\R ((y.length:Int) !=0)
 |.tup xs=>R (!xs.isEmpty)
 |.lst xs=>R (!xs.isEmpty)
 |.rol xs=>R (!xs.isEmpty)
 |_=>False
variable{K:Ex}
def Reps.isEmpty{H:Hp}{ds:List D}{vs:List V}(r:Reps K H ds vs):vs.isEmpty=ds.isEmpty:=by
 cases ds with
 |nil=>rw[reps_nil.mp r];rfl
 |cons d ds=>obtain⟨v,r',rfl,_⟩:=reps_cons.mp r;rfl
def bD[Jx](ha:WDE X a ta)(he:autoParam (∀gt,isTrue a X.env gt=(do let v <-gt;RC a.pos;Rr [v] (truthy v))) zA2):WDT X a (dTru ta):=⟨have ha:=ha.out;(we ha he).anti λs H Q q=>by
 obtain⟨B,F,z,kf,rs,R,h1,h2⟩:=q;have fh:=kf.fh;refine#[B,F,z,kf,rs,_,h1,λx u F1 H1 g1 hx rx=>?_];split at hx
 .rw[rep_non.mp rx];exact#[false,rfl,h2 _ F1 H1 g1 hx]
 .rw[rep_bl.mp rx];exact#[_,rfl,h2 _ F1 H1 g1 hx]
 .rw[rep_int.mp rx];exact#[_,rfl,h2 _ F1 H1 g1 hx]
 .rw[rep_str.mp rx];exact#[_,#[sz hx.1,rfl],h2 _ F1 H1 g1 hx.2]
 .obtain⟨p,vs,rfl,hq,rr⟩:=rep_tup_mp rx;exact#[_,.inr (.inl #[vs,g1.fh.tup hq,by rw[rr.isEmpty]]),h2 _ F1 H1 g1 hx]
 .obtain⟨p,vs,rfl,hq,rr⟩:=rep_lst.mp rx;exact#[_,.inl #[vs,g1.fh.seq (SqL.of hq),by rw[rr.isEmpty]],h2 _ F1 H1 g1 hx]
 .obtain⟨p,vs,rfl,hq,rr⟩:=rep_rol.mp rx;exact#[_,.inl #[vs,g1.fh.seq hq,by rw[rr.isEmpty]],h2 _ F1 H1 g1 hx]
 .exact hx.elim⟩
variable {tA y7:TDT}{rest:List QG}
def dAnd(t u:TDT):TDT:=λz R=>t z λc=>if c=true then u z R else R false
def dOr(t u:TDT):TDT:=λz R=>t z λc=>if c=true then R true else u z R
def dNot(t:TDT):TDT:=λz R=>t z λc=>R (!c)
def jx[Jx](ha:WDT X a tA):WDW X (.BoolOp .And [a] pos) tA:=#[have ha:=ha.out;pF ha]
def dM[Jx](ha:WDT X a tA):WDW X (.BoolOp .Or [a] pos) tA:=#[have ha:=ha.out;pG ha]
def jy[Jx](ha:WDT X a tA)(hb:WDW X (.BoolOp .And (b::rest) pos) y7):WDW X (.BoolOp .And (a::b::rest) pos) (dAnd tA y7):=⟨have ha:=ha.out;have hb:=hb.out;(pH ha hb).anti λs H Q q=>by
 obtain⟨B,F,z,kf,rs,R,h1,h2⟩:=q;have fh:=kf.fh;refine#[B,F,z,kf,rs,_,h1,λk F1 H1 g1 hx=>?_];cases k with
 |true=>exact#[B,F1,z,kf.grow g1,rs.grow g1,R,hx,λb F' H' g=>h2 b F' H' (g1.trans g)]
 |false=>exact h2 _ F1 H1 g1 hx⟩
def cE[Jx](ha:WDT X a tA)(hb:WDW X (.BoolOp .Or (b::rest) pos) y7):WDW X (.BoolOp .Or (a::b::rest) pos) (dOr tA y7):=⟨have ha:=ha.out;have hb:=hb.out;(pI ha hb).anti λs H Q q=>by
 obtain⟨B,F,z,kf,rs,R,h1,h2⟩:=q;have fh:=kf.fh;refine#[B,F,z,kf,rs,_,h1,λk F1 H1 g1 hx=>?_];cases k with
 |false=>exact#[B,F1,z,kf.grow g1,rs.grow g1,R,hx,λb F' H' g=>h2 b F' H' (g1.trans g)]
 |true=>exact h2 _ F1 H1 g1 hx⟩
def cF[Jx](h:WDW X a tA):WDT X a tA:=#[have h:=h.out;PW.pt h]
def cx[Jx](ha:WDT X a tA):WDT X (.UnaryOp .Not a pos) (dNot tA):=⟨have ha:=ha.out;(vk ha).anti λs H Q q=>by
 obtain⟨B,F,z,kf,rs,R,h1,h2⟩:=q;have fh:=kf.fh;exact#[B,F,z,kf,rs,_,h1,λk F1 H1 g1 hx=>h2 _ F1 H1 g1 hx]⟩
def xQ(ta tb:TD):TD:=λz R=>ta z λx=>match x with|.bl k=>if k=true then tb z R else R (.bl false)|_=>False
def xR(ta:TD):TD:=λz R=>ta z λx=>match x with|.bl k=>R (.bl (!k))|_=>False
def fZ[Jx]{op}(h:WDE X a ta):WDE X (.BoolOp op [a] pos) ta:=#[have h:=h.out;vo h]
def gb[Jx](ha:WDE X a ta)(hb:WDE X (.BoolOp .And (b::rest) pos) tb):WDE X (.BoolOp .And (a::b::rest) pos) (xQ ta tb):=⟨have ha:=ha.out;have hb:=hb.out;(vp ha hb).anti λs H Q q=>by
 obtain⟨B,F,z,kf,rs,R,h1,h2⟩:=q;have fh:=kf.fh;refine#[B,F,z,kf,rs,_,h1,λx u F1 H1 g1 hx rx=>?_];split at hx
 .rename_i k;refine#[k,rep_bl.mp rx,?_];cases k with
  |true=>exact#[B,F1,z,kf.grow g1,rs.grow g1,R,hx,λd v F' H' g=>h2 d v F' H' (g1.trans g)]
  |false=>exact h2 _ _ F1 H1 g1 hx (rep_bl.mpr rfl)
 .exact hx.elim⟩
def xS[Jx](ha:WDE X a ta):WDE X (.UnaryOp .Not a pos) (xR ta):=⟨have ha:=ha.out;(vq ha).anti λs H Q q=>by
 obtain⟨B,F,z,kf,rs,R,h1,h2⟩:=q;have fh:=kf.fh;refine#[B,F,z,kf,rs,_,h1,λx u F1 H1 g1 hx rx=>?_];split at hx
 .exact#[_,rep_bl.mp rx,h2 _ _ F1 H1 g1 hx (rep_bl.mpr rfl)]
 .exact hx.elim⟩
def tyD:D->String
 |.non=>"NoneType"|.bl _=>"bool"|.int _=>"int"|.str _=>"str"|.tup _=>"tuple"|.lst _=>"list"|.rol _=>"list"|.obj _ _=>"object"|.exc _ _=>"object"|.own _=>"list"|.ptr _=>"object"|.dti _=>"dict"
def cZ(t:String)(x:D):Bool:=tyD x==t||(tyD x=="bool" && t=="int")
def TyQ(K:Ex)(H:Hp)(x:V)(t:String):Prop:=TyOf K H x (.type t)\/(t="tuple"/\∃a xs,x=.ref a/\SqT K H a xs)\/(t="list"/\∃a xs,x=.ref a/\SqL K H a xs)
def xT:bC X (.builtin "isinstance") (λxs H Q=>∃x t c k,xs=[x,.ty c]/\TyQ X.K H x t/\kitOne X.K (.type t) (.type c)=be k/\Q (.bl k) H):=by
 intro pins s σ H xs us Q I r h;obtain⟨x,t,c,k,rfl,ty,e,q⟩:=h;obtain⟨u,u',rfl,rx,rc⟩:=fP r;cases(show u'=Value.type c from rc);rcases ty with ty|⟨rfl,a,ys,rfl,hq⟩|⟨rfl,a,ys,rfl,hq⟩
 .exact wA I rx ty e λtk=>#[.bl k,H,I.tok _,rfl,q]
 .cases(show u=Value.ref a from rx);obtain⟨its,_,⟨o,h1,h2,_⟩,_⟩:=I.tuple hq;exact kia_one kitx_tuple I.kIn #[o,h1,h2] e (λz=>nomatch z) λtk=>#[.bl k,H,I.tok _,rfl,q]
 .cases(show u=Value.ref a from rx);obtain⟨its,_,pl,_⟩:=I.list hq;obtain⟨o,n,h1,h2,_⟩:=pl;exact kia_one kitx_list I.kIn #[o,h1,h2] e (λz=>nomatch z) λtk=>#[.bl k,H,I.tok _,rfl,q]
def db:D->Bool|.obj _ _=>false|.exc _ _=>false|.ptr _=>false|.dti _=>false|_=>true
def xU{F H:Hp}{x:D}{u:V}(fh:Same F H)(r:Rep K F x u)(no:db x=true):TyQ K H u (tyD x):=by
 cases x with
 |non=>rw[rep_non.mp r];exact .inl .non
 |bl b=>rw[rep_bl.mp r];exact .inl (.bl b)
 |int b=>rw[rep_int.mp r];exact .inl (.int b)
 |str b=>rw[rep_str.mp r];exact .inl (.str b)
 |tup b=>obtain⟨a,vs,rfl,hq,_⟩:=rep_tup_mp r;exact .inr (.inl #[rfl,a,vs,rfl,fh.tup hq])
 |lst b=>obtain⟨a,vs,rfl,hq,_⟩:=rep_lst.mp r;exact .inr (.inr #[rfl,a,vs,rfl,fh.seq (SqL.of hq)])
 |rol b=>obtain⟨a,vs,rfl,hq,_⟩:=rep_rol.mp r;exact .inr (.inr #[rfl,a,vs,rfl,fh.seq hq])
 |obj C b=>cases no
 |exc C b=>cases no
 |ptr b=>cases no
 |dti b=>cases no
 |own b=>exact absurd r rep_own
def xV(t:String):D->(D->Prop)->Prop:=λx R=>match x with|.obj _ _=>False|.exc _ _=>False|.ptr _=>False|.dti _=>False|x=>R (.bl (cZ t x))
def de[Jx]{p p2:QT}{y:t6}{t:String}(hm:X.mg "isinstance"=m_)(OP:X.mg y=m_)(ha:WDE X a ta)(hv:QZ y=be (.type t))
  (hk:∀x:D,db x=true->kitOne X.K (.type (tyD x)) (.type t)=be (cZ t x)) (hg:autoParam (Gl X "isinstance") zA0) (OQ:autoParam (Gl X y) zA0) (hn:autoParam (y≠"__name__") zA1) (d9:autoParam (zND y) zA1)
  (k6:autoParam (QP [a,.Name y p2] X.env=(false,QS a X.env)::QP [.Name y p2] X.env) zA0) (j3:autoParam (QP [.Name y p2] X.env=(false,QS (.Name y p2) X.env)::QP [] X.env) zA0) (c9:autoParam ((Rm pos (QP [.Name y p2] X.env)).any (·.1)=false) zA0):WDE X (.Call (.Name "isinstance" p) [a,.Name y p2] [] pos) (dUn (xV t) ta):=⟨have ha:=ha.out;(fS xT hg hm PyProof.Rows.boot_isinstance (bz ha (bz (vj (v:=.ty t) OQ OP hv rfl hn d9) pa_nil j3) k6) y8 y8 k6 c9).anti λs H Q q=>by
 obtain⟨B,F,z,kf,rs,R,h1,h2⟩:=q;have fh:=kf.fh;refine#[B,F,z,kf,rs,_,h1,λx u F1 H1 g1 hx rx=>?_];have no:db x=true:=by
  cases x with
  |obj C b=>exact False.elim hx
  |exc C b=>exact False.elim hx
  |ptr b=>exact False.elim hx
  |dti b=>exact False.elim hx
  |_=>rfl
 have gV:R (.bl (cZ t x)):=by
  cases x with
  |obj C b=>exact False.elim hx
  |exc C b=>exact False.elim hx
  |ptr b=>exact False.elim hx
  |dti b=>exact False.elim hx
  |_=>exact hx
 exact#[u,tyD x,t,_,rfl,xU g1.fh rx no,hk x no,h2 _ _ F1 H1 g1 gV (rep_bl.mpr rfl)]⟩
def xW:∀x:D,db x=true->kitOne K (.type (tyD x)) (.type "int")=be (cZ "int" x):=by intro x no;cases x<;>first|rfl|cases no
def kit_bool:∀x:D,db x=true->kitOne K (.type (tyD x)) (.type "bool")=be (cZ "bool" x):=by intro x no;cases x<;>first|rfl|cases no
def kit_tuple:∀x:D,db x=true->kitOne K (.type (tyD x)) (.type "tuple")=be (cZ "tuple" x):=by intro x no;cases x<;>first|rfl|cases no
def kit_str:∀x:D,db x=true->kitOne K (.type (tyD x)) (.type "str")=be (cZ "str" x):=by intro x no;cases x<;>first|rfl|cases no
def toV:D->Option V
 |.non=>be .non|.bl b=>be (.bl b)|.int i=>be (.int i)|.str x=>be (.str x)|_=>m_
def bo(d:D):Bool:=(toV d).isSome
def eqF:D->D->Bool
 |.non,.non=>true
 |.bl a,.bl b=>a==b
 |.bl a,.int b=>(if a then 1 else 0)==b
 |.int a,.bl b=>a==(if b then 1 else 0)
 |.int a,.int b=>a==b
 |.str a,.str b=>a==b
 |_,_=>false
def eqFs:List D->List D->Bool
 |[],[]=>true
 |x::xs,y::ys=>eqF x y&&eqFs xs ys
 |_,_=>false
end
section
variable {X:Cx}{a b:QG}{ta tb:TD}{pos:QT}
def eqVs:List V->List V->Bool
 |[],[]=>true
 |x::xs,y::ys=>eqV x y&&eqVs xs ys
 |_,_=>false
def gc:∀(xs ys:List V),((E7 (min xs.length ys.length)).all (λj=>eqV (xs.getD j .non) (ys.getD j .non))&&xs.length==ys.length)=eqVs xs ys
 |[],[]=>rfl
 |[],_::_=>by simp[eqVs]
 |_::_,[]=>by simp[eqVs]
 |x::xs,y::ys=>by
  have ih:=gc xs ys;rw[eqVs,<-ih];have e:min (x::xs).length (y::ys).length=min xs.length ys.length+1:=by simp only[Fe];lia
  rw[e,HD,FO,G7];have e2:((x::xs).length==(y::ys).length)=(xs.length==ys.length):=IV
  rw[e2,Bool.and_assoc];rfl
variable{xs:List V}
def Vals.getD{us:List KB}{j:Nat}(r:Vals xs us)(h:j<us.length):RelV (xs.getD j .non) us[j]:=by
 have hl:=L2.Vals.length r;obtain⟨u,q1,q2⟩:=L2.Vals.get (i:=j) (x:=xs.getD j .non) r (by rw[Fo t8];simp[FL,Fo (show j<xs.length by lia)]);rw[Fo h]at q1;cases q1;exact q2
def flat_getD{j:Nat}(h:xs.all bp=true):bp (xs.getD j .non)=true:=by
 by_cases hj:j<xs.length
 .have q:=FP.mp h xs[j] (FC hj);simpa[FL,Fo hj]using q
 .simp[FL,FQ (Gw hj),bp]
def jz{K:Ex}{H:Hp}{x y:D}{u v:V}(rx:Rep K H x u)(ry:Rep K H y v)(fx:bo x=true)(fy:bo y=true):eqV u v=eqF x y:=by
 cases x with
 |tup _=>cases fx
 |lst _=>cases fx
 |rol _=>cases fx
 |obj _ _=>cases fx
 |exc _ _=>cases fx
 |ptr _=>cases fx
 |dti _=>cases fx
 |own _=>cases fx
 |non=>rw[rep_non.mp rx];cases y with
  |tup _=>cases fy
  |lst _=>cases fy
  |rol _=>cases fy
  |obj _ _=>cases fy
  |exc _ _=>cases fy
  |ptr _=>cases fy
  |dti _=>cases fy
  |own _=>cases fy
  |non=>rw[rep_non.mp ry];rfl
  |bl _=>rw[rep_bl.mp ry];rfl
  |int _=>rw[rep_int.mp ry];rfl
  |str _=>rw[rep_str.mp ry];rfl
 |bl _=>rw[rep_bl.mp rx];cases y with
  |tup _=>cases fy
  |lst _=>cases fy
  |rol _=>cases fy
  |obj _ _=>cases fy
  |exc _ _=>cases fy
  |ptr _=>cases fy
  |dti _=>cases fy
  |own _=>cases fy
  |non=>rw[rep_non.mp ry];rfl
  |bl _=>rw[rep_bl.mp ry];rfl
  |int _=>rw[rep_int.mp ry];rfl
  |str _=>rw[rep_str.mp ry];rfl
 |int _=>rw[rep_int.mp rx];cases y with
  |tup _=>cases fy
  |lst _=>cases fy
  |rol _=>cases fy
  |obj _ _=>cases fy
  |exc _ _=>cases fy
  |ptr _=>cases fy
  |dti _=>cases fy
  |own _=>cases fy
  |non=>rw[rep_non.mp ry];rfl
  |bl _=>rw[rep_bl.mp ry];rfl
  |int _=>rw[rep_int.mp ry];rfl
  |str _=>rw[rep_str.mp ry];rfl
 |str _=>rw[rep_str.mp rx];cases y with
  |tup _=>cases fy
  |lst _=>cases fy
  |rol _=>cases fy
  |obj _ _=>cases fy
  |exc _ _=>cases fy
  |ptr _=>cases fy
  |dti _=>cases fy
  |own _=>cases fy
  |non=>rw[rep_non.mp ry];rfl
  |bl _=>rw[rep_bl.mp ry];rfl
  |int _=>rw[rep_int.mp ry];rfl
  |str _=>rw[rep_str.mp ry];rfl
def dN{K:Ex}{H:Hp}{x:D}{u:V}(rx:Rep K H x u)(fx:bo x=true):bp u=true:=by
 cases x with
 |tup _=>cases fx
 |lst _=>cases fx
 |rol _=>cases fx
 |obj _ _=>cases fx
 |exc _ _=>cases fx
 |ptr _=>cases fx
 |dti _=>cases fx
 |own _=>cases fx
 |non=>rw[rep_non.mp rx];rfl
 |bl _=>rw[rep_bl.mp rx];rfl
 |int _=>rw[rep_int.mp rx];rfl
 |str _=>rw[rep_str.mp rx];rfl
def cN{K:Ex}{H:Hp}:∀{xs:List D} {us:List V},Reps K H xs us->xs.all bo=true->us.all bp=true
 |[],us,r,_=>by rw[reps_nil.mp r];rfl
 |x::xs,us,r,f=>by
  obtain⟨v,vr,rfl,r1,r2⟩:=reps_cons.mp r;rw[FO,Fv]at f ⊢;exact#[dN r1 f.1,cN r2 f.2]
def jA{K:Ex}{H:Hp}:∀{xs ys:List D} {us vs:List V},Reps K H xs us->Reps K H ys vs->xs.all bo=true->ys.all bo=true->eqVs us vs=eqFs xs ys
 |[],[],us,vs,r1,r2,_,_=>by rw[reps_nil.mp r1,reps_nil.mp r2];rfl
 |[],y::ys,us,vs,r1,r2,_,_=>by
  obtain⟨v,vr,rfl,_,_⟩:=reps_cons.mp r2;rw[reps_nil.mp r1];rfl
 |x::xs,[],us,vs,r1,r2,_,_=>by
  obtain⟨v,vr,rfl,_,_⟩:=reps_cons.mp r1;rw[reps_nil.mp r2];rfl
 |x::xs,y::ys,us,vs,r1,r2,f1,f2=>by
  obtain⟨u,ur,rfl,a1,a2⟩:=reps_cons.mp r1;obtain⟨v,vr,rfl,b1,b2⟩:=reps_cons.mp r2;rw[FO,Fv]at f1 f2;rw[eqVs,eqFs,jz a1 b1 f1.1 f2.1,jA a2 b2 f1.2 f2.2]
end
section
variable {X:Cx}{a b c e:QG}{ta tb tc te:TD}{pos:QT}{st:P3}{rest:List P3}{t u:TSD}
def xX:TSD:=λE z=>E.nx z
def dSeq(t u:TSD):TSD:=λE z=>t {E with nx:=u E} z
def aE[Jx]:WDSs X [] xX:=⟨pss_nil.anti λE s H q=>by
 obtain⟨B,F0,F,z,k,rs,ED,h,e⟩:=q;exact e.nx z s F H k h rs⟩
def ag[Jx](h1:WDS X st t)(h2:WDSs X rest u):WDSs X (st::rest) (dSeq t u):=⟨have h1:=h1.out;have h2:=h2.out;(ja h1 h2).anti λE s H q=>by
 obtain⟨B,F0,F,z,k,rs,ED,h,e⟩:=q;exact#[B,F0,F,z,k,rs,{ED with nx:=u ED},h,#[λz' s' F' H' k' hz r'=>#[B,F0,F',z',k',r',ED,hz,e],e.rt,e.bk,e.ct]]⟩
def aj[Jx](h1:WDS X st t):WDSs X [st] t:=#[have h1:=h1.out;pJ h1]
def dFrz(i:Nat)(t:TSD):TSD:=λE z=>match z[i]? with|some (be (.own ds))=>t E (z.set i (be (.lst ds)))|_=>False
def df[Jx](i:Nat){J8:List P3}(h:WDSs X J8 t):WDSs X J8 (dFrz i t):=⟨have h:=h.out;PSs.anti h λE s H q=>by
 obtain⟨B,F0,F,z,k,rs,ED,h,e⟩:=q;unfold dFrz at h;split at h
 .rename_i ds ez;obtain⟨F',k',r'⟩:=rs.freeze k ez;exact#[B,F0,F',_,k',r',ED,h,e]
 .exact h.elim⟩
def dRet(te:TD):TSD:=λE z=>te z E.rt
def ar[Jx](he:WDE X e te):WDS X (.Return (be e) pos) (dRet te):=⟨have he:=he.out;(pL he).anti λE s H q=>by
 obtain⟨B,F0,F,z,k,rs,ED,h,e⟩:=q;exact#[B,F,z,k.kf,rs,_,h,λd v F' H' g hd rd=>e.rt d v F' H' (k.grow g) hd rd]⟩
def dIfS(c:TDT)(t u:TSD):TSD:=λE z=>c z λb=>if b=true then t E z else u E z
variable{l r:List P3}
def ra[Jx]{c:QG}{tc:TDT}(hc:DT X c tc)(ha:DSs X l t)(hb:DSs X r u):DS X (.If c l r pos) (dIfS tc t u):=(pM hc ha hb).anti λE s H q=>by
 obtain⟨B,F0,F,z,k,rs,ED,h,e⟩:=q;refine#[B,F,z,k.kf,rs,_,h,λb F1 H1 g hk=>?_];cases b with
 |true=>exact#[B,F0,F1,z,k.grow g,rs.grow g,ED,hk,e]
 |false=>exact#[B,F0,F1,z,k.grow g,rs.grow g,ED,hk,e]
def dIfJ(c:TDT)(t u:TSD):TSD:=λE z=>∃J:SD->Prop,(c z λb=>if b=true then t {E with nx:=J} z else u {E with nx:=J} z)/\∀z',J z'->E.nx z'
def cG[Jx]{c:QG}{tc:TDT}(hc:WDT X c tc)(ha:WDSs X l t)(hb:WDSs X r u):WDS X (.If c l r pos) (dIfJ tc t u):=⟨have hc:=hc.out;have ha:=ha.out;have hb:=hb.out;(ra hc ha hb).anti λE s H q=>by
 obtain⟨B,F0,F,z,k,rs,ED,⟨J,h,j⟩,e⟩:=q;exact#[B,F0,F,z,k,rs,{ED with nx:=J},h,#[λz' s' F' H' k' hz r'=>e.nx z' s' F' H' k' (j z' hz) r',e.rt,e.bk,e.ct]]⟩
def dSet(i:Nat)(te:TD):TSD:=λE z=>∃P:D->Prop,te z P/\∀d,P d->E.nx (z.set i (be d))
variable{x:t6}
def ai[Jx](i:Nat){c_:QT}(hN:X.N.Nodup)(he:WDE X e te)(hi:autoParam (X.N[i]?=be x) zA0)(hx:autoParam (Loc X.env.scope x) zA4)(hs:autoParam (Q1 e (be (.Name x c_)) pos.line X.env=pure false) zA0)
  (hf:autoParam (zFN X x) zA3):WDS X (.Assign [.Name x c_] e pos) (dSet i te):=⟨have he:=he.out;(fL hN hi hx he hs hf).anti λE s H q=>by
 obtain⟨B,F0,F,z,k,rs,ED,⟨P,h,j⟩,e⟩:=q;exact#[B,F,z,k.kf,rs,P,h,λd v F' H' g hd rd=>e.nx _ _ F' H' (k.grow g) (j d hd) ((rs.grow g).set rd)]⟩
def dNew(i:Nat)(ta:TDA):TSD:=λE z=>ta z λds=>ds.length<=1000/\E.nx (z.set i (be (.own ds)))
variable{es:List QG}
def dO[Jx](i:Nat){c_ p2:QT}{ta:TDA}(hN:X.N.Nodup)(he:WDA X es ta)(hi:autoParam (X.N[i]?=be x) zA0)(hx:autoParam (Loc X.env.scope x) zA4)(hs:autoParam (Q1 (.List es p2) (be (.Name x c_)) pos.line X.env=pure false) zA0)
  (hf:autoParam (zFN X x) zA3):WDS X (.Assign [.Name x c_] (.List es p2) pos) (dNew i ta):=⟨have he:=he.out;(fL hN hi hx (jj he) hs hf).anti λE s H q=>by
 obtain⟨B,F0,F,z,k,rs,ED,h,e⟩:=q;refine#[B,F,z,k.kf,rs,_,h,λds vs F1 H1 g hd rd=>?_];have hl:=rd.length;refine#[sz (by rw[hl];exact hd.1),λp hp=>?_];have k1:=k.grow g;have r1:=rs.grow g;have hB:B p=none:=k1.bh.free hp;have hF:F1 p=none:=k1.fh.free hp;refine e.nx _ _ F1 _ #[k1.bh.trans (aO hp _),k1.fh.trans (aO hp _),k1.f0,k1.out,k1.eb,k1.jf,k1.jo] hd.2 (r1.setOwn hB hF rd λj dj hj e1 e2=>?_);obtain⟨a,us,q1,q2,_⟩:=r1.own j dj e1;rw[e2]at q1;cases q1;rw[hp]at q2;cases q2⟩
def dApp(i:Nat)(te:TD):TSD:=λE z=>match z[i]? with|some (be (.own ds))=>(te z λd=>ds.length<=100000/\E.nx (z.set i (be (.own (ds++[d])))))|_=>False
def dP{K:Ex}{F:Hp}{d:D}{v:V}(r:Rep K F d v):Reps K F [d] [v]:=reps_cons.mpr #[v,[],rfl,r,reps_nil.mpr rfl]
def dg[Jx](i:Nat){p1 apos cpos:QT}(he:WDE X e te)(hN:autoParam (X.N[i]?=be x) zA0)(hv:autoParam (Vis X.env.scope x) zA5)(hd:autoParam (zND x) zA1)
  (g7:autoParam (zNC x) zA1) (k6:autoParam (zSE X e []) zA0)
  (b8:autoParam (QQ (.Name x p1) "append" X.env (QS (.Name x p1) X.env)=QS (.Name x p1) X.env) zA0)
  (d_:autoParam (zHF X cpos [e]) zA0)
  (c5:autoParam ((apos.endLine==cpos.line)=true) zA0) (z9:autoParam (Q1 (.Call (.Attribute (.Name x p1) "append" apos) [e] [] cpos) m_ pos.line X.env=pure false) zA0):WDS X (.Expr (.Call (.Attribute (.Name x p1) "append" apos) [e] [] cpos) pos) (dApp i te):=⟨have he:=he.out;(pK (dI PySem.F.plainAttrs_list PySem.F.slot_list_append PySem.F.type_list_append jp (eU hN hv hd g7) (bz he pa_nil k6) b8 d_ c5 k6) z9).anti λE s H q=>by
 obtain⟨B,F0,F,z,k,rs,ED,h,e⟩:=q;unfold dApp at h;split at h
 .rename_i ds ez;obtain⟨a,vs,q1,q2,q3,q4,q5⟩:=rs.own i ds ez;refine#[.ref a,q1,.inl #[rfl,vs,SqL.of q2],?_];refine#[B,F,z,k.kf,rs,_,h,λd v F1 H1 g hd rd=>?_];have k1:=k.grow g;have r1:=rs.grow g;have a1:H1 a=be (.lst vs):=g.hh a _ q2;have f1:F1 a=none:=g.out a q4 (by rw[q2];exact λz=>nomatch z);have hl:vs.length=ds.length:=q5.length;have hz:vs.length<sizeLine:=by
   have h1:ds.length<=100000:=hd.1;have h2:(100000:Nat)<sizeLine:=y8
   lia
  refine#[a,vs,v,rfl,rfl,a1,hz,?_];have same:∀{G:Hp},G a=m_->Same G H1->Same G (upd H1 a (.lst (vs++[v]))):=λ{G} ga gs b o eb=>by
   have ne:b≠a:=λz=>by rw[z,ga]at eb;cases eb
   rw[ay ne];exact gs b o eb
  have r2:=r1.setOwn (i:=i) (a:=a) (vs:=vs++[v]) (ds:=ds++[d]) q3 f1 ((q5.mono g.ff).append (dP rd)) (λj dj hj e1 e2=>hj (rs.apart j i dj ds a e1 ez e2 q1));have es:s.set i (be (.ref a))=s:=by
   apply GJ;intro n;by_cases hn:i=n
   .subst hn;rw[FM (Fj.mp q1).1,q1]
   .rw[Fu hn]
  rw[es]at r2;exact e.nx _ s F1 _ #[same q3 k1.bh,same f1 k1.fh,k1.f0,k1.out,k1.eb,k1.jf,k1.jo] hd.2 r2
 .exact h.elim⟩
def aP:List Nat->List D->SD->SD
 |i::is,d::ds,z=>aP is ds (z.set i (be d))
 |_,_,z=>z
def DGs(X:Cx)(ts:List QG)(is:List Nat):Prop:=∃u:TGs,PGs X ts u/\∀(ds:List D) (vs:List V) (z:SD) (s:L2.St) (B F H:Hp) (Q:L2.St->Hp->Prop),ds.length=is.length->Reps X.K F ds vs->RepS X.K B F H z s->(∀s',RepS X.K B F H (aP is ds z) s'->Q s' H)->u vs s H Q
def cy[Jx]:DGs X [] []:=⟨_,vA,λds vs z s B F H Q hl r rs q=>by
 cases ds with
 |nil=>exact#[reps_nil.mp r,q s rs]
 |cons _ _=>cases hl⟩
variable{p:QT}{is:List Nat}
def dg_cons[Jx](i:Nat)(hN:X.N.Nodup)(h2:DGs X es is)(hi:autoParam (X.N[i]?=be x) zA0)(hx:autoParam (Loc X.env.scope x) zA4)(hf:autoParam (zFN X x) zA3)
  (hs:autoParam ((QO (.Name x p::es) X.env).map (·.2)=Rk (.Name x p) X.env::(QO es X.env).map (·.2)) zA0):DGs X (.Name x p::es) (i::is):=by
 obtain⟨u,hu,k⟩:=h2;refine#[_,vB (eV hN hi hx hf) hu hs,λds vs z s B F H Q hl r rs q=>?_];cases ds with
 |nil=>cases hl
 |cons d ds=>
  obtain⟨v,vr,rfl,r1,r2⟩:=reps_cons.mp r;exact#[v,vr,rfl,k ds vr _ _ B F H Q (Nat.succ.inj hl) r2 (rs.set r1) q]
def xY(is:List Nat)(te:TD):TSD:=λE z=>te z λx=>match x with|.tup ds=>ds.length=is.length/\E.nx (aP is ds z)|_=>False
def jB[Jx]{k:Nat}(hc:X.calm=true)(he:WDE X e te)(hg:DGs X es is)(hn:autoParam ((QO es X.env).length=is.length) zA0)(i8:autoParam ((QO es X.env).findIdx? (·.1)=none) zA0)
  (hs:autoParam (Rc [.Tuple es k p] e pos.line X.env=pure false) zA0) (hw:autoParam (Rf [.Tuple es k p] e X.env=pure none) zA0) (h1:autoParam ((QO [.Tuple es k p] X.env).map (·.2)=[Rk (.Tuple es k p) X.env]) zA0):WDS X (.Assign [.Tuple es k p] e pos) (xY is te):=⟨by
 have he:=he.out;obtain⟨u,hu,kk⟩:=hg;refine(jb he (eX hc hu hn i8) hs hw h1).anti λE s H q=>?_;obtain⟨B,F0,F,z,k,rs,ED,h,e⟩:=q;refine#[B,F,z,k.kf,rs,_,h,λd v F' H' g hd rd=>?_];split at hd
 .obtain⟨p,vs,rfl,hq,rr⟩:=rep_tup_mp rd;exact#[p,vs,rfl,g.fh.tup hq,by rw[rr.length];exact hd.1,kk _ vs z s B F' H' _ hd.1 rr (rs.grow g) λs' r'=>e.nx _ _ F' H' (k.grow g) hd.2 r']
 .exact hd.elim⟩
def dPar(i j:Nat)(ta:TDA):TSD:=λE z=>ta z λds=>match ds with|[x,y]=>E.nx ((z.set i (be x)).set j (be y))|_=>False
def xZ[Jx](i j:Nat){y:t6}{t:TDA}{px py pt:QT}{kt k2 IT}(hc:X.calm=true)(hN:X.N.Nodup)(ha:WDA X [a,b] t)(hi:autoParam (X.N[i]?=be x) zA0)(hj:autoParam (X.N[j]?=be y) zA0)(Ll:autoParam (i≠j) zA1)
  (hx:autoParam (X.env.scope.names.lookup x=be .local) zA0) (hy:autoParam (X.env.scope.names.lookup y=be .local) zA0)
  (hw:autoParam (Rf [.Tuple [.Name x px,.Name y py] kt pt] (.Tuple [a,b] k2 IT) X.env=pure (be [x,y])) zA0)
  (hs:autoParam (Rc [.Tuple [.Name x px,.Name y py] kt pt] (.Tuple [a,b] k2 IT) pos.line X.env=pure false) zA0):WDS X (.Assign [.Tuple [.Name x px,.Name y py] kt pt] (.Tuple [a,b] k2 IT) pos) (dPar i j t):=⟨have ha:=ha.out;(vD hc hN hi hj Ll hx hy ha hw hs).anti λE s H q=>by
 obtain⟨B,F0,F,z,k,rs,ED,h,e⟩:=q;refine#[B,F,z,k.kf,rs,_,h,λds vs F' H' g hd rd=>?_];split at hd
 .obtain⟨v,r,rfl,r1,r2⟩:=reps_cons.mp rd;obtain⟨w,r,rfl,r3,r4⟩:=reps_cons.mp r2;rw[reps_nil.mp r4];exact#[v,w,rfl,e.nx _ _ F' H' (k.grow g) hd (((rs.grow g).set r1).set r3)]
 .exact hd.elim⟩
def ya(c:TDT)(tb:TSD):TSD:=λE z=>∃W:Nat->SD->Prop,(∃m,W m z)/\∀m z,W m z->
 c z λb=>if b=true then tb {E with nx:=λz'=>∃m',m'<m/\W m' z',ct:=λz'=>∃m',m'<m/\W m' z',bk:=E.nx} z else E.nx z
variable{body:List P3}
def dh[Jx]{c:QG}{tc:TDT}{tb:TSD}(hp:Q2 (QJ X.prog X.w) X.A X.env X.xe)(hc:WDT X c tc)(hb:WDSs X body tb):WDS X (.While c body [] pos) (ya tc tb):=⟨have hc:=hc.out;have hb:=hb.out;(pN hp hc hb).anti λE s H q=>by
 obtain⟨B,F0,F,z,k,rs,ED,⟨W,⟨m0,w0⟩,b_⟩,e⟩:=q;refine#[λm s' H'=>∃F' z',Kept B F0 F' H'/\RepS X.K B F' H' z' s'/\W m z',#[m0,F,z,k,rs,w0],?_];rintro m s1 H1⟨F1,z1,k1,r1,w1⟩;refine#[B,F1,z1,k1.kf,r1,_,b_ m z1 w1,λb F2 H2 g2 hk=>?_];cases b with
 |true=>
  refine#[λs3 H3=>∃F3 z3,Kept B F0 F3 H3/\RepS X.K B F3 H3 z3 s3/\∃m',m'<m/\W m' z3,λs3 H3 ⟨F3,z3,k3,r3,m',l,w3⟩=>#[m',l,F3,z3,k3,r3,w3],?_];exact#[B,F0,F2,z1,k1.grow g2,r1.grow g2,_,hk,#[λz3 s3 F3 H3 k3 h3 r3=>#[F3,z3,k3,r3,h3],e.rt,e.nx,λz3 s3 F3 H3 k3 h3 r3=>#[F3,z3,k3,r3,h3]]]
 |false=>exact e.nx z1 s1 F2 H2 (k1.grow g2) hk (r1.grow g2)⟩
abbrev TDI:=SD->(List D->Prop)->Prop
def dItT(t:TD):TDI:=λz R=>t z λx=>match x with|.tup ds=>R ds|_=>False
def dItL(t:TD):TDI:=λz R=>t z λx=>match x with|.lst ds=>R ds|.rol ds=>R ds|_=>False
def dItR(t:TD):TDI:=λz R=>t z λx=>match x with|.int n=>(0<=n/\n<2^62)/\R ((E7 n.toNat).map λk=>D.int ((k:Nat):Int))|_=>False
def dFor(i:Nat)(ti:TDI)(tb:TSD):TSD:=λE z=>ti z λds=>∃W:Nat->SD->Prop,W 0 z/\(∀k x z,ds[k]?=be x->W k z->tb {E with nx:=W (k+1),ct:=W (k+1),bk:=E.nx} (z.set i (be x)))/\∀z,W ds.length z->E.nx z
def Reps.get'{K:Ex}{H:Hp}{ds:List D}{vs:List V}{k:Nat}{v:V}(r:Reps K H ds vs)(e:vs[k]?=be v):∃d,ds[k]?=be d/\Rep K H d v:=by
 have hk:k<ds.length:=by rw[<-r.length];exact(Fj.mp e).1
 obtain⟨u,q1,q2⟩:=r.get (Fo hk);rw[e]at q1;cases q1;exact#[_,Fo hk,q2]
def fo[Jx](i:Nat){tb:TSD}(hp:Q2 (QJ X.prog X.w) X.A X.env X.xe)(hc:X.calm=true)(hN:X.N.Nodup)(he:WDE X e te)(hb:WDSs X body tb)(hi:autoParam (X.N[i]?=be x) zA0)(hx:autoParam (Loc X.env.scope x) zA4)
  (hf:autoParam (zFN X x) zA3) (hs:autoParam (∀y,zFS X e y) zA2):WDS X (.For (.Name x p) e body [] pos) (dFor i (dItL te) tb):=⟨have he:=he.out;have hb:=hb.out;(cK hp hc (fM he) (eV hN hi hx hf) hb hs).anti λE s H q=>by
 obtain⟨B,F0,F,z,kp,rs,ED,h,e⟩:=q;refine#[B,F,z,kp.kf,rs,_,h,λd v F1 H1 g1 hd rd=>?_];split at hd
 .obtain⟨p,vs,rfl,hq,rr⟩:=rep_lst.mp rd;obtain⟨W,w0,b_,out⟩:=hd;refine#[p,rfl,#[vs,g1.fh.seq (SqL.of hq)],jd (K:=X.K) (a:=p) (xs:=vs) (λk s' H'=>∃F' z',Kept B F0 F' H'/\Same F1 F'/\RepS X.K B F' H' z' s'/\W k z') #[F1,z,kp.grow g1,Same.refl F1,rs.grow g1,w0] (λk s' H' _ ⟨F',z',k',g',r',w'⟩=>k'.fh.seq (g'.seq (SqL.of hq))) ?_ ?_]
  .rintro k y s' H' hk⟨F',z',k',g',r',w'⟩;obtain⟨d,hd,ry⟩:=rr.get' hk;refine#[B,F',F',_,#[k'.bh,k'.fh,Same.refl F',λb h1 _=>h1,k'.eb,k'.jf.trans k'.f0,λb h1 h2=>k'.out b (k'.jo b h1 h2) h2],r'.set (ry.mono g'),_,b_ k d z' hd w',?_];have up:∀{F2 H2:Hp},Kept B F' F2 H2->Kept B F0 F2 H2:=λk2=>#[k2.bh,k2.fh,k'.f0.trans k2.f0,λb h1 h2=>k2.out b (k'.out b h1 h2) h2,k'.eb,k'.jf,k'.jo];exact#[λz3 s3 F3 H3 k3 h3 r3=>#[F3,z3,up k3,g'.trans k3.f0,r3,h3],λd v F3 H3 k3=>e.rt d v F3 H3 (up k3),λz3 s3 F3 H3 k3=>e.nx z3 s3 F3 H3 (up k3),λz3 s3 F3 H3 k3 h3 r3=>#[F3,z3,up k3,g'.trans k3.f0,r3,h3]]
  .rintro s' H'⟨F',z',k',g',r',w'⟩;exact e.nx z' s' F' H' k' (out z' (by rw[<-rr.length];exact w')) r'
 .obtain⟨p,vs,rfl,hq,rr⟩:=rep_rol.mp rd;obtain⟨W,w0,b_,out⟩:=hd;refine#[p,rfl,#[vs,g1.fh.seq hq],jd (K:=X.K) (a:=p) (xs:=vs) (λk s' H'=>∃F' z',Kept B F0 F' H'/\Same F1 F'/\RepS X.K B F' H' z' s'/\W k z') #[F1,z,kp.grow g1,Same.refl F1,rs.grow g1,w0] (λk s' H' _ ⟨F',z',k',g',r',w'⟩=>k'.fh.seq (g'.seq hq)) ?_ ?_]
  .rintro k y s' H' hk⟨F',z',k',g',r',w'⟩;obtain⟨d,hd,ry⟩:=rr.get' hk;refine#[B,F',F',_,#[k'.bh,k'.fh,Same.refl F',λb h1 _=>h1,k'.eb,k'.jf.trans k'.f0,λb h1 h2=>k'.out b (k'.jo b h1 h2) h2],r'.set (ry.mono g'),_,b_ k d z' hd w',?_];have up:∀{F2 H2:Hp},Kept B F' F2 H2->Kept B F0 F2 H2:=λk2=>#[k2.bh,k2.fh,k'.f0.trans k2.f0,λb h1 h2=>k2.out b (k'.out b h1 h2) h2,k'.eb,k'.jf,k'.jo];exact#[λz3 s3 F3 H3 k3 h3 r3=>#[F3,z3,up k3,g'.trans k3.f0,r3,h3],λd v F3 H3 k3=>e.rt d v F3 H3 (up k3),λz3 s3 F3 H3 k3=>e.nx z3 s3 F3 H3 (up k3),λz3 s3 F3 H3 k3 h3 r3=>#[F3,z3,up k3,g'.trans k3.f0,r3,h3]]
  .rintro s' H'⟨F',z',k',g',r',w'⟩;exact e.nx z' s' F' H' k' (out z' (by rw[<-rr.length];exact w')) r'
 .exact hd.elim⟩
def rb[Jx](i:Nat){tb:TSD}(hp:Q2 (QJ X.prog X.w) X.A X.env X.xe)(hc:X.calm=true)(hN:X.N.Nodup)(he:WDE X e te)(hb:WDSs X body tb)(hi:autoParam (X.N[i]?=be x) zA0)(hx:autoParam (Loc X.env.scope x) zA4)
  (hf:autoParam (zFN X x) zA3) (hs:autoParam (∀y,zFS X e y) zA2):WDS X (.For (.Name x p) e body [] pos) (dFor i (dItT te) tb):=⟨have he:=he.out;have hb:=hb.out;(cK hp hc (vI he) (eV hN hi hx hf) hb hs).anti λE s H q=>by
 obtain⟨B,F0,F,z,kp,rs,ED,h,e⟩:=q;refine#[B,F,z,kp.kf,rs,_,h,λd v F1 H1 g1 hd rd=>?_];split at hd
 .obtain⟨p,vs,rfl,hq,rr⟩:=rep_tup_mp rd;obtain⟨W,w0,b_,out⟩:=hd;refine#[p,rfl,#[vs,g1.fh.tup hq],vL (K:=X.K) (a:=p) (xs:=vs) (λk s' H'=>∃F' z',Kept B F0 F' H'/\Same F1 F'/\RepS X.K B F' H' z' s'/\W k z') #[F1,z,kp.grow g1,Same.refl F1,rs.grow g1,w0] (λk s' H' _ ⟨F',z',k',g',r',w'⟩=>k'.fh.tup (g'.tup hq)) ?_ ?_]
  .rintro k y s' H' hk⟨F',z',k',g',r',w'⟩;obtain⟨d,hd,ry⟩:=rr.get' hk;refine#[B,F',F',_,#[k'.bh,k'.fh,Same.refl F',λb h1 _=>h1,k'.eb,k'.jf.trans k'.f0,λb h1 h2=>k'.out b (k'.jo b h1 h2) h2],r'.set (ry.mono g'),_,b_ k d z' hd w',?_];have up:∀{F2 H2:Hp},Kept B F' F2 H2->Kept B F0 F2 H2:=λk2=>#[k2.bh,k2.fh,k'.f0.trans k2.f0,λb h1 h2=>k2.out b (k'.out b h1 h2) h2,k'.eb,k'.jf,k'.jo];exact#[λz3 s3 F3 H3 k3 h3 r3=>#[F3,z3,up k3,g'.trans k3.f0,r3,h3],λd v F3 H3 k3=>e.rt d v F3 H3 (up k3),λz3 s3 F3 H3 k3=>e.nx z3 s3 F3 H3 (up k3),λz3 s3 F3 H3 k3 h3 r3=>#[F3,z3,up k3,g'.trans k3.f0,r3,h3]]
  .rintro s' H'⟨F',z',k',g',r',w'⟩;exact e.nx z' s' F' H' k' (out z' (by rw[<-rr.length];exact w')) r'
 .exact hd.elim⟩
def bL[Jx](i:Nat){p1 p2:QT}{tb:TSD}(hp:Q2 (QJ X.prog X.w) X.A X.env X.xe)(hc:X.calm=true)(hN:X.N.Nodup)(hm:X.mg "range"=m_)(he:WDE X e te)(hb:WDSs X body tb)(hg:autoParam (Gl X "range") zA0)(hi:autoParam (X.N[i]?=be x) zA0)(hx:autoParam (Loc X.env.scope x) zA4)
  (hf:autoParam (zFN X x) zA3) (hs:autoParam (∀y,zFS X (.Call (.Name "range" p1) [e] [] p2) y) zA2) (m4:autoParam (zSE X e []) zA0) (e_:autoParam (QP [e] X.env=[(false,QS e X.env)]) zA0):WDS X (.For (.Name x p) (.Call (.Name "range" p1) [e] [] p2) body [] pos) (dFor i (dItR te) tb):=⟨have he:=he.out;have hb:=hb.out;(cK hp hc (fN hg hm (bz he pa_nil m4) e_) (eV hN hi hx hf) hb hs).anti λE s H q=>by
 obtain⟨B,F0,F,z,kp,rs,ED,h,e⟩:=q;refine#[B,F,z,kp.kf,rs,_,h,λd v F1 H1 g1 hd rd=>?_];split at hd
 .rename_i n;obtain⟨⟨b1,b2⟩,W,w0,b_,out⟩:=hd;have hl:((E7 n.toNat).map λk=>D.int ((k:Nat):Int)).length=n.toNat:=by simp
  refine#[n,by rw[rep_int.mp rd],t8,b2,pS (lo:=0) (n:=n.toNat) (λk s' H'=>∃F' z',Kept B F0 F' H'/\RepS X.K B F' H' z' s'/\W k z') #[F1,z,kp.grow g1,rs.grow g1,w0] ?_ ?_]
  .rintro k s' H' hk⟨F',z',k',r',w'⟩;have e1:(0:Int)+(k:Int)=(k:Int):=by lia
   exact#[B,F0,F',_,k',r'.set (d:=.int (k:Int)) (rep_int.mpr (by rw[e1])),_,b_ k (.int (k:Int)) z' (by simp[hk]) w',#[λz3 s3 F3 H3 k3 h3 r3=>#[F3,z3,k3,r3,h3],e.rt,e.nx,λz3 s3 F3 H3 k3 h3 r3=>#[F3,z3,k3,r3,h3]]]
  .rintro s' H'⟨F',z',k',r',w'⟩;exact e.nx z' s' F' H' k' (out z' (by rw[hl];exact w')) r'
 .exact hd.elim⟩
end
section
variable {P:QH}{w:QL}{K:Ex}{mg:t6->Option KB}{base:QN}
variable{N ps:List t6}
def _root_.L2.Fun.okD{x qual:t6}{st:P3}{f:KF}{fd:QR}{k:Nat}{S:SpD}(T:Fun K x qual st f fd)(F:FnScope N ps (ah st))(len:∀ds R,S ds R->ds.length=ps.length)
  (a9:∀(cdv:KB) (A:QM) (outer:List Rt) (s:KM) (H:Hp) (E:XK) (J:Jx),Room k (A.deeper (QX qual (ah st) s.heap.objs.size f cdv))->
   ∃t,DSs (cxOf (Exc.CX1 P w) P w K mg base N qual (ah st) f cdv A outer s H E).nox (aK st) t/\∀ds R,S ds R->t {nx:=λ_=>R .non,rt:=R} (startD N ds)):FnOk P w K mg base (Exc.CX1 P w) (k+1) f fd ps (lSp K S):=by
 refine Fun.okC T F (λvs H Q E h=>?_) (λcdv A outer s H vs Q E hr h=>?_)
 .obtain⟨F,ds,fh,rs,R,h,_⟩:=h;rw[rs.length];exact len ds R h
 .obtain⟨F,ds,fh,rs,R,h,q⟩:=h
  letI:Jx:=#[H,F,λ_ _ _=>False]
  obtain⟨t,ht,hq⟩:=a9 cdv A outer s H E inferInstance hr;refine#[_,ht.nox,H,F,F,startD N ds,#[Same.refl H,fh,Same.refl F,λ_ h _=>h,rfl,Same.refl F,λ_ h _=>h],fg rs,_,hq ds R h,#[λz' s' F' H' k hn _=>q _ _ F' H' #[k.f0,k.fh,k.bh,k.out] hn (rep_non.mpr rfl),λd v F' H' k hd rd=>q d v F' H' #[k.f0,k.fh,k.bh,k.out] hd rd,λ_ _ _ _ _ h _=>h.elim,λ_ _ _ _ _ h _=>h.elim]]
def Tx.okD{x:t6}{st:P3}{k:Nat}{S:SpD}(T:Tx K mg x st ps)(F:FnScope N ps (ah st))(len:∀ds R,S ds R->ds.length=ps.length)
  (a9:∀(f:KF) (cdv:KB) (A:QM) (outer:List Rt) (s:KM) (H:Hp) (E:XK) (J:Jx),Room k (A.deeper (QX x (ah st) s.heap.objs.size f cdv))->
   ∃t,DSs (cxOf (Exc.CX1 P w) P w K mg base N x (ah st) f cdv A outer s H E).nox (aK st) t/\∀ds R,S ds R->t {nx:=λ_=>R .non,rt:=R} (startD N ds)):CalD P w K mg base (k+1) x ps S:=by
 obtain⟨f,fd,T,hb,hm⟩:=T;exact#[f,fd,T.okD F len λcdv A outer s H E J hr=>a9 f cdv A outer s H E J hr,hb,T.kp,hm]
end
def dQ:SpD:=λds R=>∃ns:List Int,ds=[.rol (ns.map D.int)]/\ns.length<=63/\R (.bl true)
def yb{a:KF}{ns:List Int}(hl:ns.length<=63)(hS:SqL K H a (ns.map V.int)){E:XK}:lSp K dQ [.ref a] H (λv _=>v=.bl true) E:=
 #[H,[.rol (ns.map D.int)],Same.refl H,reps_cons.mpr #[_,_,rfl,rep_rol.mpr #[a,_,rfl,hS,Reps.ints.mpr rfl],reps_nil.mpr rfl],λd=>d=.bl true,#[ns,rfl,hl,rfl],λd v F' H' _ hd rd=>by subst hd;exact rep_bl.mp rd]
section
variable {X:Cx}{a b c e:QG}{ta tb tc te:TD}{pos:QT}
variable{p:QT}{es:List QG}{t:TDA}
def gf[Jx]{x:t6}{T:String}{r:List V->Hp->VK->Prop}{rd:RDn}(hc:bC X (.type T) r)(L:ca X.K r rd)(hm:X.mg x=m_)(hv:QZ x=be (.type T))(ha:DA X (e::es) t)(hg:autoParam (Gl X x) zA0)(hn:autoParam (x≠"__name__") zA1)(d9:autoParam (zND x) zA1)
  (he:autoParam (zSE X e es) zA0) (c9:autoParam (zPL X pos es) zA0):DE X (.Call (.Name x p) (e::es) [] pos) (dCB rd t):=(jl hc hg hm hv ha hn d9 he c9).anti λs H Q h=>by
 obtain⟨B,F,z,kf,rs,R,h1,h2⟩:=h;have fh:=kf.fh;refine#[B,F,z,kf,rs,_,h1,λds vs F1 H1 g1 hx rx=>?_];exact L ds vs F1 H1 R Q g1.fh hx rx λd w F' H' g=>h2 d w F' H' (g1.trans g)
def rdStr:RDn:=λds R=>match ds with|[.int i]=>i.natAbs<18446744073709551616/\R (.str (toString i))|_=>False
variable{K:Ex}
def yc:ca K (λxs H Q=>∃i,xs=[.int i]/\i.natAbs.log2<1920/\Q (.str (toString i)) H) rdStr:=by
 intro ds vs F H R Q fh h rx q;unfold rdStr at h;split at h
 .obtain⟨v,r,rfl,h1,h2⟩:=reps_cons.mp rx;rw[reps_nil.mp h2,rep_int.mp h1];refine#[_,rfl,?_,q _ _ F H (Grow.refl fh) h.2 (rep_str.mpr rfl)];rename_i i;by_cases h0:i.natAbs=0
  .rw[h0];decide
  .have:=(HB h0).mpr (show i.natAbs<2^64 from h.1);lia
 .exact h.elim
def cz[Jx](hm:X.mg "str"=m_)(ha:WDA X [e] t)(hg:autoParam (Gl X "str") zA0)(he:autoParam (zSE X e []) zA0):WDE X (.Call (.Name "str" p) [e] [] pos) (dCB rdStr t):=#[have ha:=ha.out;gf wn yc hm PyProof.Rows.boot_str ha hg y8 y8 he]
def rdInt:RDn:=λds R=>match ds with
 |[.int i]=>R (.int i)
 |[.bl k]=>R (.int (if k then 1 else 0))
 |[.str x]=>∃n,(PySem.intText? x=be n/\x.length<=640)/\R (.int n)
 |_=>False
def rg:bC X (.type "int") (λxs H Q=>((∃i,xs=[.int i]/\Q (.int i) H)\/∃k,xs=[.bl k]/\Q (.int (if k then 1 else 0)) H)\/∃x n,xs=[.str x]/\PySem.intText? x=be n/\x.length<=640/\Q (.int n) H):=by
 intro pins s σ H xs us Q I r h;rcases h with h|⟨x,n,rfl,h1,h2,q⟩
 .exact wl pins s σ H xs us Q I r h
 .obtain⟨u,rfl,t,rfl⟩:=bS r;exact PySem.W.KIN.call_text h1 h2 #[.int n,H,I.tok _,#[_,rfl],q]
def rh:ca K (λxs H Q=>((∃i,xs=[.int i]/\Q (.int i) H)\/∃k,xs=[.bl k]/\Q (.int (if k then 1 else 0)) H)\/∃x n,xs=[.str x]/\PySem.intText? x=be n/\x.length<=640/\Q (.int n) H) rdInt:=by
 intro ds vs F H R Q fh h rx q;unfold rdInt at h;split at h
 .obtain⟨v,r,rfl,h1,h2⟩:=reps_cons.mp rx;rw[reps_nil.mp h2,rep_int.mp h1];exact .inl (.inl #[_,rfl,q _ _ F H (Grow.refl fh) h (rep_int.mpr rfl)])
 .obtain⟨v,r,rfl,h1,h2⟩:=reps_cons.mp rx;rw[reps_nil.mp h2,rep_bl.mp h1];exact .inl (.inr #[_,rfl,q _ _ F H (Grow.refl fh) h (rep_int.mpr rfl)])
 .obtain⟨v,r,rfl,h1,h2⟩:=reps_cons.mp rx;rw[reps_nil.mp h2,rep_str.mp h1];obtain⟨n,⟨e1,e2⟩,h⟩:=h;exact .inr #[_,n,rfl,e1,e2,q _ _ F H (Grow.refl fh) h (rep_int.mpr rfl)]
 .exact h.elim
def gh[Jx](hm:X.mg "int"=m_)(ha:WDA X [e] t)(hg:autoParam (Gl X "int") zA0)(he:autoParam (zSE X e []) zA0):WDE X (.Call (.Name "int" p) [e] [] pos) (dCB rdInt t):=#[have ha:=ha.out;gf rg rh hm PyProof.Rows.boot_int ha hg y8 y8 he]
def rdList:RDn:=λds R=>match ds with|[.lst xs]=>R (.lst xs)|[.tup xs]=>R (.lst xs)|[.rol xs]=>R (.lst xs)|_=>False
def yd:ca K (λxs H Q=>∃p ys,xs=[.ref p]/\(SqL K H p ys\/SqT K H p ys)/\∀l,H l=m_->Q (.ref l) (upd H l (.lst ys))) rdList:=by
 intro ds vs F H R Q fh h rx q;unfold rdList at h;split at h
 .obtain⟨v,r,rfl,h1,h2⟩:=reps_cons.mp rx;rw[reps_nil.mp h2];obtain⟨a,us,rfl,hq,rs⟩:=rep_lst.mp h1;exact#[a,us,rfl,.inl (fh.seq (SqL.of hq)),λl hl=>q _ _ _ _ (Grow.new fh hl _) h (rep_lst.mpr #[l,us,rfl,aG,rs.mono (aO (fh.free hl) _)])]
 .obtain⟨v,r,rfl,h1,h2⟩:=reps_cons.mp rx;rw[reps_nil.mp h2];obtain⟨a,us,rfl,hq,rs⟩:=rep_tup_mp h1;exact#[a,us,rfl,.inr (fh.tup hq),λl hl=>q _ _ _ _ (Grow.new fh hl _) h (rep_lst.mpr #[l,us,rfl,aG,rs.mono (aO (fh.free hl) _)])]
 .obtain⟨v,r,rfl,h1,h2⟩:=reps_cons.mp rx;rw[reps_nil.mp h2];obtain⟨a,us,rfl,hq,rs⟩:=rep_rol.mp h1;exact#[a,us,rfl,.inl (fh.seq hq),λl hl=>q _ _ _ _ (Grow.new fh hl _) h (rep_lst.mpr #[l,us,rfl,aG,rs.mono (aO (fh.free hl) _)])]
 .exact h.elim
def ye[Jx](hm:X.mg "list"=m_)(ha:WDA X [e] t)(hg:autoParam (Gl X "list") zA0)(he:autoParam (zSE X e []) zA0):WDE X (.Call (.Name "list" p) [e] [] pos) (dCB rdList t):=#[have ha:=ha.out;gf qA yd hm PyProof.Rows.boot_list ha hg y8 y8 he]
def rdMax:RDn:=λds R=>match ds with|[.int i,.int j]=>R (.int (if j>i then j else i))|_=>False
def yf:ca K (λxs H Q=>∃i j,xs=[.int i,.int j]/\Q (.int (if j>i then j else i)) H) rdMax:=by
 intro ds vs F H R Q fh h rx q;unfold rdMax at h;split at h
 .obtain⟨v,r,rfl,h1,h2⟩:=reps_cons.mp rx;obtain⟨v',r',rfl,h3,h4⟩:=reps_cons.mp h2;rw[reps_nil.mp h4,rep_int.mp h1,rep_int.mp h3];exact#[_,_,rfl,q _ _ F H (Grow.refl fh) h (rep_int.mpr rfl)]
 .exact h.elim
def jC[Jx](hc:X.calm=true)(hm:X.mg "max"=m_)(ha:WDA X [e,a] t)(hg:autoParam (Gl X "max") zA0)(he:autoParam (zSE X e [a]) zA0)(c9:autoParam (zPL X pos [a]) zA0):WDE X (.Call (.Name "max" p) [e,a] [] pos) (dCB rdMax t):=#[have ha:=ha.out;fX (wk hc) yf hm PyProof.Rows.boot_max ha hg y8 y8 he c9]
def cH:List D->Option (List t6)
 |[]=>be []
 |.str x::r=>(cH r).map (x::·)
 |_=>m_
def rj{K:Ex}{F:Hp}:∀{ds:List D} {xs:List t6} {vs:List V} {us:List KB},cH ds=be xs->Reps K F ds vs->Vals vs us->StrsAre us xs
 |[],xs,vs,us,e,r,q=>by
  cases e;rw[reps_nil.mp r]at q;cases q;exact .nil
 | .str x::ds,xs,vs,us,e,r,q=>by
  obtain⟨v,r',rfl,h1,h2⟩:=reps_cons.mp r;rw[rep_str.mp h1]at q;cases q with
  |cons q1 q2=>
   obtain⟨t,rfl⟩:=q1;cases e2:cH ds with
   |none=>simp[cH,e2]at e
   |some ys=>
    simp[cH,e2]at e;subst e;exact .cons x t (rj e2 h2 q2)
def yg:V->List V->Hp->VK->Prop:=λx vs H Q=>∃n6 l xs ys,x=.str n6/\vs=[.ref l]/\H l=be (.lst xs)/\(∀us,Vals xs us->StrsAre us ys)/\(ys.map (·.length)).sum+ys.length*n6.length<=16777216/\Q (.str (Txt.join n6 ys)) H
def yi:MtR X "str.join" yg:=by
 intro pins s σ H x vs v us Q I rx rv h;obtain⟨n6,l,xs,ys,rfl,rfl,hl,hs,hz,q⟩:=h;obtain⟨t,rfl⟩:=rx;obtain⟨u,rfl,ru⟩:=bS rv;cases ru;obtain⟨its,r,pl,_⟩:=I.list (SqL.of hl);exact PyProof.Rows.join_list pl.isList (by simpa using hs its r) hz λt' k=>#[.str _,H,I.tok _,#[_,rfl],q]
def yj(n6:t6)(te:TD):TD:=λz R=>te z λx=>match x with
 |.lst ds=>∃ys,cH ds=be ys/\(ys.map (·.length)).sum+ys.length*n6.length<=1000000/\R (.str (Txt.join n6 ys))
 |_=>False
variable{k:Nat}
def jD[Jx]{n6:t6}{p1 apos cpos:QT}(he:WDE X e te)(k6:autoParam (zSE X e []) zA0)
  (b8:autoParam (QQ (.Constant (.str n6) k p1) "join" X.env (QS (.Constant (.str n6) k p1) X.env)=QS (.Constant (.str n6) k p1) X.env) zA0)
  (d_:autoParam (zHF X cpos [e]) zA0)
  (c5:autoParam ((apos.endLine==cpos.line)=true) zA0):WDE X (.Call (.Attribute (.Constant (.str n6) k p1) "join" apos) [e] [] cpos) (yj n6 te):=⟨have he:=he.out;(dI PySem.F.plainAttrs_str PySem.F.slot_str_join PySem.F.type_str_join yi pE (bz he pa_nil k6) b8 d_ c5 k6).anti λs H Q q=>by
 obtain⟨B,F,z,kf,rs,R,h1,h2⟩:=q;have fh:=kf.fh;refine#[rfl,?_];refine#[B,F,z,kf,rs,_,h1,λx u F1 H1 g1 hx rx=>?_];split at hx
 .obtain⟨ys,e1,e2,hx⟩:=hx;obtain⟨l,vs,rfl,hq,rr⟩:=rep_lst.mp rx;exact#[n6,l,vs,ys,rfl,rfl,g1.fh _ _ hq,λus q=>rj e1 rr q,Fh e2 y8,h2 _ _ F1 H1 g1 hx (rep_str.mpr rfl)]
 .exact hx.elim⟩
def dOix(i:Nat)(tb:TD):TD:=λz R=>match z[i]? with
 |some (be (.own ds))=>tb z λy=>match y with|.int k=>∃d,atI ds k=be d/\R d|_=>False
 |_=>False
def gj[Jx](i:Nat){x:t6}(hb:WDE X b tb)(hN:autoParam (X.N[i]?=be x) zA0)(hv:autoParam (Vis X.env.scope x) zA5)(hd:autoParam (zND x) zA1)
  (g7:autoParam (zNC x) zA1) (hs:autoParam (dH b) zA6):WDE X (.Subscript (.Name x p) b pos) (dOix i tb):=⟨have hb:=hb.out;(pe_ix ix_list (eU hN hv hd g7) hb hs).anti λs H Q q=>by
 obtain⟨B,F,z,kf,rs,R,h1,h2⟩:=q;have fh:=kf.fh;unfold dOix at h1;split at h1
 .rename_i ds ez;obtain⟨a,vs,q1,q2,q3,q4,q5⟩:=rs.own i ds ez;refine#[.ref a,q1,B,F,z,kf,rs,_,h1,λy v F1 H1 g1 hy ry=>?_];split at hy
  .obtain⟨d,e1,hR⟩:=hy;obtain⟨w,e2,g9⟩:=(q5.mono g1.ff).at e1;exact#[a,vs,_,w,rfl,rep_int.mp ry,SqL.of (g1.hh _ _ q2),e2,h2 d w F1 H1 g1 hR g9]
  .exact hy.elim
 .exact h1.elim⟩
def cutD(xs:List D)(lo hi:Option Int):List D:=(xs.drop (HT.sIx xs.length 0 lo)).take (HT.sIx xs.length xs.length hi-HT.sIx xs.length 0 lo)
def Reps.drop{K:Ex}{F:Hp}:∀(n:Nat) {xs:List D} {us:List V},Reps K F xs us->Reps K F (xs.drop n) (us.drop n)
 |0,_,_,r=>r
 |n+1,[],us,r=>by rw[reps_nil.mp r];exact reps_nil.mpr rfl
 |n+1,x::xs,us,r=>by
  obtain⟨u,ur,rfl,_,a2⟩:=reps_cons.mp r;exact Reps.drop n a2
def Reps.take{K:Ex}{F:Hp}:∀(n:Nat) {xs:List D} {us:List V},Reps K F xs us->Reps K F (xs.take n) (us.take n)
 |0,_,_,_=>reps_nil.mpr rfl
 |n+1,[],us,r=>by rw[reps_nil.mp r];exact reps_nil.mpr rfl
 |n+1,x::xs,us,r=>by
  obtain⟨u,ur,rfl,a1,a2⟩:=reps_cons.mp r;exact reps_cons.mpr #[u,_,rfl,a1,Reps.take n a2]
def Reps.cut{F:Hp}{xs:List D}{us:List V}(r:Reps K F xs us)(lo hi:Option Int):Reps K F (cutD xs lo hi) (cutV us lo hi):=by
 unfold cutD cutV;rw[r.length];exact(r.drop _).take _
def yk(ta tb:TD):TD:=λz R=>ta z λx=>tb z λy=>match x,y with|.lst xs,.int i=>R (.lst (cutD xs (be i) m_))|_,_=>False
def ym[Jx]{p2:QT}(ha:WDE X a ta)(hb:WDE X b tb):WDE X (.Subscript a (.Slice (be b) m_ m_ p2) pos) (yk ta tb):=⟨have ha:=ha.out;have hb:=hb.out;(qr qy ha (qq hb) qp).anti λs H Q q=>by
 obtain⟨B,F,z,kf,rs,R,h1,h2⟩:=q;have fh:=kf.fh;refine#[B,F,z,kf,rs,_,h1,λx u F1 H1 g1 hx rx=>?_];refine#[B,F1,z,kf.grow g1,rs.grow g1,_,hx,λy v F2 H2 g2 hy ry=>?_];split at hy
 .refine#[_,rep_int.mp ry,?_];obtain⟨l,vs,rfl,hq,rr⟩:=rep_lst.mp (rx.mono g2.ff);refine#[l,vs,rfl,SqL.of (g2.fh _ _ hq),λp hp=>?_];exact h2 _ _ _ _ (g1.trans (g2.trans (Grow.new g2.fh hp _))) hy (rep_lst.mpr #[p,_,rfl,aG,(rr.cut _ _).mono (aO (g2.fh.free hp) _)])
 .exact hy.elim⟩
def yn{t:TGs}{n:Nat}(hc:X.calm=true)(h:PGs X es t)(hn:autoParam ((QO es X.env).length=n) zA0)(i8:autoParam ((QO es X.env).findIdx? (·.1)=none) zA0):
  PG X (.Tuple es k pos) (λv σ H Q=>∃a xs,v=.ref a/\SqL X.K H a xs/\xs.length=n/\t xs σ H Q):=by
 intro pins s σ H v u Q I r hw;obtain⟨a,xs,e1,hq,hl,hw⟩:=hw;subst e1;cases r;obtain⟨its,rv,pl,hz⟩:=I.list hq;have e2:(QO es X.env).length=its.toArray.size:=by simp[hn,<-hl,rv.length]
 rw[PyProof.Rows.assign_Tuple];refine Os (Q_ ?_);unfold unpack;rw[e2,i8];refine Os (Rb (kun_itemsOf (I.ok.hd hc) pl.isList λh' hx=>?_));have I1:Inv X pins σ H {s with heap:=h'}:=I.kept (t':=s.toks) λb o e=>hx b o (Ff (Heap.lt_size e)) e;exact h pins _ σ H xs _ Q I1 (by simpa using rv) hw
def yo(is:List Nat)(te:TD):TSD:=λE z=>te z λx=>match x with|.lst ds=>ds.length=is.length/\E.nx (aP is ds z)|_=>False
def jE[Jx]{is:List Nat}(hc:X.calm=true)(he:WDE X e te)(hg:DGs X es is)(hn:autoParam ((QO es X.env).length=is.length) zA0)(i8:autoParam ((QO es X.env).findIdx? (·.1)=none) zA0)
  (hs:autoParam (Rc [.Tuple es k p] e pos.line X.env=pure false) zA0) (hw:autoParam (Rf [.Tuple es k p] e X.env=pure none) zA0) (h1:autoParam ((QO [.Tuple es k p] X.env).map (·.2)=[Rk (.Tuple es k p) X.env]) zA0):WDS X (.Assign [.Tuple es k p] e pos) (yo is te):=⟨by
 have he:=he.out;obtain⟨u,hu,kk⟩:=hg;refine(jb he (yn hc hu hn i8) hs hw h1).anti λE s H q=>?_;obtain⟨B,F0,F,z,k,rs,ED,h,e⟩:=q;refine#[B,F,z,k.kf,rs,_,h,λd v F' H' g hd rd=>?_];split at hd
 .obtain⟨p,vs,rfl,hq,rr⟩:=rep_lst.mp rd;exact#[p,vs,rfl,SqL.of (g.fh _ _ hq),by rw[rr.length];exact hd.1,kk _ vs z s B F' H' _ hd.1 rr (rs.grow g) λs' r'=>e.nx _ _ F' H' (k.grow g) hd.2 r']
 .exact hd.elim⟩
end
end My
namespace L2
def jF{env:Rt}:∀(names:List (t6×Ri)) (p8:List (t6×KF)),(∀n,(n,NameKind.free)∈names->∃c,env.cells.lookup n=be c)->
  ∃cl,(forIn (m:=Sb) names p8 λx r=>match x with
     |(name,kind)=>if(kind==NameKind.free)=true then(do let a <-cellOf env name;pure (ForInStep.yield ((name,a)::r)))else pure (ForInStep.yield r))=(pure cl:Sb (List (t6×KF)))/\
   (∀n c,cl.lookup n=be c->env.cells.lookup n=be c\/p8.lookup n=be c)/\(∀n,(n,NameKind.free)∈names->∃c,cl.lookup n=be c)/\∀n c,p8.lookup n=be c->∃c',cl.lookup n=be c'
 |[],p8,_=>#[p8,rfl,(λ_ _ h=>.inr h),(λ_ h=>by cases h),(λ_ c h=>#[c,h])]
 |(name,kind)::r,p8,h=>by
  by_cases hk:(kind==NameKind.free)=true
  .have ek:kind=.free:=by simpa using hk
   subst ek;obtain⟨c,hc⟩:=h name Fd;obtain⟨cl,e,p1,p2,p3⟩:=jF r ((name,c)::p8) λn q=>h n (Fc _ q);refine#[cl,?_,λn c' q=>?_,λn q=>?_,λn c' q=>?_]
   .rw[HE];have ec:cellOf env name=pure c:=by unfold cellOf;rw[hc]
    simp only[hk,if_true,ec];exact e
   .rcases p1 n c' q with z|z
    .exact .inl z
    .rw[Fq]at z;split at z
     .rename_i q2;have en:n=name:=by simpa using q2
      cases z;exact .inl (en ▸ hc)
     .exact .inr z
   .rcases E8.mp q with z|z
    .cases z;exact p3 _ c (by rw[Fq];simp)
    .exact p2 n z
   .by_cases hn:n=name
    .subst hn;exact p3 n c (by rw[Fq];simp)
    .exact p3 n c' (by rw[Fq,beq_eq_false_iff_ne.mpr hn];exact q)
  .obtain⟨cl,e,p1,p2,p3⟩:=jF r p8 λn q=>h n (Fc _ q);refine#[cl,?_,p1,λn q=>?_,p3]
   .rw[HE];simp only[hk];exact e
   .rcases E8.mp q with z|z
    .cases z;exact absurd rfl hk
    .exact p2 n z
def closure_is{env:Rt}{scope:Q9}(h:∀n,(n,NameKind.free)∈scope.names->∃c,env.cells.lookup n=be c):
  ∃cl,closureFor scope env=pure cl/\(∀n c,cl.lookup n=be c->env.cells.lookup n=be c)/\∀n,(n,NameKind.free)∈scope.names->∃c,cl.lookup n=be c:=by
 obtain⟨cl,e,p1,p2,_⟩:=jF scope.names [] h;refine#[cl,?_,λn c q=>(p1 n c q).elim id (λz=>nomatch z),p2];unfold closureFor;show(forIn (m:=Sb) scope.names [] _>>=λs=>pure s)=pure cl;rw[e];rfl
def gk{env:Rt}:∀{names:List (t6×Ri)} {n:t6} {k:Ri},(∀y∈names,y.2≠.cell)->k=.cell\/k=.free->
  (names.map λ(n,k)=>if(k==NameKind.free&&env.scope.kind== .function&&env.kindOf n==be .cell)then(n,NameKind.cell)else(n,k)).lookup n=be k->(n,NameKind.free)∈names
 |[],_,_,_,_,h=>by simp at h
 |(a,b)::r,n,k,hc,hk,h=>by
  rw[Fi]at h;by_cases hb:(b==NameKind.free&&env.scope.kind== .function&&env.kindOf a==be .cell)=true
  .have eb:b=.free:=by
    have:=(Fv _ _ ▸ ((Fv _ _ ▸ hb).1)).1;simpa using this
   simp only[hb,if_true]at h;rw[Fq]at h;split at h
   .rename_i q;have en:n=a:=by simpa using q
    subst en eb;exact Fd
   .exact Fc _ (gk (λy q=>hc y (Fc _ q)) hk h)
  .simp only[hb]at h;rw[if_neg IV,Fq]at h;split at h
   .rename_i q;have en:n=a:=by simpa using q
    cases h;subst en;rcases hk with z|z
    .exact absurd z (hc _ Fd)
    .rw[z];exact Fd
   .exact Fc _ (gk (λy q=>hc y (Fc _ q)) hk h)
section
variable {prog:QH}{w:QL}{A:QM}{R:Result->KM->Prop}{s:KM}
abbrev rk(g8:List QG)(env:Rt):Sb Bool:=forIn g8 true λc r=>if r=true then do let ok <-isTrue c env (QS c env);pure (ForInStep.yield ok)else pure (ForInStep.yield r)
def yp{f6 f8 iter:QG}{g8:List QG}{scope:Q9}{pos:QT}{it p8:KB}{env:Rt}(I:Nat->KM->Prop)
  (b_:∀n s,I n s->QI (QJ prog w) A (pyNext it) (λr s₁=>match r with
   |none=>R (.ok .next) s₁
   |some v=>QI (QJ prog w) A (RA f8 it v) (λ_ s₁'=>QI (QJ prog w) A (Rk f8 env v) (λ_ s₂=>QI (QJ prog w) A (rk g8 env) (λok s₂'=>if ok=true then QI (QJ prog w) A (QS f6 env) (λx s₃=>
     QI (QJ prog w) A (call (.builtin "list.append") [p8,x]) (λ_ s₄=>∃m,m<n/\I m s₄) (λ_ _=>False) s₃)
     (λ_ _=>False) s₂' else ∃m,m<n/\I m s₂') (λ_ _=>False) s₂) (λ_ _=>False) s₁') (λ_ _=>False) s₁) (λ_ _=>False) s)
  (n:Nat) (h:I n s):
  RD (QJ prog w) A (.compLoop (.ListComp f6 [#[f8,iter,g8,0]] scope pos) 0 it p8 env) R s:=by
 refine codeAny_loop rfl I (λn s hI=>?_) n h;show QI _ _ ((compTurn (.ListComp f6 [#[f8,iter,g8,0]] scope pos) 0 it p8 env).onRaise (λx=>do Rw x env;theTreesLotGoes x)) _ _ s;refine wpAny_noted ?_;rw[compTurn_list];refine Os (Q_ (Os (QV (b_ n s hI) (λr s₁ h₁=>?_) λ_ _ h'=>h'.elim)));cases r with
 |none=>exact QK h₁
 |some v=>
  refine Os (QV h₁ (λ_ s₁' h₁'=>Os (QV h₁' (λ_ s₂ h₂=>Os (QV h₂ (λok s₃ h₃=>?_) λ_ _ h'=>h'.elim)) λ_ _ h'=>h'.elim)) λ_ _ h'=>h'.elim);cases ok with
  |false=>exact QK #[rfl,h₃]
  |true=>
   exact Os (Os (QV h₃ (λx s₄ h₄=>Os (QV h₄ (λ_ s₅ h₅=>QK (QK #[rfl,h₅])) λ_ _ h'=>h'.elim)) λ_ _ h'=>h'.elim))
end
def bA(X:Cx)(scope:Q9)(cl:List (t6×KF))(x:t6)(s₀:KM)(H₀:Hp)(fp:List KF):Cx where
 prog:=X.prog
 w:=X.w
 K:=X.K
 mg:=X.mg
 base:=X.base
 A:=X.A
 N:=X.N.map (λn=>if n=x then("":t6)else n)++[x]
 s₀:=s₀
 H₀:=H₀
 env:=compEnvC scope cl s₀.heap.objs.size X.env
 outer:=X.stack
 stack:=X.stack
 ex:=fp
 fn:=λ_=>false
 calm:=X.calm
 pn:=[]
 xe:=λ_ _=>False
structure CompScope(X:Cx)(scope:Q9)(x:Str):Prop where
 kind:scope.kind=.function
 nocell:∀y∈scope.names,y.2≠.cell
 names:∀y∈scope.names,y.2=.local->scope.names.lookup y.1=be .local
 own:scope.names.lookup x=be .local
 free:∀n,(n,NameKind.free)∈scope.names->X.env.kindOf n=be .cell
 vis:∀n∈X.N,n≠x->Vis (Sl scope X.env) n->(n,NameKind.free)∈scope.names
 empty:¬Vis (Sl scope X.env) ("":t6)
 cells:∀n,(n,NameKind.free)∈scope.names->(Sl scope X.env).names.lookup n=be .cell
 nd:(X.N.map (λn=>if n=x then("":t6)else n)++[x]).Nodup
section
variable {X:Cx}{pins:List (KF×QY)}{σ:St}{H:Hp}{s:KM}{scope:Q9}{cl:List (t6×KF)}{x:t6}{fp:List KF}
def rl(I:Inv X pins σ H s)(S:CompScope X scope x)(c1:∀n c,cl.lookup n=be c->X.env.cells.lookup n=be c)(c2:∀n,(n,NameKind.free)∈scope.names->∃c,cl.lookup n=be c)
  (hf:∀b∈fp,FpOk X pins H b) (hl:∀b∈fp,b<s.heap.objs.size):(bA X scope cl x s H fp).Ok where
 mod:=I.ok.mod
 kind:=S.kind
 glob:=I.ok.glob
 blt:=I.ok.blt
 above:=E5 _
 inj:=λy z c h1 h2=>I.ok.inj y z c (c1 y c h1) (c1 z c h2)
 has:=λn hn=>by
  rcases hn with hn|hn
  .exact c2 n (gk S.nocell (.inl rfl) hn)
  .exact c2 n (gk S.nocell (.inr rfl) hn)
 cab:=λ_ _ h=>nomatch h
 hd:=I.ok.hd
 frames:=I.ok.frames
 stk:=.inl rfl
 exf:=λb hb=>#[Ff (hl b hb),λy c h=>(hf b hb).2.2.2.2.1 y c (c1 y c h)]
 bs:=I.bs
 bsz:=Fh I.ok.bsz I.sz
 noex:=λb o e hb=>by
  have h1:=I.ok.noex b o e;rcases(hf b hb).2.2.2.1 with z|z
  .exact h1 z
  .exact absurd (Fz (Heap.lt_size e) (Fh I.ok.bsz z)) (Gc _)
 exfs:=λb hb hs=>by
  rcases E8.mp (I.stkSub b hs)with z|z
  .exact(hf b hb).2.1 z
  .exact(hf b hb).2.2.1 z
 funs:=I.stack
 frf:=I.stkFree
def rn{h':QN}{t':Nat}(I:Inv X pins σ H s)(S:CompScope X scope x)(c1:∀n c,cl.lookup n=be c->X.env.cells.lookup n=be c)(c2:∀n,(n,NameKind.free)∈scope.names->∃c,cl.lookup n=be c)
  (hf:∀b∈fp,FpOk X pins H b) (hl:∀b∈fp,b<s.heap.objs.size) {m:t6->Option KB} (hn:h'.Ns s.heap.objs.size m) (k:∀b o,s.heap.get? b=be o->h'.get? b=be o):
  Inv (bA X scope cl x s H fp) [] (σ++[m_]) H {s with heap:=h',toks:=t'}:=by
 refine#[rl I S c1 c2 hf hl,rfl,I.bare,Un.kept k,#[m,hn,λi n v e1 e2 e3=>?_],λn c e=>?_,I.hok.fresh (E5 _),λn c e=>I.freeC n c (c1 n c e),λp hp=>absurd (show p∈([]:List (KF×QY))from hp) IV,I.hok.kept k,?_]
 .have hi:i<σ.length:=by
   rcases Gk i σ.length with q|q
   .exact q
   .rw[FV q]at e2;cases hz:i-σ.length with
    |zero=>rw[hz]at e2;simp at e2
    |succ z=>rw[hz]at e2;simp at e2
  rw[FK hi]at e2;have KZ:i<X.N.length:=by rw[<-I.len];exact hi
  have Jt:(X.N.map (λn=>if n=x then("":t6)else n)++[x])[i]?=be n:=e1;rw[FK (by simpa using KZ),Fg,Fo KZ]at Jt;simp only[G8,Option.some.injEq]at Jt;by_cases hx:X.N[i]=x
  .rw[if_pos hx]at Jt;subst Jt;exact absurd e3 S.empty
  .rw[if_neg hx]at Jt;subst Jt;have h_:=S.vis _ (FC KZ) hx e3;have j8:=S.free _ h_;obtain⟨c,hc⟩:=c2 _ h_;obtain⟨mX,Qc,OR⟩:=I.loc;obtain⟨u,ru,lk⟩:=OR i X.N[i] v (Fo KZ) e2 (.inr (.inl j8));refine#[u,ru,.inr #[?_,c,hc,?_]]
   .exact .inl (S.cells _ h_)
   .rcases lk with⟨kl,_⟩|⟨_,c',H_,t9⟩
    .rw[j8]at kl;cases kl
    .have:c=c':=by
      have:=c1 _ c hc;rw[H_]at this;exact(Option.some.inj this).symm
     subst this;obtain⟨o,ho,hd⟩:=t9;exact#[o,k _ _ ho,hd]
 .obtain⟨v,o,ho,hd⟩:=I.cell n c (c1 n c e);exact#[v,o,k _ _ ho,hd]
 .show(σ++[m_]).length=(X.N.map _++[x]).length;rw[Fn,Fn,E9,I.len];rfl
end
def gl(wi:TI)(tt:TT)(f9:TE):TE:=λσ H Q=>wi σ H λJ H1=>∀D,H1 D=m_->∃W:Nat->Nat->Hp->Prop,(∃m,W 0 m (upd H1 D (.lst [])))/\∀i m H,W i m H->
 (J.stop i H/\Q (.ref D) H)\/(J.go i H/\∀x H',J.yld i H x H'->tt (σ++[be x]) H' λb H1=>if b=true then f9 (σ++[be x]) H1 λy H''=>∃vs,H'' D=be (.lst vs)/\vs.length<sizeLine/\∃m',m'<m/\W (i+1) m' (upd H'' D (.lst (vs++[y])))else ∃m',m'<m/\W (i+1) m' H1)
def PIf(X:Cx)(g8:List QG)(t:TT):Prop:=
 ∀(pins:List (KF×QY)) (s:KM) (σ:St) (H:Hp) (Q:Bool->Hp->Prop),Inv X pins σ H s->t σ H Q->QI (QJ X.prog X.w) X.A (rk g8 X.env) (TP X pins σ Q) X.xe s
variable{X:Cx}
def pif_nil:PIf X [] (λ_ H Q=>Q true H):=λpins s σ H Q I q=>wpAny_tests_nil #[H,I,q]
def yq{c:QG}{t:TT}(h:PT X c t):PIf X [c] t:=λpins s σ H Q I q=>wpAny_tests_one (h pins s σ H Q I q)
def PIf.anti{e:List QG}{t t':TT}(h:PIf X e t)(a:∀s H Q,t' s H Q->t s H Q):PIf X e t':=λpins s σ H Q I q=>h pins s σ H Q I (a _ _ _ q)
section
variable {X:Cx}
variable{f6 iter:QG}{g8:List QG}{x:t6}{px pos:QT}{scope:Q9}{tt:TT}{f9:TE}
def rq{pins:List (KF×QY)}{s2:KM}{σ:St}{H1:Hp}{cl:List (t6×KF)}{it:KF}{fp:List KF}{tn:Nat->QN->Prop}{J:It}{Qs:Hp->Prop}{R:Result->KM->Prop}{W:Nat->Nat->Hp->Prop}{m0:Nat}{h₁:QN}(hc:X.calm=true)(S:CompScope X scope x)
  (hq:∀cl s₀ H₀ fp,PIf (bA X scope cl x s₀ H₀ fp) g8 tt) (he:∀cl s₀ H₀ fp,PE (bA X scope cl x s₀ H₀ fp) f6 f9) (c1:∀n c,cl.lookup n=be c->X.env.cells.lookup n=be c) (c2:∀n,(n,NameKind.free)∈scope.names->∃c,cl.lookup n=be c)
  (I1:Inv X pins σ H1 s2) (T:Turn X.prog X.w X.K (.Name x px) J fp it tn) (st:tn 0 s2.heap) (f1:∀b∈fp,FpOk X pins H1 b) (w0:W 0 m0 (upd H1 s2.heap.objs.size (.lst [])))
  (step:∀i m H,W i m H->(J.stop i H/\Qs H)\/(J.go i H/\∀x H',J.yld i H x H'->tt (σ++[be x]) H' λb H1=>if b=true then f9 (σ++[be x]) H1 λy H''=>∃vs,H'' s2.heap.objs.size=be (.lst vs)/\vs.length<sizeLine/\∃m',m'<m/\W (i+1) m' (upd H'' s2.heap.objs.size (.lst (vs++[y])))else ∃m',m'<m/\W (i+1) m' H1))
  (I4:Inv (bA X scope cl x {s2 with heap:=s2.heap.push {cls:=.type "list",data:=.seq ([]:List KB).toArray},toks:=s2.toks} (upd H1 s2.heap.objs.size (.lst [])) fp) [] (σ++[m_]) (upd H1 s2.heap.objs.size (.lst [])) {s2 with heap:=h₁,toks:=s2.toks+([]:List (t6×KB)).length}) (t0:tn 0 h₁)
  (Ly:∀H' s4 m,Inv X pins σ H' s4->s4.heap.Ns (s2.heap.push {cls:=.type "list",data:=.seq ([]:List KB).toArray}).objs.size m->H' (s2.heap.push {cls:=.type "list",data:=.seq ([]:List KB).toArray}).objs.size=m_->Qs H'->R (.ok .next) s4):
  RD (QJ X.prog X.w) X.A (.compLoop (.ListComp f6 [#[.Name x px,iter,g8,0]] scope pos) 0 (.ref it) (.ref s2.heap.objs.size) (compEnvC scope cl (s2.heap.push {cls:=.type "list",data:=.seq ([]:List KB).toArray}).objs.size X.env)) R {s2 with heap:=h₁,toks:=s2.toks+([]:List (t6×KB)).length}:=by
 have f7:∀b∈fp,b<s2.heap.objs.size:=λb hb=>by
  obtain⟨o,ho,_⟩:=T.obj _ _ st b hb;exact Heap.lt_size ho
 have I3:Inv X pins σ (upd H1 s2.heap.objs.size (.lst [])) {s2 with heap:=s2.heap.push {cls:=.type "list",data:=.seq ([]:List KB).toArray},toks:=s2.toks}:=I1.lnew (its:=[]) (ys:=[]) .nil (FB _);have ge:∀b∈fp,b<(s2.heap.push {cls:=.type "list",data:=.seq ([]:List KB).toArray}).objs.size:=λb hb=>by
  rw[Heap.size_push];exact G9 (f7 b hb)
 have w_:∀b∈fp,FpOk X pins (upd H1 s2.heap.objs.size (.lst [])) b:=λb hb=>#[by rw[ay (Ff (f7 b hb))];exact(f1 b hb).1,(f1 b hb).2];have K0:=rl (x:=x) (fp:=fp) I3 S c1 c2 w_ ge;generalize hY:bA X scope cl x {s2 with heap:=s2.heap.push {cls:=.type "list",data:=.seq ([]:List KB).toArray},toks:=s2.toks} (upd H1 s2.heap.objs.size (.lst [])) fp=Y at I4 K0;have yP:Y.prog=X.prog:=Np
 have yW:Y.w=X.w:=Np
 have yK:Y.K=X.K:=Np
 have yA:Y.A=X.A:=Np
 have yN:Y.N=X.N.map (λn=>if n=x then("":t6)else n)++[x]:=Np
 have yE:Y.env=compEnvC scope cl (s2.heap.push {cls:=.type "list",data:=.seq ([]:List KB).toArray}).objs.size X.env:=Np
 have yX:Y.xe=λ_ _=>False:=Np
 have yC:Y.calm=true:=by rw[<-hY];exact hc
 have Nz:Y.ex=fp:=Np
 have OS:Y.pn=[]:=Np
 have OT:Y.fs=frs X.stack:=Np
 have OU:Y.H₀=upd H1 s2.heap.objs.size (.lst []):=Np
 have NA:Y.s₀={s2 with heap:=s2.heap.push {cls:=.type "list",data:=.seq ([]:List KB).toArray},toks:=s2.toks}:=Np
 have OV:PE Y f6 f9:=by rw[<-hY];exact he _ _ _ _
 have OW:PIf Y g8 tt:=by rw[<-hY];exact hq _ _ _ _
 have l7:∀{H':Hp},(∀b∈fp,H' b=m_)->∀b∈fp,FpOk Y [] H' b:=λ{H'} hn b hb=>by
  have p9:b∈Y.ex:=by rw[Nz];exact hb
  exact#[hn b hb,(K0.exf b p9).1,K0.exfs b p9,.inl p9,λn c e=>(K0.exf b p9).2 n c e,by rw[OS];simp]
 have J_:Y.env.scope.names.lookup x=be .local:=by rw[yE];exact lookup_relabel_local S.own
 have Lz:Y.N[X.N.length]?=be x:=by rw[yN];simp
 have OX:Y.N.Nodup:=by rw[yN];exact S.nd
 have LA:Y.env.locals=(s2.heap.push {cls:=.type "list",data:=.seq ([]:List KB).toArray}).objs.size:=by rw[yE];rfl
 have d8:∀(o:Option V) (H':Hp) (s':KM),Inv Y [] (σ++[o]) H' s'->Inv X pins σ H' s':=λo H' s' I'=>by
  have bs:=I'.base;rw[OT,Nz,OU,NA]at bs;refine I3.call' (ch:=fp) ?_ bs ?_ I'.bare ?_
  .have:=I'.os;rw[NA]at this;exact this
  .have:=I'.hok;rw[yP,yW]at this;exact this
  .exact λb hb=>#[(w_ b hb).2.2.2.1,(w_ b hb).2.1,(w_ b hb).2.2.2.2.1,(w_ b hb).2.2.2.2.2]
 refine yp (λn s'=>∃i o H',Inv Y [] (σ++[o]) H' s'/\tn i s'.heap/\(∀b∈fp,H' b=m_)/\W i n H') ?_ m0 #[0,m_,_,I4,t0,λb hb=>(w_ b hb).1,w0];rintro n s3⟨i,o,H3,I5,t3,f3,w3⟩;rcases step i n H3 w3 with⟨stop,q⟩|⟨go,q⟩
 .have dn:=T.done Y yP yW yK yC i [] s3 _ H3 (λ_ _=>False) I5 (l7 f3) t3 stop;rw[yA]at dn;refine thn dn λr s4 b9=>?_;obtain⟨hr,I6⟩:=b9;subst hr;obtain⟨m,hn,_⟩:=I6.loc;have hfr:=I6.free;rw[LA]at hn hfr;exact Ly H3 s4 m (d8 o H3 s4 I6) hn hfr q
 .have NC:=T.item Y yP yW yK yC i [] s3 _ H3 (λ_ _=>False) I5 (l7 f3) t3 go;rw[yA]at NC;refine thn NC λr s4 b9=>?_;obtain⟨u,hr,h4⟩:=b9;subst hr;refine thn h4 λ_ s5 b9=>?_;obtain⟨xv,H5,I6,r5,y5,y9,Lm⟩:=b9;have OY:=I6.pinned (l7 Lm) (T.obj _ _ y9);rw[<-yE];refine RH (eQ OY OX Lz (.inl J_) r5 (λs6 I7=>?_) (.inr J_));have LB:(σ++[o]).set X.N.length (be xv)=σ++[be xv]:=by
   rw[<-I1.len];simp
  rw[LB]at I7;have tv:=OW _ s6 _ H5 _ I7 (q xv H5 y5);rw[yP,yW,yA,yX]at tv;refine thn tv λb OZ b9=>?_;obtain⟨O0,K1,qb⟩:=b9;cases b with
  |false=>
   obtain⟨m',hm,w7⟩:=qb;refine#[m',hm,i+1,be xv,_,K1.unpinned,T.keep _ _ _ y9 λb hb ob e=>(K1.pin (b,ob) (Fx _ (Fx _ (dG hb e)))).1,λb hb=>?_,w7];obtain⟨ob,e,d⟩:=T.obj _ _ y9 b hb;exact(K1.pin (b,ob) (Fx _ (Fx _ (dG hb e)))).2.1
  |true=>
  have ev:=OV _ OZ _ O0 _ K1 qb;rw[yP,yW,yA,yX]at ev;refine thn ev λyv s7 b9=>?_;obtain⟨y,H6,I8,ry,vs,O1,a_,m',hm,w7⟩:=b9;have ap:=jp (X:=Y) _ s7 _ H6 (.ref s2.heap.objs.size) [y] (.ref s2.heap.objs.size) [yv] (λ_ H7=>H7=upd H6 s2.heap.objs.size (.lst (vs++[y]))) I8 rfl (.cons ry .nil) #[_,vs,y,rfl,rfl,O1,a_,rfl];rw[yP,yW,yA,yX]at ap;refine thn ap λ_ s8 b9=>?_;obtain⟨_,H7,I9,_,e7⟩:=b9;subst e7;refine#[m',hm,i+1,be xv,_,I9.unpinned,T.keep _ _ _ y9 λb hb ob e=>(I9.pin (b,ob) (Fx _ (Fx _ (dG hb e)))).1,λb hb=>?_,w7];obtain⟨ob,e,d⟩:=T.obj _ _ y9 b hb;exact(I9.pin (b,ob) (Fx _ (Fx _ (dG hb e)))).2.1
def jG{wi:TI}(hc:X.calm=true)(S:CompScope X scope x)(hi:PI X (.Name x px) iter wi)
  (hq:∀cl s₀ H₀ fp,PIf (bA X scope cl x s₀ H₀ fp) g8 tt) (he:∀cl s₀ H₀ fp,PE (bA X scope cl x s₀ H₀ fp) f6 f9) (hs:autoParam (∀y,zFS X iter y) zA2):
  PE X (.ListComp f6 [#[.Name x px,iter,g8,0]] scope pos) (gl wi tt f9):=by
 intro pins s σ H Q I h;obtain⟨cl,t9,c1,c2⟩:=closure_is (env:=X.env) (scope:=scope) (λn q=>I.ok.has n (.inl (S.free n q)));rw[eval_ListComp];refine RW (use:=m_) rfl hs t9 S.kind S.names (thn (hi pins s σ H _ I h) λv s1 h1=>thn h1 λKL s2 h2=>?_);obtain⟨it,fp,tn,J,H1,e,I1,T,st,f1,hr⟩:=h2;subst e;have f7:∀b∈fp,b<s2.heap.objs.size:=λb hb=>by
  obtain⟨o,ho,_⟩:=T.obj _ _ st b hb;exact Heap.lt_size ho
 have hD:H1 s2.heap.objs.size=none:=I1.hok.fresh (E5 _);obtain⟨W,⟨m0,w0⟩,step⟩:=hr _ hD;refine QU (R' S.nocell (by intro y hy;simp at hy) (λh₁ hns₁ hsb₁=>?_) S.kind);have I3:Inv X pins σ (upd H1 s2.heap.objs.size (.lst [])) {s2 with heap:=s2.heap.push {cls:=.type "list",data:=.seq ([]:List KB).toArray},toks:=s2.toks}:=I1.lnew (its:=[]) (ys:=[]) .nil (FB _);have ge:∀b∈fp,b<(s2.heap.push {cls:=.type "list",data:=.seq ([]:List KB).toArray}).objs.size:=λb hb=>by
  rw[Heap.size_push];exact G9 (f7 b hb)
 have w_:∀b∈fp,FpOk X pins (upd H1 s2.heap.objs.size (.lst [])) b:=λb hb=>#[by rw[ay (Ff (f7 b hb))];exact(f1 b hb).1,(f1 b hb).2];have kp:∀b o,(s2.heap.push {cls:=.type "list",data:=.seq ([]:List KB).toArray}).get? b=be o->h₁.get? b=be o:=λb o e=>
  (hsb₁.2 b (Ff (Heap.lt_size e))).trans (Heap.get?_push_of_some _ e)
 have I4:=rn (x:=x) (fp:=fp) (t':=s2.toks+([]:List (t6×KB)).length) I3 S c1 c2 w_ ge hns₁ kp;have z_:(s2.heap.push {cls:=.type "list",data:=.seq ([]:List KB).toArray}).objs.size≠X.env.locals:=F5 I3.lt;have A':∀z c,X.env.cells.lookup z=be c->c≠(s2.heap.push {cls:=.type "list",data:=.seq ([]:List KB).toArray}).objs.size:=λz c e=>by
  obtain⟨vv,oo,ho,_⟩:=I3.cell z c e;exact Ff (Heap.lt_size ho)
 have Ja:∀p∈X.pn++pins,p.1≠(s2.heap.push {cls:=.type "list",data:=.seq ([]:List KB).toArray}).objs.size:=λp hp=>Ff (Heap.lt_size (I3.pin p hp).1);have o8:=rq (pos:=pos) (iter:=iter) (R:=compPost (QJ X.prog X.w) X.A X.xe m_ (EP X pins σ Q) (.ref s2.heap.objs.size) (s2.heap.push {cls:=.type "list",data:=.seq ([]:List KB).toArray}).objs.size) hc S hq he c1 c2 I1 T st f1 w0 step I4 (T.keep _ _ _ st (λb hb ob e=>kp b ob (Heap.get?_push_of_some _ e))) λH' s4 m IX hn hfr q=>
  #[m,hn,λh' hsb=>#[.ref s2.heap.objs.size,H',IX.turned (t':=s4.toks) (it:=(s2.heap.push {cls:=.type "list",data:=.seq ([]:List KB).toArray}).objs.size) (λb ob hb e=>(hsb.2 b hb).trans e) hfr z_ (.inr I3.sz) A' Ja,rfl,q]]
 exact R8 o8 (T.self _ _ _ _ _ (T.keep _ _ _ st (λb hb ob e=>kp b ob (Heap.get?_push_of_some _ e))) o8)
def rz{y:t6}{py k7:QT}{wi:TI}{ix:Nat}(hc:X.calm=true)(S:CompScope X scope x)(hi:PI X (.Name x px) iter wi)
  (hq:∀cl s₀ H₀ fp,PIf (bA X scope cl x s₀ H₀ fp) g8 tt) (he:∀cl s₀ H₀ fp,PE (bA X scope cl x s₀ H₀ fp) f6 f9) (hN:X.N.Nodup) (Ka:X.N[ix]?=be y) (hy:Loc X.env.scope y) (hf:zFN X y)
  (z9:Q1 (.ListComp f6 [#[.Name x px,iter,g8,0]] scope pos) (be (.Name y py)) k7.line X.env=pure true) (hs:autoParam (∀y,zFS X iter y) zA2):
  PS X (.Assign [.Name y py] (.ListComp f6 [#[.Name x px,iter,g8,0]] scope pos) k7) (tAsg (gl wi tt f9) (fK ix)):=by
 intro pins s σ H DE I h;have h:wi σ H λJ H1=>∀D,H1 D=m_->∃W:Nat->Nat->Hp->Prop,(∃m,W 0 m (upd H1 D (.lst [])))/\∀i m H,W i m H->
  (J.stop i H/\DE.nx (σ.set ix (be (.ref D))) H)\/(J.go i H/\∀x H',J.yld i H x H'->tt (σ++[be x]) H' λb H1=>if b=true then f9 (σ++[be x]) H1 λy H''=>∃vs,H'' D=be (.lst vs)/\vs.length<sizeLine/\∃m',m'<m/\W (i+1) m' (upd H'' D (.lst (vs++[y])))else ∃m',m'<m/\W (i+1) m' H1):=h
 obtain⟨cl,t9,c1,c2⟩:=closure_is (env:=X.env) (scope:=scope) (λn q=>I.ok.has n (.inl (S.free n q)));rw[exec_Assign_Name_used _ _ _ _ z9];refine Os (Q_ (Os ?_));show QI _ X.A (do let _ <-comprehension (.ListComp f6 [#[.Name x px,iter,g8,0]] scope pos) scope X.env _ (newList []) false (QS iter X.env) (be (Rk (.Name y py) X.env))) _ _ s;refine Os (QV (RW (use:=be (Rk (.Name y py) X.env)) (Q:=λ_ s'=>SP X pins DE .next s') rfl hs t9 S.kind S.names
  (thn (hi pins s σ H _ I h) λv s1 h1=>thn h1 λKL s2 h2=>?_)) (λ_ s' hq=>QK (QK hq)) λ_ _ e=>e)
 obtain⟨it,fp,tn,J,H1,e,I1,T,st,f1,hr⟩:=h2;subst e;have f7:∀b∈fp,b<s2.heap.objs.size:=λb hb=>by
  obtain⟨o,ho,_⟩:=T.obj _ _ st b hb;exact Heap.lt_size ho
 have hD:H1 s2.heap.objs.size=none:=I1.hok.fresh (E5 _);obtain⟨W,⟨m0,w0⟩,step⟩:=hr _ hD;refine QU (R' S.nocell (by intro y hy;simp at hy) (λh₁ hns₁ hsb₁=>?_) S.kind);have I3:Inv X pins σ (upd H1 s2.heap.objs.size (.lst [])) {s2 with heap:=s2.heap.push {cls:=.type "list",data:=.seq ([]:List KB).toArray},toks:=s2.toks}:=I1.lnew (its:=[]) (ys:=[]) .nil (FB _);have ge:∀b∈fp,b<(s2.heap.push {cls:=.type "list",data:=.seq ([]:List KB).toArray}).objs.size:=λb hb=>by
  rw[Heap.size_push];exact G9 (f7 b hb)
 have w_:∀b∈fp,FpOk X pins (upd H1 s2.heap.objs.size (.lst [])) b:=λb hb=>#[by rw[ay (Ff (f7 b hb))];exact(f1 b hb).1,(f1 b hb).2];have kp:∀b o,(s2.heap.push {cls:=.type "list",data:=.seq ([]:List KB).toArray}).get? b=be o->h₁.get? b=be o:=λb o e=>
  (hsb₁.2 b (Ff (Heap.lt_size e))).trans (Heap.get?_push_of_some _ e)
 have I4:=rn (x:=x) (fp:=fp) (t':=s2.toks+([]:List (t6×KB)).length) I3 S c1 c2 w_ ge hns₁ kp;have z_:(s2.heap.push {cls:=.type "list",data:=.seq ([]:List KB).toArray}).objs.size≠X.env.locals:=F5 I3.lt;have A':∀z c,X.env.cells.lookup z=be c->c≠(s2.heap.push {cls:=.type "list",data:=.seq ([]:List KB).toArray}).objs.size:=λz c e=>by
  obtain⟨vv,oo,ho,_⟩:=I3.cell z c e;exact Ff (Heap.lt_size ho)
 have Ja:∀p∈X.pn++pins,p.1≠(s2.heap.push {cls:=.type "list",data:=.seq ([]:List KB).toArray}).objs.size:=λp hp=>Ff (Heap.lt_size (I3.pin p hp).1);have o8:=rq (pos:=pos) (iter:=iter) (R:=compPost (QJ X.prog X.w) X.A X.xe (be (Rk (.Name y py) X.env)) (λ_ s'=>SP X pins DE .next s') (.ref s2.heap.objs.size) (s2.heap.push {cls:=.type "list",data:=.seq ([]:List KB).toArray}).objs.size) hc S hq he c1 c2 I1 T st f1 w0 step I4 (T.keep _ _ _ st (λb hb ob e=>kp b ob (Heap.get?_push_of_some _ e))) λH' s4 m IX hn hfr q=>by
  show QI _ X.A (Rk (.Name y py) X.env (.ref s2.heap.objs.size)) _ _ s4;refine RH (pD IX hN Ka hy (v:=.ref s2.heap.objs.size) rfl (λs5 I7 ⟨a,hsb,ha⟩=>?_) hf);have LC:(s2.heap.push {cls:=.type "list",data:=.seq ([]:List KB).toArray}).objs.size≠a:=by
   rcases ha with e|e
   .rw[e];exact z_
   .exact λz=>A' y a e z.symm
  exact#[m,hn.sameBut hsb LC,λh' IB=>#[_,H',I7.turned (t':=s5.toks) (it:=(s2.heap.push {cls:=.type "list",data:=.seq ([]:List KB).toArray}).objs.size) (λb ob hb e=>(IB.2 b hb).trans e) hfr z_ (.inr I3.sz) A' Ja,q]]
 exact R8 o8 (T.self _ _ _ _ _ (T.keep _ _ _ st (λb hb ob e=>kp b ob (Heap.get?_push_of_some _ e))) o8)
end
end L2
namespace My
def RepS.snoc{K:Ex}{B F H:Hp}{z:SD}{s:L2.St}{d:D}{v:V}(h:RepS K B F H z s)(r:Rep K F d v):RepS K B F H (z++[be d]) (s++[be v]):=by
 have no:=r.noown;have get:∀{j:Nat} {x:D},(z++[be d])[j]?=be (be x)->(j<z.length/\z[j]?=be (be x))\/(j=z.length/\x=d):=λ{j x} e=>by
  rcases Gk j z.length with q|q
  .rw[FK q]at e;exact .inl #[q,e]
  .rw[FV q]at e;cases hz:j-z.length with
   |zero=>rw[hz]at e;simp at e;exact .inr #[t8,e.symm]
   |succ n=>rw[hz]at e;simp at e
 have lt:∀{j:Nat},j<z.length->(s++[be v])[j]?=s[j]?:=λ{j} q=>FK (by rw[h.len];exact q);refine#[by rw[Fn,Fn,h.len];rfl,λj x e nx=>?_,λj ds e=>?_,λj k dj dk a e1 e2 e3 e4=>?_]
 .rcases get e with⟨q,e⟩|⟨q,rfl⟩
  .rw[lt q];exact h.val j x e nx
  .exact#[v,by rw[q,FV (by rw[h.len];exact E5 _),h.len];simp,r]
 .rcases get e with⟨q,e⟩|⟨q,e⟩
  .rw[lt q];exact h.own j ds e
  .rw[<-e]at no;cases no
 .rcases get e1 with⟨q,e1⟩|⟨q,e1⟩
  .rcases get e2 with⟨q2,e2⟩|⟨q2,e2⟩
   .rw[lt q]at e3;rw[lt q2]at e4;exact h.apart j k dj dk a e1 e2 e3 e4
   .rw[<-e2]at no;cases no
  .rw[<-e1]at no;cases no
def okB:Bool->Bool->Prop->Prop->Prop
 |_,true,A,_=>A
 |false,false,_,B=>B
 |true,false,_,_=>False
def okF{b:Bool}{A B:Prop}(h1:b=true->A)(h2:b=false->B):okB false b A B:=by
 cases b
 .exact h2 rfl
 .exact h1 rfl
def cmpG(nf:Bool)(tt:TDT)(te:TD)(z:SD)(R:D->Prop)(items:List D):Prop:=items.length<=100000/\∃W:Nat->List D->Prop,W 0 []/\(∀k x ys,items[k]?=be x->(nf=true->ys.length=k)->W k ys->tt (z++[be x]) λb=>okB nf b (te (z++[be x]) λy=>W (k+1) (ys++[y])) (W (k+1) ys))/\∀ys,(nf=true->ys.length=items.length)->W items.length ys->R (.lst ys)
def cmpF(tt:TDT)(te:TD)(z:SD)(R:D->Prop)(items:List D):Prop:=items.length<=100000/\∃W:Nat->List D->Prop,W 0 []/\(∀k x ys,items[k]?=be x->W k ys->tt (z++[be x]) λb=>okB false b (te (z++[be x]) λy=>W (k+1) (ys++[y])) (W (k+1) ys))/\∀ys,W items.length ys->R (.lst ys)
def cmpP(te:TD)(z:SD)(R:D->Prop)(items:List D):Prop:=items.length<=100000/\∃W:Nat->List D->Prop,W 0 []/\(∀k x ys,items[k]?=be x->ys.length=k->W k ys->te (z++[be x]) λy=>W (k+1) (ys++[y]))/\∀ys,ys.length=items.length->W items.length ys->R (.lst ys)
def gm(ti:TDI)(te:TD):TD:=λz R=>ti z (cmpP te z R)
def rA(ti:TDI)(tt:TDT)(te:TD):TD:=λz R=>ti z (cmpF tt te z R)
def dT1:TDT:=λ_ R=>R true
abbrev DIf(X:Cx)[Jx](g8:List QG)(t:TDT):Prop:=PIf X g8 (lT X.K t)
variable{X:Cx}
def jH[Jx]:DIf X [] dT1:=pif_nil.anti λs H Q q=>by
 obtain⟨B,F,z,kf,rs,R,h1,h2⟩:=q;exact h2 true F H (Grow.refl kf.fh) h1
def rB[Jx]{c:QG}{t:TDT}(h:DT X c t):DIf X [c] t:=yq h
structure ItIs(K:Ex)(J:It)(F1 H1:Hp)(items:List D):Prop where
 go:∀k F' H',Grow F1 H1 F' H'->k<items.length->J.go k H'
 yld:∀k F' H' x H'',Grow F1 H1 F' H'->k<items.length->J.yld k H' x H''->H''=H'/\∃d,items[k]?=be d/\Rep K F' d x
 stop:∀F' H',Grow F1 H1 F' H'->J.stop items.length H'
def ItOk[Jx](K:Ex)(wi:TI)(ti:TDI):Prop:=∀{s:L2.St} {H B F:Hp} {z:SD} {P:List D->Prop} {Q:It->Hp->Prop},Kept B Jx.F0 F H->RepS K B F H z s->ti z P->(∀items J F1 H1,Grow F H F1 H1->P items->ItIs K J F1 H1 items->Q J H1)->wi s H Q
section
variable {X:Cx}
variable{K:Ex}{H:Hp}{z:SD}{s:L2.St}{R:My.D->Prop}{items:List My.D}
def yr[Jx]{B F F1 H1:Hp}{Q:VK}{nf:Bool}{tt:TDT}{te:TD}{J:It}(kf:Kept B Jx.F0 F H)(g1:Grow F H F1 H1)(rs:RepS K B F H z s)(h2:∀D ys us F' H',H D=m_->F' D=m_->Grow F H F' H'->H' D=be (.lst us)->Reps K F' ys us->R (.lst ys)->Q (.ref D) H')
    (it:ItIs K J F1 H1 items) (hd:cmpG nf tt te z R items):
    ∀D,H1 D=m_->∃W:Nat->Nat->Hp->Prop,(∃m,W 0 m (upd H1 D (.lst [])))/\∀i m H,W i m H->
      (J.stop i H/\Q (.ref D) H)\/(J.go i H/\∀x H',J.yld i H x H'->lT K tt (s++[be x]) H' λb H1=>if b=true then lE K te (s++[be x]) H1 λy H''=>∃vs,H'' D=be (.lst vs)/\vs.length<sizeLine/\∃m',m'<m/\W (i+1) m' (upd H'' D (.lst (vs++[y])))else ∃m',m'<m/\W (i+1) m' H1):=by
  intro D hD;obtain⟨hz,W,w0,b_,out⟩:=hd;have O2:F1 D=none:=g1.fh.free hD;have hH:H D=none:=g1.hh.free hD;refine⟨λk m H'=>m=items.length-k/\k<=items.length/\∃F' ys us,Grow F1 H1 F' H'/\H' D=be (.lst us)/\F' D=m_/\Reps K F' ys us/\(ys.length<=k/\(nf=true->ys.length=k))/\W k ys,
    #[items.length,IV,FB _,F1,[],[],#[Same.refl F1,g1.fh.trans (aO hD _),aO hD _,λb h _=>h],aG,O2,reps_nil.mpr rfl,#[E5 _,λ_=>rfl],w0],?_⟩
  rintro k m H'⟨rfl,hk,F',ys,us,G,hu,hF,ry,hl,w⟩;by_cases f7:k<items.length
  . refine .inr #[it.go k F' H' G f7,λx H'' hy=>?_];obtain⟨e,d,hd,rd⟩:=it.yld k F' H' x H'' G f7 hy;subst e;refine#[B,F',z++[be d],kf.grow (g1.trans G),(rs.grow (g1.trans G)).snoc rd,_,b_ k d ys hd hl.2 w,λb F3 H3 g3 hb=>?_];have LD:H3 D=be (.lst us):=g3.hh D _ hu;have ND:F3 D=none:=g3.out D hF (by rw[hu];exact λq=>nomatch q);cases b with
    |false=>
      cases nf with
      |true=>exact hb.elim
      |false=>exact#[items.length-(k+1),t8,rfl,t8,F3,ys,us,G.trans g3,LD,ND,ry.mono g3.ff,#[t8,λz=>nomatch z],hb]
    |true=>
    refine#[B,F3,z++[be d],(kf.grow (g1.trans G)).grow g3,((rs.grow (g1.trans G)).snoc rd).grow g3,_,(show te _ _ from by cases nf<;>exact hb),λy yv F2 H2 g2 hw rv=>?_];have O3:H2 D=be (.lst us):=g2.hh D _ LD;have Jb:F2 D=none:=g2.out D ND (by rw[LD];exact λq=>nomatch q);have Qd:us.length<=k:=by rw[ry.length];exact hl.1
    refine⟨us,O3,by     have:(100000:Nat)<sizeLine:=by decide
                        lia,items.length-(k+1),t8,rfl,t8,F2,ys++[y],us++[yv],?_,aG,Jb,((ry.mono g3.ff).mono g2.ff).append (dP rv),#[Nw,λz=>by simp[hl.2 z]],hw⟩
    have GG:=(G.trans g3).trans g2;refine#[GG.ff,λb o e=>?_,λb o e=>?_,GG.out]
    . have ne:b≠D:=λq=>by rw[q,Jb]at e;cases e
      rw[ay ne];exact GG.fh b o e
    . have ne:b≠D:=λq=>by rw[q,hD]at e;cases e
      rw[ay ne];exact GG.hh b o e
  . have ek:k=items.length:=by lia
    subst ek;exact .inl #[it.stop F' H' G,h2 D ys us F' H' hH hF (g1.trans G) hu ry (out ys hl.2 w)]
def yt{F F' H':Hp}{D:KF}{us:List V}(GG:Grow F H F' H')(hu:H' D=be (.lst us))(hF:F' D=m_)(hH:H D=m_):Grow F H (upd F' D (.lst us)) H':=by
 refine#[GG.ff.trans (aO hF _),λb o e=>?_,GG.hh,λb h1 h3=>?_]
 .by_cases hb:b=D
  .subst hb;rw[aG]at e;cases e;exact hu
  .rw[ay hb]at e;exact GG.fh b o e
 .have ne:b≠D:=λq=>h3 (q ▸ hH);rw[ay ne];exact GG.out b h1 h3
variable {f6 iter:QG}{g8:List QG}{x:t6}{px pos:QT}{scope:Q9}{ti te:TD}{tt:TDT}{wi:TI}{Ju:TDI}
def gp[Jx]{nf:Bool}{G:SD->(D->Prop)->List D->Prop}(hG:∀z R items,G z R items->cmpG nf tt te z R items)(hI:ItOk K wi Ju){Q:VK}(q:lE K (λz R=>Ju z (G z R)) s H Q):gl wi (lT K tt) (lE K te) s H Q:=by
 obtain⟨B,F,z,kf,rs,R,h1,h2⟩:=q;exact hI kf rs h1 λitems J F1 H1 g1 hg it=>yr kf g1 rs (λD ys us F' H' hH hF GG hu ry hR=>h2 (.lst ys) (.ref D) _ H' (yt GG hu hF hH) hR (rep_lst.mpr #[D,us,rfl,aG,ry.mono (aO hF _)])) it (hG _ _ _ hg)
def cmpP.g(h:cmpP te z R items):cmpG true dT1 te z R items:=
 let ⟨hz,W,w0,b_,out⟩:=h
 #[hz,W,w0,λk x ys e l w=>b_ k x ys e (l rfl) w,λys l w=>out ys (l rfl) w]
def cmpF.g(h:cmpF tt te z R items):cmpG false tt te z R items:=
 let ⟨hz,W,w0,b_,out⟩:=h
 #[hz,W,w0,λk x ys e _ w=>b_ k x ys e w,λys _ w=>out ys w]
def itL[Jx]:ItOk K (pO K (lE K ti)) (dItL ti):=λ{s H B F z P Q} kf rs h1 h2=>by
 refine#[B,F,z,kf,rs,_,h1,λd v F1 H1 g1 hd rd=>?_];have key:∀(items:List D) (p:KF) (vs:List V),SqL K F1 p vs->Reps K F1 items vs->P items->∃a,V.ref p=.ref a/\(∃xs,SqL K H1 a xs)/\Q (Itl K a) H1:=λitems p vs hq rr hd=>by
  refine#[p,rfl,#[vs,g1.fh.seq hq],h2 items _ F1 H1 g1 hd #[λk F' H' G hk=>?_,λk F' H' x H'' G hk hy=>?_,λF' H' G=>?_]]
  .have m5:k<vs.length:=by rw[rr.length];exact hk
   exact#[vs,vs[k],G.hh.seq (g1.fh.seq hq),by simp[m5]]
  .obtain⟨e,hy⟩:=hy;obtain⟨d,e2,r2⟩:=rr.get' (hy vs (G.hh.seq (g1.fh.seq hq)));exact#[e,d,e2,r2.mono G.ff]
  .exact#[vs,G.hh.seq (g1.fh.seq hq),by rw[rr.length];exact E5 _]
 split at hd
 .obtain⟨p,vs,rfl,hq,rr⟩:=rep_lst.mp rd;exact key _ p vs (SqL.of hq) rr hd
 .obtain⟨p,vs,rfl,hq,rr⟩:=rep_rol.mp rd;exact key _ p vs hq rr hd
 .exact hd.elim
def itR[Jx]:ItOk K (pQ (fR (lE K ti) tNil)) (dItR ti):=λ{s H B F z P Q} kf rs h1 h2=>by
 refine#[B,F,z,kf,rs,_,h1,λd v F1 H1 g1 hd rd=>?_];split at hd
 .rename_i n;obtain⟨⟨b1,b2⟩,hd⟩:=hd;have hl:((E7 n.toNat).map λk=>D.int ((k:Nat):Int)).length=n.toNat:=by simp
  refine#[n,by rw[rep_int.mp rd],t8,b2,h2 _ _ F1 H1 g1 hd #[λk F' H' G hk=>by rw[hl]at hk;exact hk,λk F' H' x H'' G hk hy=>?_,λF' H' G=>by show n.toNat<=_;rw[hl];exact E5 _]];rw[hl]at hk;obtain⟨e,rfl⟩:=hy;exact#[e,.int (k:Int),by simp[hk],rep_int.mpr (by congr 1;lia)]
 .exact hd.elim
def jI[Jx]{p1 p2:QT}(hc:X.calm=true)(S:CompScope X scope x)(hm:X.mg "range"=m_)(hi:WDE X iter ti)(he:∀cl s₀ H₀ fp,WDE (bA X scope cl x s₀ H₀ fp) f6 te)(hg:autoParam (Gl X "range") zA0)
  (hs:autoParam (∀y,zFS X (.Call (.Name "range" p1) [iter] [] p2) y) zA2) (m4:autoParam (zSE X iter []) zA0) (e_:autoParam (QP [iter] X.env=[(false,QS iter X.env)]) zA0):WDE X (.ListComp f6 [#[.Name x px,.Call (.Name "range" p1) [iter] [] p2,[],0]] scope pos) (gm (dItR ti) te):=#[have hi:=hi.out;have he:=λcl s₀ H₀ fp=>(he cl s₀ H₀ fp).out;(jG hc S (fN hg hm (bz hi pa_nil m4) e_) (λ_ _ _ _=>jH) he hs).anti λs H Q q=>gp (λ_ _ _=>cmpP.g) itR q]
def rC[Jx]{E:Ends}{ix:Nat}(hI:ItOk K wi Ju)(q:lS K (dSet ix (gm Ju te)) E s H):tAsg (gl wi (lT K dT1) (lE K te)) (fK ix) E s H:=by
 obtain⟨B,F0,F,z,k,rs,ED,⟨P,h,j⟩,e⟩:=q;exact gp (λ_ _ _=>cmpP.g) hI #[B,F,z,k.kf,rs,P,h,λd v F' H' g hd rd=>e.nx _ _ F' H' (k.grow g) (j d hd) ((rs.grow g).set rd)]
def yu[Jx](ix:Nat){y:t6}{py k7:QT}(hc:X.calm=true)(S:CompScope X scope x)(hN:X.N.Nodup)(hi:WDE X iter ti)(he:∀cl s₀ H₀ fp,WDE (bA X scope cl x s₀ H₀ fp) f6 te)(Ka:autoParam (X.N[ix]?=be y) zA0)(hy:autoParam (Loc X.env.scope y) zA4)
  (hf:autoParam (zFN X y) zA3) (z9:autoParam (Q1 (.ListComp f6 [#[.Name x px,iter,[],0]] scope pos) (be (.Name y py)) k7.line X.env=pure true) zA0) (hs:autoParam (∀y,zFS X iter y) zA2):WDS X (.Assign [.Name y py] (.ListComp f6 [#[.Name x px,iter,[],0]] scope pos) k7) (dSet ix (gm (dItL ti) te)):=#[have hi:=hi.out;have he:=λcl s₀ H₀ fp=>(he cl s₀ H₀ fp).out;(rz hc S (fM hi) (λ_ _ _ _=>jH) he hN Ka hy hf z9 hs).anti λE s H q=>rC itL q]
def yw[Jx](ix:Nat){y:t6}{py k7 p1 p2:QT}(hc:X.calm=true)(S:CompScope X scope x)(hN:X.N.Nodup)(hm:X.mg "range"=m_)(hi:WDE X iter ti)(he:∀cl s₀ H₀ fp,WDE (bA X scope cl x s₀ H₀ fp) f6 te)(hg:autoParam (Gl X "range") zA0)(Ka:autoParam (X.N[ix]?=be y) zA0)(hy:autoParam (Loc X.env.scope y) zA4)
  (hf:autoParam (zFN X y) zA3) (z9:autoParam (Q1 (.ListComp f6 [#[.Name x px,.Call (.Name "range" p1) [iter] [] p2,[],0]] scope pos) (be (.Name y py)) k7.line X.env=pure true) zA0)
  (hs:autoParam (∀y,zFS X (.Call (.Name "range" p1) [iter] [] p2) y) zA2) (m4:autoParam (zSE X iter []) zA0) (e_:autoParam (QP [iter] X.env=[(false,QS iter X.env)]) zA0):WDS X (.Assign [.Name y py] (.ListComp f6 [#[.Name x px,.Call (.Name "range" p1) [iter] [] p2,[],0]] scope pos) k7) (dSet ix (gm (dItR ti) te)):=#[have hi:=hi.out;have he:=λcl s₀ H₀ fp=>(he cl s₀ H₀ fp).out;(rz hc S (fN hg hm (bz hi pa_nil m4) e_) (λ_ _ _ _=>jH) he hN Ka hy hf z9 hs).anti λE s H q=>rC itR q]
end
def dR(scope fsc:Q9):List (t6×Ri):=scope.names.map λ(n,k)=>if(k==NameKind.free&&fsc.kind== .function&&fsc.names.lookup n==be .cell)then(n,NameKind.cell)else(n,k)
def visB(l:List (t6×Ri))(n:t6):Bool:=l.lookup n==be .local||l.lookup n==be .cell||l.lookup n==be .free
def cA(scope fsc:Q9)(N:List t6)(x:t6):Bool:=
 scope.kind== .function&&scope.names.all (λy=>!(y.2== .cell))&&scope.names.all (λy=>!(y.2== .local)||scope.names.lookup y.1==be .local)&&scope.names.lookup x==be .local &&
 scope.names.all (λy=>!(y.2== .free)||fsc.names.lookup y.1==be .cell)&&N.all (λn=>decide (n=x)||!visB (dR scope fsc) n||scope.names.any (λy=>decide (y=(n,NameKind.free))))&&!visB (dR scope fsc) "" &&
 scope.names.all (λy=>!(y.2== .free)||(dR scope fsc).lookup y.1==be .cell)&&decide (N.map (λn=>if n=x then("":t6)else n)++[x]).Nodup
def rD{l:List (t6×Ri)}{n:t6}(h:l.lookup n=be .local\/l.lookup n=be .cell\/l.lookup n=be .free):visB l n=true:=by
 unfold visB;rcases h with h|h|h<;>rw[h]<;>rfl
def compScope{scope:Q9}{x:t6}(h:cA scope X.env.scope X.N x=true):CompScope X scope x:=by
 unfold cA at h;simp only[Fv]at h;obtain⟨⟨⟨⟨⟨⟨⟨⟨h1,h2⟩,h3⟩,h4⟩,h5⟩,h6⟩,h7⟩,h8⟩,h9⟩:=h;have er:(Sl scope X.env).names=dR scope X.env.scope:=rfl;refine#[by simpa using h1,λy hy=>?_,λy hy e=>?_,by simpa using h4,λn hn=>?_,λn hn ne v=>?_,λv=>?_,λn hn=>?_,of_decide_eq_true h9]
 .have:=FP.mp h2 y hy;simpa using this
 .have:=FP.mp h3 y hy;rw[e]at this;simpa using this
 .have:=FP.mp h5 _ hn;show X.env.scope.names.lookup n=be .cell;simpa using this
 .have:=FP.mp h6 n hn;have v':visB (dR scope X.env.scope) n=true:=rD v;rw[v']at this;simp[ne]at this;exact this
 .have v':visB (dR scope X.env.scope) ""=true:=rD v;rw[v']at h7;cases h7
 .have:=FP.mp h8 _ hn;rw[er];simpa using this
def putD(f:t6)(v:D):List (t6×D)->List (t6×D)
 |[]=>[(f,v)]
 |(g,x)::r=>if g=f then(g,v)::r else(g,x)::putD f v r
def RepF.put{K:Ex}{F:Hp}{f:t6}{d:D}{v:V}(r:Rep K F d v):∀{fs:List (t6×D)} {ws:List (t6×V)},RepF K F fs ws->RepF K F (putD f d fs) (putF f v ws)
 |[],ws,h=>by
  rw[repf_nil.mp h];exact repf_cons.mpr #[v,[],rfl,r,repf_nil.mpr rfl]
 |(g,x)::fs,ws,h=>by
  obtain⟨w,Jc,rfl,h1,h2⟩:=repf_cons.mp h;unfold putD putF;by_cases e:g=f
  .rw[if_pos e,if_pos e];exact repf_cons.mpr #[v,Jc,rfl,r,h2]
  .rw[if_neg e,if_neg e];exact repf_cons.mpr #[w,_,rfl,h1,RepF.put r h2]
def RepF.length{K:Ex}{F:Hp}:∀{fs:List (t6×D)} {ws:List (t6×V)},RepF K F fs ws->ws.length=fs.length
 |[],ws,h=>by rw[repf_nil.mp h];rfl
 |(g,x)::fs,ws,h=>by
  obtain⟨w,Jc,rfl,h1,h2⟩:=repf_cons.mp h;rw[Fe,Fe,RepF.length h2]
def ClsA(K:Ex)(x f:t6):Prop:=∃C,nsIn K Pi x=be (be (.ref C))/\Cls K C/\NoAttr K C f
section
variable {X:Cx}{a b c e:QG}{ta tb tc te:TD}{pos:QT}
def dFld(x f:t6)(te:TD):TD:=λz R=>te z λd=>match d with|.obj y fs=>y=x/\∃d,fs.lookup f=be d/\R d|_=>False
variable{x:t6}
def jJ[Jx]{f:t6}(h:ClsA X.K x f)(he:WDE X e te)(hb:autoParam (QQ e f X.env (QS e X.env)=QS e X.env) zA0):WDE X (.Attribute e f pos) (dFld x f te):=⟨have he:=he.out;(qf he hb).anti λs H Q q=>by
 obtain⟨C,hn,hc,hf⟩:=h;obtain⟨B,F,z,kf,rs,R,h1,h2⟩:=q;have fh:=kf.fh;refine#[B,F,z,kf,rs,_,h1,λd u F1 H1 g1 hx rx=>?_];split at hx
 .obtain⟨rfl,d,hl,hR⟩:=hx;obtain⟨a,C',dx,vs,rfl,l6,q,r⟩:=rep_obj.mp rx;rw[hn]at l6;cases l6;obtain⟨v,l,rv⟩:=r.look hl;exact#[a,C,dx,vs,v,rfl,g1.fh _ _ q,hc,hf,l,h2 d v F1 H1 g1 hR rv]
 .exact hx.elim⟩
def rE[Jx]{d:D}{v:V}{u:KB}(hm:X.mg x=be u)(r:RelV v u)(rd:∀H,Rep X.K H d v)(hg:autoParam (Gl X x) zA0)(hd:autoParam (zND x) zA1):DE X (.Name x pos) (dC d):=de_c (vi hg hm r hd) rd
def dS[Jx]{i:Int}(h:∃t,X.mg x=be (.int i t))(hg:autoParam (Gl X x) zA0)(hd:autoParam (zND x) zA1):WDE X (.Name x pos) (dC (.int i)):=⟨by
 obtain⟨t,h⟩:=h;exact rE (v:=.int i) h #[t,rfl] (λ_=>rep_int.mpr rfl) hg hd⟩
def gq[Jx]{y:t6}(h:∃t,X.mg x=be (.str y t))(hg:autoParam (Gl X x) zA0)(hd:autoParam (zND x) zA1):WDE X (.Name x pos) (dC (.str y)):=⟨by
 obtain⟨t,h⟩:=h;exact rE (v:=.str y) h #[t,rfl] (λ_=>rep_str.mpr rfl) hg hd⟩
structure ClsI(K:Ex)(mg:Str->Option KB)(x:Str)(C:KF):Prop where
 ns:nsIn K Pi x=be (be (.ref C))
 mg:mg x=be (.ref C)
 cl:Cls K C
 ha:findIn K (.ref C) "__class__"=be (be (.builtin "object.__class__"))
 hn:specialIn K (.builtin "object.__class__") "__get__"=be (be (.builtin "getset_descriptor.__get__"))
 htk:takesIn K (.builtin "object.__class__")=be true
 hm:mroIn K C (.type "object")=be true
 self:kitOne K (.ref C) (.ref C)=be true
end
abbrev SiD:=List D->(List (t6×D)->Prop)->Prop
def lSi(K:Ex)(C:KF)(S:SiD):Sp:=λvs H Q _=>∃a dx us H1 F ds,vs=.ref a::us/\H=upd (upd H1 dx (.own a)) a (.ins C dx [])/\H1 a=m_/\H1 dx=m_/\dx≠a/\Same F H1/\Reps K F ds us/\
 ∃R:List (t6×D)->Prop,S ds R/\∀fs ws A_ F' H',Grow F H1 F' H'->R fs->H' a=be (.ins C A_ ws)->F' a=m_->RepF K F' fs ws->Q .non H'
def CalM(P:QH)(w:QL)(K:Ex)(mg:t6->Option KB)(base:QN)(n:Nat)(x:t6)(ps:List t6)(S:SiD):Prop:=
 ∃C f fd,nsIn K Pi x=be (be (.ref C))/\mg x=be (.ref C)/\Mk K C f/\FnOk P w K mg base (Exc.CX1 P w) n f fd ps (lSi K C S)/\Binds K fd ps []
def yx(x:t6)(S:SiD)(t:TDA):TD:=λz R=>t z λds=>S ds λfs=>R (.obj x fs)
def jK[Jx]{pos:QT}{n m:Nat}{ps:List t6}{S:SiD}{x:t6}{p:QT}{e:QG}{es:List QG}{t:TDA}(M:CalM X.prog X.w X.K X.mg X.base n x ps S)(hr:Room m X.A)(ha:WDA X (e::es) t)(hg:autoParam (Gl X x) zA0)(hn:autoParam (n+1<=m) zA1)(d9:autoParam (zND x) zA1)
  (he:autoParam (zSE X e es) zA0) (c9:autoParam (zPL X pos es) zA0):WDE X (.Call (.Name x p) (e::es) [] pos) (yx x S t):=⟨by
 have ha:=ha.out;obtain⟨C,f,fd,hns,j_,mk,F,hb⟩:=M;refine(jk mk F (hr.mono hn) hg j_ hb .nil fV ha d9 he c9).anti λs H Q q=>?_;obtain⟨B,F,z,kf,rs,R,h1,h2⟩:=q;have fh:=kf.fh;refine#[B,F,z,kf,rs,_,h1,λds vs F1 H1 g1 hx rx=>?_];intro a dx ha t_ n9;refine#[a,dx,vs,H1,F1,ds,by rw[FN],rfl,ha,t_,n9,g1.fh,rx,_,hx,λfs ws A_ F' H' g hR j6 o9 rf=>#[rfl,?_]];have s1:Same F' (upd F' a (.ins C A_ ws)):=aO o9 _;refine h2 (.obj x fs) (.ref a) (upd F' a (.ins C A_ ws)) H' #[(g1.ff.trans g.ff).trans s1,λb o q=>?_,g1.hh.trans g.hh,λb q1 q2=>?_] hR (rep_obj.mpr #[a,C,A_,ws,rfl,hns,aG,RepF.mono s1 fs ws rf])
 .by_cases hb:b=a
  .subst hb;rw[aG]at q;cases q;exact j6
  .rw[ay hb]at q;exact g.fh b o q
 .by_cases hb:b=a
  .subst hb;exact absurd (g1.hh.free ha) q2
  .rw[ay hb];exact(g1.trans g).out b q1 q2⟩
abbrev TID:=SD->List (t6×D)->(List (t6×D)->Prop)->Prop
def lI(K:Ex)[J:Jx](x:t6)(t:TID):TS:=λE σ H=>∃C a dx ws F z fs,nsIn K Pi x=be (be (.ref C))/\σ[0]?=be (be (.ref a))/\H a=be (.ins C dx ws)/\J.B a=m_/\F a=m_/\Kept J.B J.F0 F H/\RepS K J.B F H z σ/\RepF K F fs ws/\
 ∃R:List (t6×D)->Prop,t z fs R/\∀l5 Jc F' H',Kept J.B J.F0 F' H'->R l5->H' a=be (.ins C dx Jc)->F' a=m_->RepF K F' l5 Jc->E.nx σ H'
abbrev DI(X:Cx)[Jx](x:t6)(st:List P3)(t:TID):Prop:=PSs X st (lI X.K x t)
structure WDI(X:Cx)[Jx](x:Str)(st:List P3)(t:TID):Prop where
 out:DI X x st t
section
variable {X:Cx}{x f:t6}{e:QG}{te:TD}{pos c_ p:QT}{rest:List P3}{tr:TID}
def yy:TID:=λ_ fs R=>R fs
def yz(f:t6)(te:TD)(tr:TID):TID:=λz fs R=>te z λd=>fs.length<1000/\tr z (putD f d fs) R
def dm[Jx]:WDI X x [] yy:=⟨pss_nil.anti λE s H q=>by
 obtain⟨C,a,dx,ws,F,z,fs,hn,h0,j6,B_,o9,g,rs,rf,R,hR,k⟩:=q;exact k fs ws F H g hR j6 o9 rf⟩
def RepS.other{K:Ex}{B F H:Hp}{z:SD}{σ:L2.St}{a:KF}{o o':HO}(rs:RepS K B F H z σ)(h:H a=be o)(hl:∀vs,o≠.lst vs):RepS K B F (upd H a o') z σ:=
 ⟨rs.len,rs.val,λi ds e=>by
  obtain⟨b,vs,q1,q2,q⟩:=rs.own i ds e;have ne:b≠a:=by
   rintro rfl;rw[h]at q2;cases q2;exact hl vs rfl
  exact#[b,vs,q1,by rw[ay ne];exact q2,q],rs.apart⟩
def bM[J:Jx]{ps:QT}{sx:t6}(hA:ClsA X.K x f)(he:WDE X e te)(hr:WDI X x rest tr)(hN:autoParam (X.N[0]?=be sx) zA0)(hv:autoParam (Vis X.env.scope sx) zA5)(hd:autoParam (zND sx) zA1)
  (g7:autoParam (zNC sx) zA1) (hs:autoParam (Q1 e (be (.Attribute (.Name sx ps) f c_)) pos.line X.env=pure false) zA0):WDI X x (.Assign [.Attribute (.Name sx ps) f c_] e pos::rest) (yz f te tr):=⟨have he:=he.out;have hr:=hr.out;(ja (qg (eU (i:=0) hN hv hd g7) he hs) hr).anti λE s H q=>by
 obtain⟨C,a,dx,ws,F,z,fs,hn,h0,j6,B_,o9,g,rs,rf,R,hR,k⟩:=q;obtain⟨C',l6,hc,hf⟩:=hA;rw[hn]at l6;cases l6;refine#[_,F,z,g,rs,_,hR,λd v F2 H2 g2 hx rv=>?_];have k2:=g.grow g2;have NE:=g2.hh a _ j6;have Jb:F2 a=none:=g2.out a o9 (by rw[j6];exact λz=>nomatch z);refine#[.ref a,h0,a,C,dx,ws,rfl,NE,hc,hf,by rw[rf.length];exact hx.1,?_];have O4:Same F2 (upd H2 a (.ins C dx (putF f v ws))):=λb o q=>by
  have ne:b≠a:=by rintro rfl;rw[Jb]at q;cases q
  rw[ay ne];exact g2.fh b o q
 have x8:Same J.B (upd H2 a (.ins C dx (putF f v ws))):=λb o q=>by
  have ne:b≠a:=by rintro rfl;rw[B_]at q;cases q
  rw[ay ne];exact k2.bh b o q
 exact#[C,a,dx,putF f v ws,F2,z,putD f d fs,hn,h0,aG,B_,Jb,#[x8,O4,k2.f0,k2.out,k2.eb,k2.jf,k2.jo],(rs.grow g2).other NE (λ_ z=>nomatch z),RepF.put rv (RepF.mono g2.ff fs ws rf),R,hx.2,k]⟩
end
section
variable {P:QH}{w:QL}{K:Ex}{mg:t6->Option KB}{base:QN}
def yB{K:Ex}{B F H:Hp}{z:SD}{σ:L2.St}{v:V}(rs:RepS K B F H z σ):RepS K B F H (m_::z) (be v::σ):=
  ⟨by rw[Fe,Fe,rs.len],λi d e no=>by
    cases i with
    |zero=>cases e
    |succ i=>exact rs.val i d e no,λi ds e=>by
    cases i with
    |zero=>cases e
    |succ i=>exact rs.own i ds e,λi j di dj a e1 e2 e3 e4=>by
    cases i with
    |zero=>cases e1
    |succ i=>
      cases j with
      |zero=>cases e2
      |succ j=>rw[rs.apart i j di dj a e1 e2 e3 e4]⟩
def Cls.okI{x qual:t6}{st:P3}{f C:KF}{fd:QR}{N:List t6}{p0:t6}{ps:List t6}{k:Nat}{S:SiD}(T:Fun K "__init__" qual st f fd)(hb:Binds K fd (p0::ps) [])(F:FnScope (p0::N) (p0::ps) (ah st))(len:∀ds R,S ds R->ds.length=ps.length)
  (hns:nsIn K Pi x=be (be (.ref C))) (j_:mg x=be (.ref C)) (mk:Mk K C f)
  (a9:∀(cdv:KB) (A:QM) (outer:List Rt) (s:KM) (H:Hp) (E:XK) (J:Jx),Room k (A.deeper (QX qual (ah st) s.heap.objs.size f cdv))->
   ∃t,DI (cxOf (Exc.CX1 P w) P w K mg base (p0::N) qual (ah st) f cdv A outer s H E).nox x (aK st) t/\∀ds R,S ds R->t (m_::startD N ds) [] R):CalM P w K mg base (k+1) x (p0::ps) S:=by
 refine#[C,f,fd,hns,j_,mk,Fun.okC T F (λvs H Q E h=>?_) (λcdv A outer s H vs Q E hr h=>?_),hb]
 .obtain⟨a,dx,us,H1,F,ds,rfl,_,_,_,_,_,rs,R,h,_⟩:=h;rw[Fe,Fe,rs.length,len ds R h]
 .obtain⟨a,dx,us,H1,F1,ds,rfl,rfl,ha,t_,n9,fh,rs,R,h,q⟩:=h
  letI:Jx:=#[H1,F1,λ_ _ _=>False]
  obtain⟨t,ht,hq⟩:=a9 cdv A outer s _ E inferInstance hr;have Fa:F1 a=none:=fh.free ha;have hl:L2.start (p0::N) (.ref a::us)=be (.ref a)::L2.start N us:=by
   unfold L2.start;rw[Fi,Fe,Fe,Nat.add_sub_add_right];rfl
  have s1:Same H1 (upd (upd H1 dx (.own a)) a (.ins C dx [])):=(aO t_ _).trans (aO (by rw[ay (Ne.symm n9)];exact ha) _);refine#[_,ht.nox,C,a,dx,[],F1,m_::startD N ds,[],hns,by rw[hl];rfl,aG,ha,Fa,#[s1,fh.trans s1,Same.refl F1,λ_ h _=>h,rfl,Same.refl F1,λ_ h _=>h],?_,repf_nil.mpr rfl,R,hq ds R h,λl5 Jc F' H' g hR j6 o9 rf=>q l5 Jc dx F' H' #[g.f0,g.fh,g.bh,g.out] hR j6 o9 rf];rw[hl];exact yB (fg rs)
end
section
variable {X:Cx}{a b c e:QG}{ta tb tc te:TD}{pos:QT}
def rF(t u:TD):TDI:=λz R=>t z λx=>u z λy=>match x,y with|.int i,.int j=>(-(2^62)<=i/\i<2^62/\-(2^62)<=j/\j<2^62)/\R ((E7 (j-i).toNat).map λk=>D.int (i+((k:Nat):Int)))|_,_=>False
def RepS.change[Jx]{K:Ex}{B F0 F H:Hp}{z:SD}{s:L2.St}{i:Nat}{ds LF:List D}{a:KF}{n_:List V}(rs:RepS K B F H z s)(k:Kept B F0 F H)(ez:z[i]?=be (be (.own ds)))(q1:s[i]?=be (be (.ref a)))(hB:B a=m_)(hF:F a=m_)(r:Reps K F LF n_):
  Kept B F0 F (upd H a (.lst n_))/\RepS K B F (upd H a (.lst n_)) (z.set i (be (.own LF))) s:=by
 have same:∀{G:Hp},G a=m_->Same G H->Same G (upd H a (.lst n_)):=λ{G} ga gs b o eb=>by
  have ne:b≠a:=λz=>by rw[z,ga]at eb;cases eb
  rw[ay ne];exact gs b o eb
 have r2:=rs.setOwn (i:=i) (a:=a) (vs:=n_) (ds:=LF) hB hF r (λj dj hj e1 e2=>hj (rs.apart j i dj ds a e1 ez e2 q1));have es:s.set i (be (.ref a))=s:=by
  apply GJ;intro n;by_cases hn:i=n
  .subst hn;rw[FM (Fj.mp q1).1,q1]
  .rw[Fu hn]
 rw[es]at r2;exact#[#[same hB k.bh,same hF k.fh,k.f0,k.out,k.eb,k.jf,k.jo],r2]
def Reps.put{K:Ex}{F:Hp}{d:D}{v:V}(r:Rep K F d v):∀{ds:List D} {vs:List V} (j:Nat),Reps K F ds vs->Reps K F (ds.set j d) (vs.set j v)
 |[],vs,j,h=>by rw[reps_nil.mp h];exact reps_nil.mpr rfl
 |x::ds,vs,0,h=>by
  obtain⟨u,us,rfl,h1,h2⟩:=reps_cons.mp h;exact reps_cons.mpr #[v,us,rfl,r,h2]
 |x::ds,vs,j+1,h=>by
  obtain⟨u,us,rfl,h1,h2⟩:=reps_cons.mp h;exact reps_cons.mpr #[u,_,rfl,h1,Reps.put r j h2]
def rG(i:Nat)(te ti:TD):TSD:=λE z=>match z[i]? with
 |some (be (.own ds))=>te z λd=>ti z λy=>match y with|.int k=>∃j,ixN ds.length k=be j/\E.nx (z.set i (be (.own (ds.set j d))))|_=>False
 |_=>False
def yD[Jx](i:Nat){x:t6}{p1 p2:QT}(he:WDE X e te)(hb:WDE X b tb)(hN:autoParam (X.N[i]?=be x) zA0)(hv:autoParam (Vis X.env.scope x) zA5)(hd:autoParam (zND x) zA1)
  (g7:autoParam (zNC x) zA1)
  (ha:∀v,Rk (.Subscript (.Name x p1) b p2) X.env v=(do
   let ov <-Rr [v] (QS (.Name x p1) X.env)
   let iv <-Rr [v,ov] (QS b X.env)
   RC p2
   Rr [v,ov,iv] (setItem ov iv v)
   release [v,ov,iv] []):=by intro _;rfl)
  (hs:autoParam (Rc [.Subscript (.Name x p1) b p2] e pos.line X.env=pure false) zA0) (hw:autoParam (Rf [.Subscript (.Name x p1) b p2] e X.env=pure none) zA0)
  (h1:autoParam ((QO [.Subscript (.Name x p1) b p2] X.env).map (·.2)=[Rk (.Subscript (.Name x p1) b p2) X.env]) zA0):WDS X (.Assign [.Subscript (.Name x p1) b p2] e pos) (rG i te tb):=⟨have he:=he.out;have hb:=hb.out;(jb he (vC (eU hN hv hd g7) hb wU ha) hs hw h1).anti λE s H q=>by
 obtain⟨B,F0,F,z,k,rs,ED,h,e⟩:=q;unfold rG at h;split at h
 .rename_i ds ez;refine#[B,F,z,k.kf,rs,_,h,λd v F1 H1 g1 hx rv=>?_];obtain⟨a,vs,q1,q2,q3,q4,q5⟩:=(rs.grow g1).own i ds ez;refine#[.ref a,q1,B,F1,z,k.kf.grow g1,rs.grow g1,_,hx,λy w F2 H2 g2 hy ry=>?_];split at hy
  .obtain⟨j,ej,hn⟩:=hy;have r2:=(rs.grow g1).grow g2;have k2:=(k.grow g1).grow g2;have Jb:F2 a=none:=g2.out a q4 (by rw[q2];exact λz=>nomatch z);refine#[a,vs,_,j,rfl,rep_int.mp ry,g2.hh _ _ q2,by rw[q5.length];exact ej,?_];obtain⟨k3,r3⟩:=r2.change k2 ez q1 q3 Jb (Reps.put (rv.mono g2.ff) j (q5.mono g2.ff));exact e.nx _ s F2 _ k3 hn r3
  .exact hy.elim
 .exact h.elim⟩
end
end My
namespace My
open Exc
abbrev XD:=t6->List (t6×D)->Prop
def ErrD(K:Ex)(F:Hp)(x:t6)(fs:List (t6×D))(C:KF)(od:Option KF):Prop:=
 nsIn K Pi x=be (be (.ref C))/\∃vs,RepF K F fs vs/\((od=m_/\vs=[])\/∃b,od=be b/\F b=be (.xd vs))
abbrev SpX:=List D->(D->Prop)->XD->Prop
def lSpX(K:Ex)(S:SpX):Sp:=λvs H Q E=>∃F ds,Same F H/\Reps K F ds vs/\∃(R:D->Prop) (RX:XD),S ds R RX/\(∀d v F' H',Grow F H F' H'->R d->Rep K F' d v->Q v H')/\
 ∀x fs C od F' H',Grow F H F' H'->RX x fs->ErrD K F' x fs C od->E (.ref C) od H'
def Exd(X:Cx)(H:Hp)(s:KM)(e C:KF)(od:Option KF):Prop:=
  H e=m_/\X.s₀.heap.get? e=m_/\(∀p∈X.pn,p.1≠e)/\
  ((∃sl vs,s.heap.get? e=be #[.ref C,od,.fields vs,sl]/\vs[1]?=be .none)\/
    ∃T,ExAt s.heap e C od T .none/\X.s₀.heap.get? T=m_/\H T=m_/\∀p∈X.pn,p.1≠T)
def XOk(X:Cx)[J:Jx]:Prop:=∀(σ:L2.St) (z:SD) (F H:Hp) (s:KM) (e C:KF) (od:Option KF) (x:t6) (fs:List (t6×D)),Inv X [] σ H s->Kept J.B J.F0 F H->RepS X.K J.B F H z σ->J.RX z x fs->ErrD X.K F x fs C od->Exd X H s e C od->X.xe (.ref e) s
variable{X:Cx}{pins:List (KF×QY)}{σ:L2.St}{H:Hp}{s:KM}
def Inv.nopins(I:Inv X pins σ H s):Inv X [] σ H s:=I.pins_of λp hp=>by cases hp
section
variable {X:Cx}{k:Nat}{f:KF}{fd:QR}{ps:List t6}{sp:Sp}{E:XK}
def gu{pins:List (KF×QY)}{σ:L2.St}{H:Hp}{s:KM}{Q:VK}{us:List KB}{vs:List V}(F:FnOk X.prog X.w X.K X.mg X.base (CX1 X.prog X.w) k f fd ps sp)(hr:Room k X.A)(hb:Binds X.K fd ps [])
  (hx:∀e s',CX1 X.prog X.w X.stack H s E e s'->X.xe e s') (I:Inv X pins σ H s) (r:Vals vs us) (h:sp vs H Q E):QI (QJ X.prog X.w) X.A (call (.ref f) us) (EP X pins σ Q) X.xe s:=by
 have hl:us.length=ps.length:=by rw[<-L2.Vals.length r];exact F.len _ _ _ _ h
 have p9:=hb s us I.kIn (by rw[FN];exact hl);rw[FN]at p9;refine Sf (Ry (F.run X.A X.stack s H #[us,[]] us vs Q E hr I.env0 p9 r h) λr s' hq=>?_);cases r with
 |error e=>exact hx e s' hq
 |ok fl=>
  cases fl with
  |ret u=>exact I.after hq
  |next=>exact False.elim hq
  |brk=>exact False.elim hq
  |cont=>exact False.elim hq
end
def du{b:KF}(I:Inv X pins σ H s)(hex:X.ex=[])(q:s.heap.get? b=m_):X.s₀.heap.get? b=none:=by
 cases z:X.s₀.heap.get? b with
 |none=>rfl
 |some o=>
  obtain⟨o',z'⟩:=I.base.there b o z (by rw[hex];simp);rw[q]at z';cases z'
def pn_free{b:KF}(I:Inv X pins σ H s)(q:s.heap.get? b=m_):∀p∈X.pn,p.1≠b:=λp hp z=>by
 have:=(I.pin p (Gd _ hp)).1;rw[z,q]at this;cases this
def XOk.out[J:Jx](hx:XOk X)(hex:X.ex=[]){z:SD}{s':KM}{ev:KB}(I:Inv X pins σ H s)
  (h:CX1 X.prog X.w X.stack H s (λCv od H'=>∃x fs C F',Cv=.ref C/\Kept J.B J.F0 F' H'/\RepS X.K J.B F' H' z σ/\J.RX z x fs/\ErrD X.K F' x fs C od) ev s'):X.xe ev s':=by
 obtain⟨e,C,od,T,H',rfl,y_,hb,un,hok,LG,ne,nT,He,HT,x,fs,C',F',hC,kk,rr,hR,er⟩:=h;cases hC;have I':Inv X pins σ H' s':=I.call' y_ un hok hb (λb z=>absurd z IV);exact hx σ z F' H' s' e C od x fs (Inv.nopins I') kk rr hR er #[He,du I hex ne,pn_free I ne,.inr #[T,LG,du I hex nT,HT,pn_free I nT]]
abbrev CalX(P:QH)(w:QL)(K:Ex)(mg:t6->Option KB)(base:QN)(n:Nat)(x:t6)(ps:List t6)(S:SpX):Prop:=Cal P w K mg base n x ps (lSpX K S)
def yF[J:Jx](S:SpX)(t:TDA):TD:=λz R=>t z λds=>S ds R (J.RX z)
variable{ps:List t6}{x:t6}
def rH[J:Jx]{pos:QT}{n m:Nat}{S:SpX}{p:QT}{e:QG}{es:List QG}{t:TDA}(C:CalX X.prog X.w X.K X.mg X.base n x ps S)(hx:XOk X)(hr:Room m X.A)(ha:WDA X (e::es) t)(hex:autoParam (X.ex=[]) zA0)(hg:autoParam (Gl X x) zA0)(hn:autoParam (n<=m) zA1)(d9:autoParam (zND x) zA1)
  (he:autoParam (zSE X e es) zA0) (c9:autoParam (zPL X pos es) zA0):WDE X (.Call (.Name x p) (e::es) [] pos) (yF S t):=⟨by
 have ha:=ha.out;obtain⟨f,fd,F,hb,hk,hm⟩:=C;intro pins s σ H Q I h;obtain⟨B,Fr,z,kf,rs,R,h1,h2⟩:=h;obtain rfl:B=J.B:=kf.eb;refine Q0 (cU I hg hm ?_ d9);refine callWith_K (h₀:=X.base) I.ok.mod.kin hk (thn (ha pos pins s σ H (λvs H1=>lSpX X.K S vs H1 Q (λCv od H'=>∃x fs C F',Cv=.ref C/\Kept J.B J.F0 F' H'/\RepS X.K J.B F' H' z σ/\J.RX z x fs/\ErrD X.K F' x fs C od)) I #[_,Fr,z,kf,rs,_,h1,λds vs F1 H1 g1 hx rx=>?_]) λus s1 ⟨vs,H1,I1,r,q⟩=>#[I1.kIn,?_]) he c9
 .exact#[F1,ds,g1.fh,rx,R,J.RX z,hx,λd v F' H' g=>h2 d v F' H' (g1.trans g),λx fs C od F' H' g hR er=>#[x,fs,C,F',rfl,(kf.grow g1).grow g,(rs.grow g1).grow g,hR,er]]
 .exact gu F (hr.mono hn) hb (λe s' hq=>hx.out hex I1 hq) I1 r q⟩
section
variable {P:QH}{w:QL}{K:Ex}{mg:t6->Option KB}{base:QN}
variable{N:List t6}
def rJ{qual:t6}{scope:Q9}{f:KF}{cd:KB}{A:QM}{outer:List Rt}{s:KM}{H:Hp}{E':XK}{pins:List (KF×QY)}{σ:L2.St}{H':Hp}{s':KM}{e C T:KF}{od:Option KF}
  (I':Inv (cxOf (CX1 P w) P w K mg base N qual scope f cd A outer s H E') pins σ H' s') (hx:ExAt s'.heap e C od T .none) (ne:s.heap.get? e=m_) (nT:s.heap.get? T=m_) (He:H' e=m_) (HT:H' T=m_) (hE:E' (.ref C) od H'):
  (cxOf (CX1 P w) P w K mg base N qual scope f cd A outer s H E').xe (.ref e) s':=by
 show QI _ _ (R6 _ _) _ _ _;unfold R6;refine Os (qI I'.ok.frames I'.stack rfl hx λh2 T2 n5 t5 ox=>flight_none (s:={s' with heap:=h2}) n5 λh3 J7 v_=>?_);have z8:s'.heap.get? T2=none:=Heap.get?_none_of_le t5;have f1:∀b,s'.heap.get? b=m_->s.heap.get? b=none:=λb q=>du I' rfl q;have hok:HOk P w H' s'.heap:=I'.hok;have Iz:H' T2=none:=hok.fresh t5;have O5:∀b∈[T,e],s.heap.get? b=none:=λb hb=>by
  rcases E8.mp hb with z|z
  .rw[z];exact nT
  .rw[E6.mp z];exact ne
 have u2:Un (frs outer) [] H H' s.heap h2:=fU (show Un (frs outer) [] H H' s.heap s'.heap from I'.base) ox O5 λb hb=>qJ hb;have u3:Un (frs outer) [] H H' s.heap h3:=fU u2 v_ (λb hb=>by rw[E6.mp hb];exact f1 T2 z8) λb hb=>by cases hb
 have k2:=eZ hok ox (λb hb=>I'.stkFree b hb) (λb hb=>by
  rcases E8.mp hb with z|z
  .rw[z];exact HT
  .rw[E6.mp z];exact He)
 have k3:=eZ k2 v_ (λb hb=>by cases hb) (λb hb=>by rw[E6.mp hb];exact Iz);exact#[e,C,od,T2,H',rfl,I'.os,I'.bare,u3,k3,J7,ne,f1 T2 z8,He,Iz,hE]
variable{ps:List t6}
def _root_.L2.Fun.okX{x:t6}{st:P3}{f:KF}{fd:QR}{k:Nat}{S:SpX}(T:Fun K x x st f fd)(F:FnScope N ps (ah st))(len:∀ds R RX,S ds R RX->ds.length=ps.length)
  (a9:∀(cdv:KB) (A:QM) (outer:List Rt) (s:KM) (H:Hp) (E:XK) (J:Jx),Room k (A.deeper (QX x (ah st) s.heap.objs.size f cdv))->XOk (cxOf (CX1 P w) P w K mg base N x (ah st) f cdv A outer s H E)->
   ∃t,DSs (cxOf (CX1 P w) P w K mg base N x (ah st) f cdv A outer s H E) (aK st) t/\∀ds R RX,(∀z,J.RX z=RX)->S ds R RX->t {nx:=λ_=>R .non,rt:=R} (startD N ds)):FnOk P w K mg base (CX1 P w) (k+1) f fd ps (lSpX K S):=by
 refine Fun.okC T F (λvs H Q E h=>?_) (λcdv A outer s H vs Q E hr h=>?_)
 .obtain⟨F,ds,fh,rs,R,RX,h,_⟩:=h;rw[rs.length];exact len ds R RX h
 .obtain⟨F,ds,fh,rs,R,RX,h,q,qx⟩:=h
  letI:Jx:=#[H,F,λ_=>RX]
  have hx:XOk (cxOf (CX1 P w) P w K mg base N x (ah st) f cdv A outer s H E):=by
   intro σ z F' H' s' e C od y fs I kk rr hR er ⟨He,ne,_,hx⟩;have hE:E (.ref C) od H':=qx y fs C od F' H' #[kk.f0,kk.fh,kk.bh,kk.out] hR er;rcases hx with⟨sl,vs,h1,h2⟩|⟨T,h1,h2,h3,_⟩
   .exact qK I h1 h2 He ne hE
   .exact rJ I h1 ne h2 He h3 hE
  obtain⟨t,ht,hq⟩:=a9 cdv A outer s H E inferInstance hr hx;refine#[_,ht,H,F,F,startD N ds,#[Same.refl H,fh,Same.refl F,λ_ h _=>h,rfl,Same.refl F,λ_ h _=>h],fg rs,_,hq ds R RX (λ_=>rfl) h,#[λz' s' F' H' k hn _=>q _ _ F' H' #[k.f0,k.fh,k.bh,k.out] hn (rep_non.mpr rfl),λd v F' H' k hd rd=>q d v F' H' #[k.f0,k.fh,k.bh,k.out] hd rd,λ_ _ _ _ _ h _=>h.elim,λ_ _ _ _ _ h _=>h.elim]]
def Tx.okX{x:t6}{st:P3}{k:Nat}{S:SpX}(T:Tx K mg x st ps)(F:FnScope N ps (ah st))(len:∀ds R RX,S ds R RX->ds.length=ps.length)
  (a9:∀(f:KF) (cdv:KB) (A:QM) (outer:List Rt) (s:KM) (H:Hp) (E:XK) (J:Jx),Room k (A.deeper (QX x (ah st) s.heap.objs.size f cdv))->XOk (cxOf (CX1 P w) P w K mg base N x (ah st) f cdv A outer s H E)->
   ∃t,DSs (cxOf (CX1 P w) P w K mg base N x (ah st) f cdv A outer s H E) (aK st) t/\∀ds R RX,(∀z,J.RX z=RX)->S ds R RX->t {nx:=λ_=>R .non,rt:=R} (startD N ds)):CalX P w K mg base (k+1) x ps S:=by
 obtain⟨f,fd,T,hb,hm⟩:=T;exact#[f,fd,T.okX F len λcdv A outer s H E J hr hx=>a9 f cdv A outer s H E J hr hx,hb,T.kp,hm]
end
variable{P:QH}{w:QL}{h:QN}
def ObjOk.there{a:KF}{o:HO}(x:ObjOk P w H h a o):∃u,h.get? a=be u:=by
 cases o with
 |lst xs=>obtain⟨_,_,_,_,e⟩:=x;exact#[_,e]
 |tup xs=>obtain⟨_,_,_,o,e,_⟩:=x;exact#[_,e]
 |dK a8=>obtain⟨_,_,_,_,o,_,_,e,_⟩:=x;exact#[_,e]
 |dT a8=>obtain⟨_,_,_,_,o,_,_,e,_⟩:=x;exact#[_,e]
 |set S n=>obtain⟨o,_,_,_,e,_⟩:=x;exact#[_,e]
 |ins C dx fs=>obtain⟨_,_,_,e,_⟩:=x;exact#[_,e]
 |own y=>exact x
 |xd fs=>obtain⟨_,⟨_,_,_,e,_⟩,_⟩:=x;exact#[_,e]
 |rng lo hi=>obtain⟨_,_,_,e⟩:=x;exact#[_,e]
 |frz ob u=>obtain⟨e,_⟩:=x;exact#[_,e]
 |tbl ps=>exact#[_,(show h.get? a=be _ from x)]
 |met f y=>exact#[_,(show h.get? a=be _ from x)]
 |ext φ=>obtain⟨_,e,_⟩:=x;exact e
def rK{a:KF}(x:HOk P w H h)(e:h.get? a=m_):H a=none:=by
 cases q:H a with
 |none=>rfl
 |some o=>
  obtain⟨u,hu⟩:=ObjOk.there (x a o q);rw[e]at hu;cases hu
structure ErrK(K:Ex)(mg:Str->Option KB)(x:Str)(C N:KF)(bm:List KB):Prop where
 ns:nsIn K Pi x=be (be (.ref C))
 mg:mg x=be (.ref C)
 kp:keepIn K (.ref C)=true
 obj:∃nm q bs sn sub ab col dd k0 k1 k2 k3 k5,K.lookup C=be (Q8 nm q C N bs bm true sn sub ab col dd k0 k1 k2 k3 k5 "ValueError.__new__")
 tail:tailIn K veLine bm=true
structure ErrN(K:Ex)(N:KF):Prop where
 ok:nsOkIn K N=true
 no:nsIn K N "__init__"=be m_
def jL{K:Ex}:∀{l:List KB},tailIn K veLine l=true->aU l=true
 |[],e=>by simp[tailIn,veLine]at e
 |v::r,e=>by
  unfold tailIn at e;rcases Bool.or_eq_true_iff.mp e with q|q
  .rw[beq_iff_eq.mp q];decide+kernel
  .split at q
   .split at q
    .simp only[Fv,beq_iff_eq]at q;unfold aU;exact jL q.2
    .cases q
   .cases q
variable{K:Ex}{mg:t6->Option KB}{C N:KF}{bm:List KB}
def ErrK.base(k:ErrK K mg x C N bm):bm.contains (.type "BaseException")=true:=qG IA (jL k.tail)
section
variable {X:Cx}[J:Jx]{x:t6}{C N:KF}{bm:List KB}{e:QG}{es:List QG}{t:TDA}{p cpos pos:QT}
def yG(x:t6)(t:TDA):TSD:=λ_ z=>t z λds=>ds.length<=1000/\J.RX z x []
def rL(h:∃C N bm,ErrK X.K X.mg x C N bm/\ErrN X.K N)(hx:XOk X)(hc:X.calm=true)(ha:WDA X (e::es) t)(hex:autoParam (X.ex=[]) zA0)(hg:autoParam (Gl X x) zA0)(d9:autoParam (zND x) zA1)
  (he:autoParam (zSE X e es) zA0) (c9:autoParam (zPL X cpos es) zA0):WDS X (.Raise (be (.Call (.Name x p) (e::es) [] cpos)) m_ pos) (yG x t):=⟨by
 have ha:=ha.out;obtain⟨C,N,bm,k,kn⟩:=h;intro pins s σ H D I h;obtain⟨B,F0,F,z,kf,rs,ED,h,ee⟩:=h;obtain rfl:B=J.B:=kf.eb;obtain⟨nm,q,bs,sn,sub,ab,col,dd,k0,k1,k2,k3,k5,lk⟩:=k.obj;refine xy (nm:=nm) (q:=q) (C:=C) (N:=N) (bs:=bs) (bm:=bm) (hdct:=true) (sn:=sn) (sub:=sub) (ab:=ab) (col:=col) (dd:=dd) (k0:=k0) (k1:=k1) (k2:=k2) (k3:=k3) (k5:=k5) (newId:="ValueError.__new__") k.base (I.ok.hd hc) ?_;refine Q0 (cU I hg k.mg ?_ d9);refine callWith_K (h₀:=X.base) I.ok.mod.kin k.kp (thn (ha cpos pins s σ H (λvs H1=>∃F1,vs.length<=1000/\Grow F H F1 H1/\J.RX z x []) I #[_,F,z,kf.kf,rs,_,h,λds vs F1 H1 g1 hx rx=>#[F1,by rw[rx.length];exact hx.1,g1,hx.2]]) λus s1 hh=>#[hh.elim λ_ h=>h.elim λ_ h=>h.1.kIn,?_]) he c9;obtain⟨vs,H1,I1,r,F1,hl,g1,hR⟩:=hh;have hC:=I1.kIn _ _ lk;obtain⟨hp,gg,dr,tk,os⟩:=s1;refine wpAny_call_exc_subT PySem.F.excBase_ValueError (tail_of_in I1.kIn k.tail) hC (.of_isNs (isNs_of_in I1.kIn kn.ok)) (nsMap_none_of_in I1.kIn kn.ok kn.no) (λh' ea hm=>?_) (by show us.length<=_;rw[<-L2.Vals.length r];exact sz hl);obtain⟨ta,h1,h2,h3⟩:=hm.there;have I2:Inv X pins σ H1 #[h',gg,dr,tk,os]:=I1.kept (t':=tk) hm.keeps;refine#[ea,ta,m_,[].toArray,rfl,hm.keeps _ _ hC,h1,?_];exact hx σ z F1 H1 _ ea C m_ x [] (Inv.nopins I2) (kf.kf.grow g1) (rs.grow g1) hR #[k.ns,[],repf_nil.mpr rfl,.inl #[rfl,rfl]] #[rK I1.hok hm.new,du I1 hex hm.new,pn_free I1 hm.new,.inl #[[].toArray,_,h1,rfl]]⟩
end
def XN(e C:KF)(od:Option KF):HO:=.ext λh=>∃t sl,h.get? e=be #[.ref C,od,.fields [.ref t,.none,.none,.none,.bool false,.none].toArray,sl]
variable{e:KF}{od:Option KF}{sl:Array (Option KB)}
def XN.ok{t:KF}(q:h.get? e=be #[.ref C,od,.fields [.ref t,.none,.none,.none,.bool false,.none].toArray,sl]):ObjOk P w H h e (XN e C od):=
 #[#[t,sl,q],#[_,q],λh1 h2 ⟨t,sl,q⟩ k=>#[t,sl,k _ q]]
def XN.get(x:HOk P w H h)(q:H e=be (XN e C od)):∃t sl,h.get? e=be #[.ref C,od,.fields [.ref t,.none,.none,.none,.bool false,.none].toArray,sl]:=(x e _ q).1
def ErrF(K:Ex)(F:Hp)(fs:List (t6×D))(od:Option KF):Prop:=∃vs,RepF K F fs vs/\((od=m_/\vs=[])\/∃b,od=be b/\F b=be (.xd vs))
def lEi(K:Ex)(C:KF)(S:SiD):Sp:=λvs H Q _=>∃e us H1 F ds,vs=.ref e::us/\H=upd H1 e (XN e C m_)/\H1 e=m_/\Same F H1/\Reps K F ds us/\
 ∃R:List (t6×D)->Prop,S ds R/\∀fs od F' H',Grow F H1 F' H'->R fs->H' e=be (XN e C od)->F' e=m_->ErrF K F' fs od->Q .non H'
def CalE(P:QH)(w:QL)(K:Ex)(mg:t6->Option KB)(base:QN)(n:Nat)(x:t6)(ps:List t6)(S:SiD):Prop:=
 ∃C N bm f fd,ErrK K mg x C N bm/\findIn K (.ref C) "__init__"=be (be (.ref f))/\isFn K (.ref f)=true/\FnOk P w K mg base (CX1 P w) n f fd ps (lEi K C S)/\Binds K fd ps []
structure BaseK(K:Ex)(mg:Str->Option KB)(y:Str)(M:KF):Prop where
 mg:mg y=be (.ref M)
 rd:readsIn K M (.type "type")=true
 fc:findCls K (.ref M) (.type "type") "__init__"=be (.val (.builtin "ValueError.__init__"))
 sp:specialIn K (.ref M) "__getattribute__"=be (be (.builtin "type.__getattribute__"))
structure ErrA(K:Ex)(x:Str)(C:KF)(cd:ClassData):Prop where
 ns:nsIn K Pi x=be (be (.ref C))
 cl:clsIn K C=be cd
 mro:aU cd.mro=true
 hd:cd.hasDict=true
 sa:findIn K (.ref C) "__setattr__"=be (be (.builtin "object.__setattr__"))
def ErrK.a(k:ErrK K mg x C N bm)(sa:findIn K (.ref C) "__setattr__"=be (be (.builtin "object.__setattr__"))):∃cd,ErrA K x C cd:=by
 obtain⟨nm,q,bs,sn,sub,ab,col,dd,k0,k1,k2,k3,k5,lk⟩:=k.obj;exact⟨_,k.ns,by unfold clsIn;rw[lk],by
  show aU (.ref C::bm)=true;unfold aU;exact jL k.tail,rfl,sa⟩
section
variable {M:So}{A:QM}{E:KB->KM->Prop}{h:QN}{g:Array GenState}{d:Drawn}{t:Nat}{os:OsState}
variable {nm q:t6}{C N:KF}{bs bm:List KB}{hdct:Bool}{sn:List t6}{sub:List KB}{ab:Bool}{col:Option Bool}{dd:Option KF}{k0 k1 k2 k3 k5:Option KB}{newId:String}
variable {NF q':t6}{C' N':KF}{NG Kb:List KB}{Kc:Bool}{NH:List t6}{Kd:List KB}{NI:Bool}{Ke:Option Bool}{K2:Option KF}{NJ NK NL NM NN:Option KB}{Jd:String}
def yH{e:KF}{oe:QY}{b:Bool}{Q:Bool->KM->Prop}(hC:h.get? C=be (Q8 nm q C N bs bm hdct sn sub ab col dd k0 k1 k2 k3 k5 newId))(hD:h.get? C'=be (Q8 NF q' C' N' NG Kb Kc NH Kd NI Ke K2 NJ NK NL NM NN Jd))
  (he:h.get? e=be oe) (IS:oe.cls=.ref C) (b8:Kb.contains (.type "BaseException")=true) (hb:(Value.ref C::bm).contains (.ref C')=b) (hq:Q b #[h,g,d,t,os]):QI M A (excMatches (.ref e) (.ref C')) Q E #[h,g,d,t,os]:=by
 have Lw:(Value.ref C'::Kb).contains (.type "BaseException")=true:=by rw[G6,b8,GH]
 have f:=tc_notTuple;unfold excMatches
 repeat(first|(with_reducible refine Rp he ?_;rw[IS])|with_reducible refine Rp hD ?_|(with_reducible refine RF hD ?_;rw[Lw])|(with_reducible refine RF hC ?_;rw[hb])|wp_step)
 cases b with
 |true=>wp_walk;exact hq
 |false=>wp_walk;exact hq
end
abbrev _root_.L2.Cx.held(X:Cx)(e:KF):Cx:={X with A:=X.A.mark (be (.ref e)),calm:=false,xe:=λ_ _=>False}
section
variable {X:Cx}{pins:List (KF×QY)}{σ:L2.St}{H:Hp}{s:KM}{e:KF}
def Cx.Ok.held(ok:X.Ok):(X.held e).Ok:=
 #[ok.mod,ok.kind,ok.glob,ok.blt,ok.above,ok.inj,ok.has,ok.cab,(λz=>nomatch z),ok.frames,ok.stk,ok.exf,ok.bs,ok.bsz,ok.noex,ok.exfs,ok.funs,ok.frf]
def Inv.held(I:Inv X pins σ H s):Inv (X.held e) pins σ H s:=#[Cx.Ok.held I.ok,I.os,I.bare,I.base,I.loc,I.cell,I.free,I.freeC,I.pin,I.hok,I.len]
def Inv.unheld(ok:X.Ok)(I:Inv (X.held e) pins σ H s):Inv X pins σ H s:=#[ok,I.os,I.bare,I.base,I.loc,I.cell,I.free,I.freeC,I.pin,I.hok,I.len]
def SP.unheld{D:Ends}{f:Flow}{s':KM}(ok:X.Ok)(h:SP (X.held e) pins D f s'):SP X pins D f s':=by
 cases f with
 |next=>obtain⟨σ',H',I,q⟩:=h;exact#[σ',H',Inv.unheld ok I,q]
 |brk=>obtain⟨σ',H',I,q⟩:=h;exact#[σ',H',Inv.unheld ok I,q]
 |cont=>obtain⟨σ',H',I,q⟩:=h;exact#[σ',H',Inv.unheld ok I,q]
 |ret u=>obtain⟨v,σ',H',I,r,q⟩:=h;exact#[v,σ',H',Inv.unheld ok I,r,q]
def Inv.stay{h':QN}{l5 ex:List KF}(I:Inv X pins σ H s)(st:Stay l5 ex s.heap h')(KY:∀b∈l5,b∈frs X.stack)(hH:∀b∈ex,H b=m_)(h0:∀b∈ex,X.s₀.heap.get? b=m_)(hL:∀b∈ex,b≠X.env.locals)(hc:∀b∈ex,∀x c,X.env.cells.lookup x=be c->c≠b)
  (hp:∀b∈ex,∀p∈X.pn++pins,p.1≠b):Inv X pins σ H {s with heap:=h'}:=by
 have hok:HOk X.prog X.w H h':=eZ I.hok st (λb hb=>I.stkFree b (KY b hb)) hH;have sub:∀b∈l5,b=X.env.locals\/b∈X.fs:=λb hb=>E8.mp (I.stkSub b (KY b hb));have nL:∀b o,X.s₀.heap.get? b=be o->b≠X.env.locals:=λb o q=>Ff (Fz (Heap.lt_size q) I.ok.above);have NO:∀b o,X.s₀.heap.get? b=be o->b∉ex:=λb o q z=>by rw[h0 b z]at q;cases q
 have j7:∀x c v,X.env.cells.lookup x=be c->s.heap.IsCell c v->h'.IsCell c v:=λx c v e ⟨o,ho,hd⟩=>by
  obtain⟨sl,z⟩:=st.slot c o ho (λz=>hc c z x c e rfl);exact#[_,z,hd]
 refine#[I.ok,I.os,I.bare,#[λb o e n hb hx=>?_,λb o e n hb hx=>?_,I.base.free,λb o e hx=>?_,I.base.tups,I.base.frzs,I.base.tbls],?_,λy c e=>?_,I.free,I.freeC,λp LH=>?_,hok,I.len]
 .exact st.keep b o (I.base.keep b o e n hb hx) (NO b o e) (λz=>(sub b z).elim (nL b o e) hb)
 .obtain⟨sl,e1⟩:=I.base.slot b o e n hb hx;obtain⟨s9,e2⟩:=st.slot b _ e1 (NO b o e);exact#[s9,e2]
 .obtain⟨o',e1⟩:=I.base.there b o e hx;exact st.there b o' e1
 .obtain⟨m,⟨o,es,ep,ho,r⟩,hl⟩:=I.loc;obtain⟨sl,z⟩:=st.slot _ o ho (λz=>hL _ z rfl);refine#[m,#[_,es,ep,z,r],λj y v' e1 e2 e3=>?_];obtain⟨u',r',q⟩:=hl j y v' e1 e2 e3;refine#[u',r',?_];rcases q with q|⟨k,c,e,z⟩
  .exact .inl q
  .exact .inr #[k,c,e,j7 y c _ e z]
 .obtain⟨w',z⟩:=I.cell y c e;exact#[w',j7 y c _ e z]
 .obtain⟨e,n,ne,nf,d⟩:=I.pin p LH;exact#[st.keep _ _ e (λz=>hp _ z p LH rfl) (λz=>(sub _ z).elim ne nf),n,ne,nf,d]
end
def subE(x c:t6):Bool:=x==c||c=="MotifError"
structure ErrsK(K:Ex)(mg:Str->Option KB)(es:List Str):Prop where
 cls:∀x∈es,∃C N bm,ErrK K mg x C N bm
 sub:∀x∈es,∀y∈es,∀C C',nsIn K Pi x=be (be (.ref C))->nsIn K Pi y=be (be (.ref C'))->mroIn K C (.ref C')=be (subE x y)
def ErrsK.has{es:List t6}(k:ErrsK K mg es){y:t6}{C' N':KF}{Kb:List KB}(hx:x∈es)(hy:y∈es)(a:ErrK K mg x C N bm)(b:ErrK K mg y C' N' Kb):(Value.ref C::bm).contains (.ref C')=subE x y:=by
 have h:=k.sub x hx y hy C C' a.ns b.ns;obtain⟨nm,q,bs,sn,sub,ab,col,dd,k0,k1,k2,k3,k5,lk⟩:=a.obj;unfold mroIn clsIn at h;rw[lk]at h;simp only[Option.bind_some,List.isEmpty_cons,Bool.false_eq_true,if_false,Option.some.injEq]at h;exact h
structure Held(X:Cx)(pins:List (KF×QY))(H:Hp)(s:KM)(e C:KF)(od:Option KF)(T:KF):Prop where
 ex:ExAt s.heap e C od T .none
 He:H e=m_
 HT:H T=m_
 e0:X.s₀.heap.get? e=m_
 T0:X.s₀.heap.get? T=m_
 eP:∀p∈X.pn++pins,p.1≠e
 TP:∀p∈X.pn++pins,p.1≠T
section
variable {X:Cx}{pins:List (KF×QY)}{σ:L2.St}{H:Hp}{s:KM}
variable{vs:Array KB}
def jM{b:KF}{o:QY}(I:Inv X pins σ H s)(h:s.heap.get? b=be o)(hd:o.data=.fields vs):b≠X.env.locals:=λz=>by
 obtain⟨m,⟨o',es,ep,ho,fI,_⟩,_⟩:=I.loc;rw[<-z,h]at ho;cases ho;rw[hd]at fI;cases fI
def fld_cell{b:KF}{o:QY}(I:Inv X pins σ H s)(h:s.heap.get? b=be o)(hd:o.data=.fields vs):∀x c,X.env.cells.lookup x=be c->c≠b:=λx c q z=>by
 obtain⟨v,o',ho,fI⟩:=I.cell x c q;rw[z,h]at ho;cases ho;rw[hd]at fI;cases fI
variable{od:Option KF}
def Held.flight{e C T:KF}{h':QN}(I:Inv X pins σ H s)(k:Held X pins H s e C od T)(hx:ExAt h' e C od T .none)(st:Stay [] [T] s.heap h'):Inv X pins σ H {s with heap:=h'}/\Held X pins H {s with heap:=h'} e C od T:=by
 obtain⟨sl,vs,oT,ts,he,h1,td,hT,j5,h3⟩:=k.ex;refine#[Inv.stay I st (λb hb=>by cases hb) (λb hb=>?_) (λb hb=>?_) (λb hb=>?_) (λb hb=>?_) (λb hb=>?_),#[hx,k.He,k.HT,k.e0,k.T0,k.eP,k.TP]]<;>rw[E6.mp hb]
 .exact k.HT
 .exact k.T0
 .exact jM I hT j5
 .exact fld_cell I hT j5
 .exact k.TP
def XO.ok{P:QH}{w:QL}{h:QN}{e C:KF}{sl:Array (Option KB)}(q:h.get? e=be #[.ref C,od,.fields vs,sl]):ObjOk P w H h e (XO e C od):=
 #[#[vs,sl,q],#[_,q],λh1 h2 ⟨vs,sl,q⟩ k=>#[vs,sl,k _ q]]
end
abbrev TH:=t6->List (t6×D)->TSD
def DH(X:Cx)[J:Jx](hs:List Q3)(th:TH):Prop:=
 ∀(pins:List (KF×QY)) (s:KM) (σ:L2.St) (H:Hp) (D:Ends) (e C:KF) (od:Option KF) (T:KF) (x:t6) (fs:List (t6×My.D)) (B F0 F:Hp) (z:SD) (ED:EndsD),Inv X pins σ H s->Held X pins H s e C od T->Kept B F0 F H->RepS X.K B F H z σ->ErrD X.K F x fs C od->
  th x fs ED z->EndsOk X.K B F0 ED D->QI (QJ X.prog X.w) X.A (RU (.ref e) X.env hs) (SP X pins D) X.xe s
structure WDH(X:Cx)[Jx](hs:List Q3)(th:TH):Prop where
 out:DH X hs th
section
variable {X:Cx}[J:Jx]{es:List t6}{c:t6}{b₀:P3}{IC:List P3}{pos pc:QT}{rest:List Q3}{t:TSD}{r:TH}
def yI:TH:=λ_ _ _ _=>False
def yJ(es:List t6)(c:t6)(t:TSD)(r:TH):TH:=λx fs E z=>(x∈es/\c∈es)/\if subE x c=true then t E z else r x fs E z
def yL:WDH X [] yI:=#[λ_ _ _ _ _ _ _ _ _ _ _ _ _ _ _ _ _ _ _ _ _ h _=>h.elim]
def yM(hE:ErrsK X.K X.mg es)(hs:∀e,WDSs (X.held e) (b₀::IC) t)(hr:WDH X rest r)(hg:autoParam (Gl X c) zA0)(d9:autoParam (zND c) zA1):WDH X (.ExceptHandler (be (.Name c pc)) m_ (b₀::IC) pos::rest) (yJ es c t r):=⟨by
 have hs:=λe=>(hs e).out;have hr:=hr.out;intro pins s σ H D e C od T x fs B F0 F z ED I hd k rs er ht ee;obtain⟨⟨NP,NQ⟩,ht⟩:=ht;obtain⟨Cc,Nc,Qe,kc⟩:=hE.cls c NQ;obtain⟨NR,Nx,Qf,kx⟩:=hE.cls x NP;obtain rfl:NR=C:=by have h1:=kx.ns;rw[er.1]at h1;cases h1;rfl
 have hb:=hE.has NP NQ kx kc;obtain⟨nm,q,bs,sn,sub,ab,col,dd,k0,k1,k2,k3,k5,lk⟩:=kx.obj;obtain⟨NF,q',NG,NH,Kd,NI,Ke,K2,NJ,NK,NL,NM,NN,O6⟩:=kc.obj;refine wpAny_handleBy_cons (codeAny_handlers_test (cU (X:=X.held e) (Inv.held I) hg kc.mg ?_ d9)) (by intro q;cases q);obtain⟨sl,vs,oT,ts,he,h1,td,hT,j5,h3⟩:=id hd.ex;refine yH (g:=s.gens) (d:=s.drawn) (t:=s.toks) (os:=s.os) (I.kIn _ _ lk) (I.kIn _ _ O6) he rfl kc.base hb ?_;cases Kf:subE x c with
 |true=>
  rw[Kf,if_pos rfl]at ht;refine codeAny_handlers_suite (flight_none hd.ex λh' gV v9=>?_);obtain⟨I',_⟩:=Held.flight I hd gV v9;exact QV (hs e pins _ σ H D (Inv.held I') #[B,F0,F,z,k,rs,ED,ht,ee]) (λf s1 q=>SP.unheld I.ok q) λ_ _ z=>False.elim z
 |false=>
  rw[Kf,if_neg Fk]at ht;exact hr pins s σ H D e NR od T x fs B F0 F z ED I hd k rs er ht ee⟩
end
abbrev _root_.L2.Cx.tried(X:Cx)(pn:List (KF×QY))(xe:KB->KM->Prop):Cx:={X with pn:=pn,xe:=xe}
section
variable {X:Cx}{pn pins:List (KF×QY)}{xe:KB->KM->Prop}{σ:L2.St}{H:Hp}{s:KM}
def Cx.Ok.tried(ok:X.Ok):(X.tried pn xe).Ok:=#[ok.mod,ok.kind,ok.glob,ok.blt,ok.above,ok.inj,ok.has,ok.cab,ok.hd,ok.frames,ok.stk,ok.exf,ok.bs,ok.bsz,ok.noex,ok.exfs,ok.funs,ok.frf]
def Inv.tried(I:Inv X pins σ H s):Inv (X.tried (X.pn++pins) xe) [] σ H s:=#[Cx.Ok.tried I.ok,I.os,I.bare,I.base,I.loc,I.cell,I.free,I.freeC,λp hp=>I.pin p (by simpa using hp),I.hok,I.len]
def Inv.untried(ok:X.Ok)(I:Inv (X.tried (X.pn++pins) xe) [] σ H s):Inv X pins σ H s:=#[ok,I.os,I.bare,I.base,I.loc,I.cell,I.free,I.freeC,λp hp=>I.pin p (by simpa using hp),I.hok,I.len]
def SP.untried{D:Ends}{f:Flow}{s':KM}(ok:X.Ok)(h:SP (X.tried (X.pn++pins) xe) [] D f s'):SP X pins D f s':=by
 cases f with
 |next=>obtain⟨σ',H',I,q⟩:=h;exact#[σ',H',Inv.untried ok I,q]
 |brk=>obtain⟨σ',H',I,q⟩:=h;exact#[σ',H',Inv.untried ok I,q]
 |cont=>obtain⟨σ',H',I,q⟩:=h;exact#[σ',H',Inv.untried ok I,q]
 |ret u=>obtain⟨v,σ',H',I,r,q⟩:=h;exact#[v,σ',H',Inv.untried ok I,r,q]
end
variable{RX:SD->XD}
def Kept.re{J:Jx}{B F0 F:Hp}(k:@Kept J B F0 F H):@Kept #[B,F0,RX] B F0 F H:=@Kept.mk #[B,F0,RX] B F0 F H k.bh k.fh k.f0 k.out rfl (Same.refl F0) (λ_ h _=>h)
def Kept.un{J:Jx}{B F0 F F' H':Hp}(k:@Kept J B F0 F H)(k':@Kept #[B,F0,RX] B F0 F' H'):@Kept J B F0 F' H':=by
 obtain⟨a,b,c,d,_,_,_⟩:=k';exact @Kept.mk J B F0 F' H' a b c d k.eb k.jf k.jo
variable{hs:List Q3}
def try_core{h₀:Q3}{σ':L2.St}{H':Hp}{s':KM}{D:Ends}{xe:KB->KM->Prop}(I2:Inv X pins σ' H' s')
  (hd:Exd (X.tried (X.pn++pins) xe) H' s' e C od) (hex:X.ex=[]) (hstk:X.stack=X.env::X.outer) (hfr:X.env.frame=be X.env.locals)
  (hh:∀s4 T2,Inv X pins σ' H' s4->Held X pins H' s4 e C od T2->QI (QJ X.prog X.w) X.A (RU (.ref e) X.env (h₀::hs)) (SP X pins D) X.xe s4):
  QI (QJ X.prog X.w) X.A (Rw (.ref e) X.env) (λ_ s₂=>QI (QJ X.prog X.w) X.A (RO (.ref e) m_) (λ_ s₃=>QI (QJ X.prog X.w) X.A (RU (.ref e) X.env (h₀::hs)) (SP X pins D) X.xe s₃) X.xe s₂) X.xe s':=by
 obtain⟨He,e0,eP,hd⟩:=hd;have stk:s'.heap.FunFrames X.base (X.env::X.outer):=by rw[<-hstk];exact I2.stack
 have NS:X.A.frames=be (X.env::X.outer):=by rw[<-hstk];exact I2.ok.frames
 have d8:∀(u5:QN) (T2:KF) (ex:List KF),(∀b∈ex,H' b=m_/\X.s₀.heap.get? b=m_/\(∃o vs,s'.heap.get? b=be o/\o.data=.fields vs)/\∀p∈X.pn++pins,p.1≠b)->ExAt u5 e C od T2 (Rx X.env.locals)->s'.heap.objs.size<=T2->Stay (frs (X.env::X.outer)) ex s'.heap u5->
   QI (QJ X.prog X.w) X.A (RO (.ref e) m_) (λ_ s₃=>QI (QJ X.prog X.w) X.A (RU (.ref e) X.env (h₀::hs)) (SP X pins D) X.xe s₃) X.xe {s' with heap:=u5}:=by
  intro u5 T2 ex u7 n5 t5 ox;have z8:s'.heap.get? T2=none:=Heap.get?_none_of_le t5;have I3:Inv X pins σ' H' {s' with heap:=u5}:=Inv.stay I2 ox (λb hb=>by rw[hstk];exact hb) (λb hb=>(u7 b hb).1) (λb hb=>(u7 b hb).2.1) (λb hb=>let ⟨_,_,q1,q2⟩:=(u7 b hb).2.2.1;jM I2 q1 q2) (λb hb=>let ⟨_,_,q1,q2⟩:=(u7 b hb).2.2.1;fld_cell I2 q1 q2) (λb hb=>(u7 b hb).2.2.2);obtain⟨sl,vs,oT,ts,he,g1,td,hT,j5,g3⟩:=id n5;have Iz:H' T2=none:=rK I2.hok z8;have T0:X.s₀.heap.get? T2=none:=du I2 hex z8;have TP:∀p∈X.pn++pins,p.1≠T2:=λp hp z=>by
   have:=(I2.pin p hp).1;rw[z,z8]at this;cases this
  refine flight_none (s:={s' with heap:=u5}) n5 λh3 J7 v_=>?_;have I4:Inv X pins σ' H' {s' with heap:=h3}:=Inv.stay (s:={s' with heap:=u5}) I3 v_ (λb hb=>by cases hb) (λb hb=>by rw[E6.mp hb];exact Iz) (λb hb=>by rw[E6.mp hb];exact T0) (λb hb=>by rw[E6.mp hb];exact jM I3 hT j5) (λb hb=>by rw[E6.mp hb];exact fld_cell I3 hT j5) (λb hb=>by rw[E6.mp hb];exact TP);exact hh _ T2 I4 #[J7,He,Iz,e0,T0,eP,TP]
 rcases hd with⟨sl,vs,he,hv⟩|⟨T,Jv,T0,HT,TP⟩
 .refine qH NS stk hfr he hv λu5 T2 n5 t5 ox=>d8 u5 T2 [e] (λb hb=>?_) n5 t5 ox;rw[E6.mp hb];exact#[He,e0,#[_,_,he,rfl],eP]
 .obtain⟨sl,vs,oT,ts,he,g1,td,hT,j5,g3⟩:=id Jv;refine qI NS stk hfr Jv λu5 T2 n5 t5 ox=>d8 u5 T2 [T,e] (λb hb=>?_) n5 t5 ox;rcases E8.mp hb with z|z
  .rw[z];exact#[HT,T0,#[_,_,hT,j5],TP]
  .rw[E6.mp z];exact#[He,e0,#[_,_,he,rfl],eP]
def dTry(tb:Jx->TSD)(th:TH):TSD:=λE z=>∃RX:SD->XD,(∀J:Jx,J.RX=RX->tb J E z)/\∀z' x fs,RX z' x fs->th x fs E z'
def yO[J:Jx]{body:List P3}{h₀:Q3}{pos:QT}{tb:Jx->TSD}{th:TH}
  (hb:∀(pn:List (KF×QY)) (xe:KB->KM->Prop) (J':Jx),Q2 (QJ X.prog X.w) X.A X.env xe->@XOk (X.tried pn xe) J'->@DSs (X.tried pn xe) J' body (tb J'))
  (hh:DH X (h₀::hs) th) (hex:autoParam (X.ex=[]) zA0) (hstk:autoParam (X.stack=X.env::X.outer) zA0) (hfr:autoParam (X.env.frame=be X.env.locals) zA0):DS X (.Try body (h₀::hs) [] [] pos) (dTry tb th):=by
 intro pins s σ H D I h;obtain⟨B,F0,F,z,k,rs,ED,⟨RX,h1,h2⟩,ee⟩:=h;have ok:=I.ok;have hx:@XOk (X.tried (X.pn++pins) (λe s₁=>QI (QJ X.prog X.w) X.A (Rw e X.env) (λ_ s₂=>QI (QJ X.prog X.w) X.A (RO e m_) (λ_ s₃=>QI (QJ X.prog X.w) X.A (RU e X.env (h₀::hs)) (SP X pins D) X.xe s₃) X.xe s₂) X.xe s₁)) #[B,F0,RX]:=by
  intro σ' z' F' H' s' e C od x fs I1 kk rr hR er hd;exact try_core (Inv.untried ok I1) hd hex hstk hfr λs4 T2 I4 hl=>hh pins _ σ' H' D e C od T2 x fs B F0 F' z' ED I4 hl (Kept.un k kk) rr er (h2 z' x fs hR) ee
 refine wpAny_Try_except (QV (hb (X.pn++pins) _ #[B,F0,RX] PassesOwn.looking hx [] s σ H D (Inv.tried I) ?_) (λf s1 q=>?_) λe s1 q=>q)
 .refine#[B,F0,F,z,Kept.re k,rs,ED,h1 #[B,F0,RX] rfl,@EndsOk.mk #[B,F0,RX] _ _ _ _ _ (λz' s' F' H' k'=>ee.nx z' s' F' H' (Kept.un k k')) (λd v F' H' k'=>ee.rt d v F' H' (Kept.un k k')) (λz' s' F' H' k'=>ee.bk z' s' F' H' (Kept.un k k')) (λz' s' F' H' k'=>ee.ct z' s' F' H' (Kept.un k k'))]
 .have q:=SP.untried ok q;cases f with
  |next=>exact Rj q
  |ret v=>exact q
  |brk=>exact q
  |cont=>exact q
def ErrG(K:Ex)(f y:t6):Prop:=∃C cd,ErrA K y C cd/\findIn K (.ref C) "__getattribute__"=be (be (.builtin "BaseException.__getattribute__"))/\findIn K (.ref C) "__getattr__"=be m_/\findIn K (.ref C) f=be m_
def rM:tailIn K veLine veLine=true:=by
 unfold tailIn;rfl
def rN{c:KB}{d:Option KF}{es:Array DictEntry}{ep:Nat}(l:K.lookup N=be #[c,d,.dict es ep,sl])(h:es.toList.all (λe=>match e.key with|.str _ _=>true|_=>false)=true):nsOkIn K N=true:=by
 unfold nsOkIn;rw[l];dsimp only;rw[<-HF];exact h
def yQ{M:KF}{c0:KB}{dd:Option KF}{cd:ClassData}(l:K.lookup M=be #[c0,dd,.cls cd,sl])(hn:cd.ns=N)(h1:nsOkIn K N=true)(h2:nsIn K N "__init__"=be m_):tailIn K veLine (.ref M::veLine)=true:=by
 unfold tailIn;subst hn;dsimp only;rw[l];dsimp only;rw[h1,h2,rM];simp
def yR:kitOne K (.ref C) (.ref C)=be true:=by
 unfold kitOne;rw[if_pos (beq_self_eq_true _)]
def rO(S:SpX):SpD:=λds R=>S ds R λ_ _=>False
def CalX.no{base:QN}{n:Nat}{S:SpX}(C:CalX P w K mg base n x ps S):CalD P w K mg base n x ps (rO S):=by
 obtain⟨f,fd,F,hb,hk,hm⟩:=C;refine#[f,fd,F.imp λvs H Q E h=>?_,hb,hk,hm];obtain⟨F,ds,fh,rs,R,h,q⟩:=h;exact#[F,ds,fh,rs,R,_,h,q,λ_ _ _ _ _ _ _ z=>z.elim]
end My
namespace My
def repS(x:t6)(n:Nat):Str:=#[(FU n x.cps.toList).flatten.toArray]
def rP{α:Type}(l:List α):∀m:Nat,(E7 m).filterMap (λk=>l[k]?)=l.take m
 |0=>by simp
 |m+1=>by
  rw[Gm,List.filterMap_append,rP l m,HG];cases h:l[m]?<;>simp[h]
def yT(lo hi:Option Int)(n:Nat):Builtin.Str.strSliceIndices lo hi 1 n=(E7 (HT.sIx n n hi-HT.sIx n 0 lo)).map λk=>HT.sIx n 0 lo+k:=by
 have C_:∀(i:Int) (d:Nat),max 0 (min (if i<0 then i+(n:Int)else i) (n:Int))=((HT.sIx n d (be i):Nat):Int):=by
  intro i d;show max 0 (min (if i<0 then i+(n:Int)else i) (n:Int))=(((if i<0 then(i+(n:Int)).toNat else min i.toNat n):Nat):Int);by_cases h:i<0
  .rw[if_pos h,if_pos h];lia
  .rw[if_neg h,if_neg h];lia
 have h1:Builtin.Str.strSliceIndices lo hi 1 n=sliceRange ((HT.sIx n 0 lo:Nat):Int) ((HT.sIx n n hi:Nat):Int) 1:=by
  unfold Builtin.Str.strSliceIndices;simp only[show(1:Int)>0 by decide,if_true];cases lo with
  |none=>cases hi with
   |none=>rfl
   |some j=>rw[<-C_ j n];rfl
  |some i=>cases hi with
   |none=>rw[<-C_ i 0];rfl
   |some j=>rw[<-C_ i 0,<-C_ j n]
 rw[h1];unfold sliceRange;simp only[show(1:Int)>0 by decide,if_true];have e3:(if((HT.sIx n 0 lo:Nat):Int)<((HT.sIx n n hi:Nat):Int)then(((HT.sIx n n hi:Nat):Int)-((HT.sIx n 0 lo:Nat):Int)+1-1)/1 else 0).toNat=HT.sIx n n hi-HT.sIx n 0 lo:=by
  split<;>lia
 rw[e3];apply Ha;intro k _;lia
def slice_cps(y:t6)(lo hi:Option Int):Txt.slice y lo hi=#[((y.cps.toList.drop (HT.sIx y.length 0 lo)).take (HT.sIx y.length y.length hi-HT.sIx y.length 0 lo)).toArray]:=by
 have la:HT.sIx y.length 0 lo<=y.length:=HT.sIx_le _ _ (FB _) lo;have lb:HT.sIx y.length y.length hi<=y.length:=HT.sIx_le _ _ (E5 _) hi;unfold Txt.slice;rw[yT];split
 .rename_i h;have hl:HT.sIx y.length y.length hi-HT.sIx y.length 0 lo=y.length:=by simpa using h
  have ha:HT.sIx y.length 0 lo=0\/y.length=0:=t8
  rw[hl];obtain⟨cp⟩:=y;have e:(Gy (HT.sIx (Str.mk cp).length 0 lo) cp.toList)=cp.toList:=by
   rcases ha with ha|ha
   .rw[ha];rfl
   .have:cp=[].toArray:=Array.eq_empty_of_size_eq_zero ha;subst this;simp
  show(#[cp]:t6)=#[((Gy (HT.sIx (Str.mk cp).length 0 lo) cp.toList).take cp.size).toArray];rw[e,Gn IV]
 .congr 2;rw[Hu];have:=rP (y.cps.toList.drop (HT.sIx y.length 0 lo)) (HT.sIx y.length y.length hi-HT.sIx y.length 0 lo);rw[<-this];congr 1;funext k;simp
section
variable {X:Cx}[J:Jx]{a b c e:QG}{ta tb tc te:TD}{pos:QT}
def EZ:RD2:=λx y R=>match x,y with
 |.int i,.int j=>CMul i j/\R (.int (i*j))
 |.str i,.int n=>(-(2^62)<=n/\n<=1000000/\i.length*n.toNat<=1000000)/\R (.str (repS i n.toNat))
 |.lst xs,.int n=>(-(2^62)<=n/\n<=1000000/\xs.length*n.toNat<=1000000)/\R (.lst (FU n.toNat xs).flatten)
 |_,_=>False
def yU:SlR X (λx lo hi H Q=>∃y,x=.str y/\y.length<=sizeLine/\Q (.str (Txt.slice y lo hi)) H):=by
 intro pins s σ H x v vl vu lo hi sl Q I rx hs pl pu h;obtain⟨y,rfl,hz,q⟩:=h;obtain⟨t,rfl⟩:=rx;have d8:∀t' k,EP X pins σ Q (.str (Txt.slice y lo hi) t') {s with toks:=k}:=λt' k=>#[.str _,H,I.tok k,#[_,rfl],q];have le:=Fh (Txt.slice_le y lo hi) hz;refine#["str",_,PySem.F.slot_str_getitem.lookup,Sh _ _ _,?_];cases pl with
 |none=>cases pu with
  |none=>exact Ra (l:=m_) (u:=m_) (st:=m_) hs rfl (Rz #[le,d8])
  |int j tj=>exact Ra (l:=m_) (u:=be (j,tj)) (st:=m_) hs rfl (Rz #[le,d8])
 |int i ti=>cases pu with
  |none=>exact Ra (l:=be (i,ti)) (u:=m_) (st:=m_) hs rfl (Rz #[le,d8])
  |int j tj=>exact Ra (l:=be (i,ti)) (u:=be (j,tj)) (st:=m_) hs rfl (Rz #[le,d8])
abbrev TDO:=SD->(Option Int->Prop)->Prop
def yV:TDO:=λ_ R=>R m_
def yY(te:TD):TDO:=λz R=>te z λx=>match x with|.int i=>R (be i)|_=>False
def lO(K:Ex)[J:Jx](t:TDO):TO:=λs H Q=>∃B F z,Kept B J.F0 F H/\RepS K B F H z s/\∃R:Option Int->Prop,t z R/\∀o F' H',Grow F H F' H'->R o->Q o H'
abbrev DPO(X:Cx)[Jx](e:Option QG)(t:TDO):Prop:=PO X e (lO X.K t)
structure WDPO(X:Cx)[Jx](e:Option QG)(t:TDO):Prop where
 out:DPO X e t
def PO.anti{X:Cx}{e:Option QG}{t t':TO}(h:PO X e t)(a:∀s H Q,t' s H Q->t s H Q):PO X e t':=λpins s σ H Q I q=>h pins s σ H Q I (a _ _ _ q)
def cm:WDPO X m_ yV:=⟨PO.anti qp λs H Q q=>by
 obtain⟨B,F,z,kf,rs,R,h1,h2⟩:=q;exact h2 m_ F H (Grow.refl kf.fh) h1⟩
def cn(he:WDE X e te):WDPO X (be e) (yY te):=⟨have he:=he.out;PO.anti (qq he) λs H Q q=>by
 obtain⟨B,F,z,kf,rs,R,h1,h2⟩:=q;refine#[B,F,z,kf,rs,_,h1,λx u F1 H1 g1 hx rx=>?_];split at hx
 .exact#[_,rep_int.mp rx,h2 _ F1 H1 g1 hx]
 .exact hx.elim⟩
def rdSl:D->Option Int->Option Int->(D->Prop)->Prop:=λx lo hi R=>match x with
 |.str y=>y.length<=1000000/\R (.str (Txt.slice y lo hi))
 |.lst xs=>R (.lst (cutD xs lo hi))
 |.rol xs=>R (.lst (cutD xs lo hi))
 |.tup xs=>¬(HT.sIx xs.length 0 lo=0/\HT.sIx xs.length xs.length hi=xs.length)/\R (.tup (cutD xs lo hi))
 |_=>False
def dSl(ta:TD)(tl th:TDO):TD:=λz R=>ta z λx=>tl z λlo=>th z λhi=>rdSl x lo hi R
def cq{lo hi:Option QG}{tl th:TDO}{p2:QT}(ha:WDE X a ta)(hl:WDPO X lo tl)(hu:WDPO X hi th):WDE X (.Subscript a (.Slice lo hi m_ p2) pos) (dSl ta tl th):=⟨have ha:=ha.out;have hl:=hl.out;have hu:=hu.out;(qr (SlR.or yU (SlR.or qy wP)) ha hl hu).anti λs H Q q=>by
 obtain⟨B,F,z,kf,rs,R,h1,h2⟩:=q;refine#[B,F,z,kf,rs,_,h1,λx u F1 H1 g1 hx rx=>?_];refine#[B,F1,z,kf.grow g1,rs.grow g1,_,hx,λlo F2 H2 g2 hy=>?_];refine#[B,F2,z,(kf.grow g1).grow g2,(rs.grow g1).grow g2,_,hy,λhi F3 H3 g3 hw=>?_];have g:=g1.trans (g2.trans g3);have K3:=(rx.mono g2.ff).mono g3.ff;unfold rdSl at hw;split at hw
 .exact .inl #[_,rep_str.mp K3,Fh hw.1 y8,h2 _ _ F3 H3 g hw.2 (rep_str.mpr rfl)]
 .obtain⟨l,vs,rfl,hq,rr⟩:=rep_lst.mp K3;refine .inr (.inl #[l,vs,rfl,SqL.of (g3.fh _ _ hq),λp hp=>?_]);exact h2 _ _ _ _ (g.trans (Grow.new g3.fh hp _)) hw (rep_lst.mpr #[p,_,rfl,aG,(rr.cut _ _).mono (aO (g3.fh.free hp) _)])
 .obtain⟨l,vs,rfl,hq,rr⟩:=rep_rol.mp K3;refine .inr (.inl #[l,vs,rfl,g3.fh.seq hq,λp hp=>?_]);exact h2 _ _ _ _ (g.trans (Grow.new g3.fh hp _)) hw (rep_lst.mpr #[p,_,rfl,aG,(rr.cut _ _).mono (aO (g3.fh.free hp) _)])
 .obtain⟨l,vs,rfl,hq,rr⟩:=rep_tup_mp K3;refine .inr (.inr #[l,vs,rfl,g3.fh.tup hq,by rw[rr.length];exact hw.1,λp hp=>?_]);exact h2 _ _ _ _ (g.trans (Grow.new g3.fh hp _)) hw.2 (rep_tupS.mpr #[p,_,rfl,aG,(rr.cut _ _).mono (aO (g3.fh.free hp) _)])
 .exact hw.elim⟩
def rdIn(neg:Bool):RD2:=λx y R=>match x,y with
 |.str i,.str j=>R (.bl (if neg then !(!(Builtin.Str.occurrences j i 0 j.length 1).isEmpty)else !(Builtin.Str.occurrences j i 0 j.length 1).isEmpty))
 |x,.lst ys=>(bo x=true/\ys.all bo=true)/\R (.bl (if neg then !(ys.any λy=>eqF y x)else ys.any λy=>eqF y x))
 |x,.rol ys=>(bo x=true/\ys.all bo=true)/\R (.bl (if neg then !(ys.any λy=>eqF y x)else ys.any λy=>eqF y x))
 |x,.tup ys=>(bo x=true/\ys.all bo=true)/\R (.bl (if neg then !(ys.any λy=>eqF y x)else ys.any λy=>eqF y x))
 |_,_=>False
def gv{K:Ex}{H:Hp}{x:D}{u:V}(rx:Rep K H x u)(fx:bo x=true):∀{ys:List D} {vs:List V},Reps K H ys vs->ys.all bo=true->inV u vs=ys.any λy=>eqF y x
 |[],vs,r,_=>by rw[reps_nil.mp r];rfl
 |y::ys,vs,r,f=>by
  obtain⟨v,vr,rfl,r1,r2⟩:=reps_cons.mp r;rw[FO,Fv]at f;have ih:=gv rx fx r2 f.2;unfold inV at ih ⊢;rw[Gi,Gi,ih,jz r1 rx f.1 fx]
def rInV(K:Ex)(neg:Bool):R2:=λx y H Q=>(∃i j,x=.str i/\y=.str j/\Q (.bl (if neg then !(!(Builtin.Str.occurrences j i 0 j.length 1).isEmpty)else !(Builtin.Str.occurrences j i 0 j.length 1).isEmpty)) H)\/rIn K neg x y H Q
def yZ{K:Ex}{neg:Bool}:aY K (rInV K neg) (rdIn neg):=by
 intro x y u v F H R Q fh h rx ry q;unfold rdIn at h;split at h
 .exact .inl #[_,_,rep_str.mp rx,rep_str.mp ry,q _ _ F H (Grow.refl fh) h (rep_bl.mpr rfl)]
 .obtain⟨⟨f1,f2⟩,h⟩:=h;obtain⟨l,vs,rfl,hq,rr⟩:=rep_lst.mp ry;exact .inr #[l,vs,rfl,.inl (fh.seq (SqL.of hq)),dN rx f1,cN rr f2,q _ _ F H (Grow.refl fh) h (rep_bl.mpr (by rw[gv rx f1 rr f2]))]
 .obtain⟨⟨f1,f2⟩,h⟩:=h;obtain⟨l,vs,rfl,hq,rr⟩:=rep_rol.mp ry;exact .inr #[l,vs,rfl,.inl (fh.seq hq),dN rx f1,cN rr f2,q _ _ F H (Grow.refl fh) h (rep_bl.mpr (by rw[gv rx f1 rr f2]))]
 .obtain⟨⟨f1,f2⟩,h⟩:=h;obtain⟨l,vs,rfl,hq,rr⟩:=rep_tup_mp ry;exact .inr #[l,vs,rfl,.inr (fh.tup hq),dN rx f1,cN rr f2,q _ _ F H (Grow.refl fh) h (rep_bl.mpr (by rw[gv rx f1 rr f2]))]
 .exact h.elim
def za:OpR X (QW .NotIn) (rInV X.K true):=OpR.or wY wX
end
section
variable {X:Cx}[J:Jx]{a b c e:QG}{ta tb tc te:TD}{pos:QT}
def dv(x:t6):List D:=x.cps.toList.map λc=>D.str #[[c].toArray]
def zb{x:t6}{k c:Nat}(h:x.cps[k]?=be c):(dv x)[k]?=be (.str #[[c].toArray]):=by
 unfold dv;rw[Fg,Array.getElem?_toList,h];rfl
def rQ(x:t6):(dv x).length=x.length:=by unfold dv;rw[E9];simp[Str.length]
variable {f6 iter:QG}{x:t6}{px:QT}{scope:Q9}{ti:TD}
end
section
variable {X:Cx}[J:Jx]{a b c e o:QG}{es:List QG}{ta tb tc te to:TD}{t:TDA}{pos:QT}
abbrev RTx:=t6->List D->(D->Prop)->Prop
def dTx(r:RTx)(to:TD)(t:TDA):TD:=λz R=>to z λx=>match x with|.str y=>t z λds=>r y ds R|_=>False
def MtS(X:Cx)(id:String)(r:RTx):Prop:=∃rv:V->List V->Hp->VK->Prop,MtR X id rv/\∀(y:t6) (ds:List D) (vs:List V) (F H:Hp) (R:D->Prop) (Q:VK),Reps X.K F ds vs->r y ds R->(∀d v,(∀G,Rep X.K G d v)->R d->Q v H)->rv (.str y) vs H Q
variable{apos cpos:QT}
def rR{name:t6}{id:String}{r:RTx}(slot:Slot "str" name id)(Lp:typeOf (.builtin id)=pure (.type "method_descriptor"))(hm:MtS X id r)(ho:DE X o to)(ha:DA X (e::es) t)
  (b8:autoParam (QQ o name X.env (QS o X.env)=QS o X.env) zA0)
  (d_:autoParam (zHF X cpos (e::es)) zA0)
  (c5:autoParam ((apos.endLine==cpos.line)=true) zA0) (hs:autoParam (zSE X e es) zA0) (l_:autoParam (zPL X cpos es) zA0):
  DE X (.Call (.Attribute o name apos) (e::es) [] cpos) (dTx r to t):=by
 obtain⟨rv,hm,L⟩:=hm;refine(dI PySem.F.plainAttrs_str slot Lp hm ho ha b8 d_ c5 hs l_).anti λs H Q q=>?_;obtain⟨B,F,z,kf,rs,R,h1,h2⟩:=q;refine#[B,F,z,kf,rs,_,h1,λx u F1 H1 g1 hx rx=>?_];split at hx
 .rename_i y;rw[rep_str.mp rx];refine#[rfl,B,F1,z,kf.grow g1,rs.grow g1,_,hx,λds vs F2 H2 g2 hy ry=>?_];exact L y ds vs F2 H2 R Q ry hy λd v rd hR=>h2 d v F2 H2 (g1.trans g2) hR (rd F2)
 .exact hx.elim
def E1:RTx:=λy ds R=>match ds with|[.str p]=>R (.bl (Txt.startswith y p))|_=>False
def rEnds:RTx:=λy ds R=>match ds with|[.str p]=>R (.bl (Txt.endswith y p))|_=>False
def ms_ends:MtS X "str.endswith" rEnds:=by
 refine#[λx vs H Q=>∃y p,x=.str y/\vs=[.str p]/\Q (.bl (Txt.endswith y p)) H,?_,?_]
 .intro pins s σ H x vs v us Q I rx rv h;obtain⟨y,p,rfl,rfl,q⟩:=h;obtain⟨t,rfl⟩:=rx;obtain⟨u,rfl,t',rfl⟩:=bS rv;exact SC.endswith #[.bl _,H,I,rfl,q]
 .intro y ds vs F H R Q r h q;unfold rEnds at h;split at h
  .obtain⟨v,vr,rfl,h1,h2⟩:=reps_cons.mp r;rw[reps_nil.mp h2,rep_str.mp h1];exact#[_,_,rfl,rfl,q _ _ (λ_=>rep_bl.mpr rfl) h]
  .exact h.elim
def zc(ho:WDE X o to)(ha:WDA X [e] t)(b8:autoParam (QQ o "endswith" X.env (QS o X.env)=QS o X.env) zA0)
  (d_:autoParam (zHF X cpos [e]) zA0)
  (c5:autoParam ((apos.endLine==cpos.line)=true) zA0) (hs:autoParam (zSE X e []) zA0):WDE X (.Call (.Attribute o "endswith" apos) [e] [] cpos) (dTx rEnds to t):=#[have ho:=ho.out;have ha:=ha.out;rR PySem.F.slot_str_endswith PySem.F.type_str_endswith ms_ends ho ha b8 d_ c5 hs]
def rSIndex:RTx:=λy ds R=>match ds with|[.str p]=>∃i rest,Builtin.Str.occurrences y p 0 y.length 1=i::rest/\R (.int (i:Nat))|_=>False
def zd:MtS X "str.index" rSIndex:=by
 refine#[λx vs H Q=>∃y p i rest,x=.str y/\vs=[.str p]/\Builtin.Str.occurrences y p 0 y.length 1=i::rest/\Q (.int (i:Nat)) H,?_,?_]
 .intro pins s σ H x vs v us Q I rx rv h;obtain⟨y,p,i,rest,rfl,rfl,ho,q⟩:=h;obtain⟨t,rfl⟩:=rx;obtain⟨u,rfl,t',rfl⟩:=bS rv;exact SC.index ho #[.int _,H,I.tok _,#[_,rfl],q]
 .intro y ds vs F H R Q r h q;unfold rSIndex at h;split at h
  .obtain⟨i,rest,ho,h⟩:=h;obtain⟨v,vr,rfl,h1,h2⟩:=reps_cons.mp r;rw[reps_nil.mp h2,rep_str.mp h1];exact#[_,_,i,rest,rfl,rfl,ho,q _ _ (λ_=>rep_int.mpr rfl) h]
  .exact h.elim
def rS(ho:WDE X o to)(ha:WDA X [e] t)(b8:autoParam (QQ o "index" X.env (QS o X.env)=QS o X.env) zA0)
  (d_:autoParam (zHF X cpos [e]) zA0)
  (c5:autoParam ((apos.endLine==cpos.line)=true) zA0) (hs:autoParam (zSE X e []) zA0):WDE X (.Call (.Attribute o "index" apos) [e] [] cpos) (dTx rSIndex to t):=#[have ho:=ho.out;have ha:=ha.out;rR PySem.F.slot_str_index PySem.F.type_str_index zd ho ha b8 d_ c5 hs]
def Reps.init{K:Ex}{F:Hp}:∀{ds:List D} {vs:List V},Reps K F ds vs->Reps K F ds.dropLast vs.dropLast
 |[],vs,r=>by rw[reps_nil.mp r];exact reps_nil.mpr rfl
 |[d],vs,r=>by
  obtain⟨v,vr,rfl,_,h2⟩:=reps_cons.mp r;rw[reps_nil.mp h2];exact reps_nil.mpr rfl
 |d::d2::ds,vs,r=>by
  obtain⟨v,vr,rfl,h1,h2⟩:=reps_cons.mp r;obtain⟨v2,Qg,rfl,h3,h4⟩:=reps_cons.mp h2;rw[HH,HH];exact reps_cons.mpr #[v,_,rfl,h1,Reps.init h2]
end
end My
namespace My
open Exc
section
variable {X:Cx}{a b c e:QG}{ta tb tc te:TD}{pos:QT}{st:P3}{rest:List P3}{t u:TSD}
def aJ[Jx]{c:QG}{l r:List P3}{tc:TDT}(hc:WDT X c tc)(ha:WDSs X l t)(hb:WDSs X r u):WDS X (.If c l r pos) (dIfS tc t u):=#[ra (c:=c) (l:=l) (r:=r) (tc:=tc) (hc:=hc.out) (ha:=ha.out) (hb:=hb.out)]
end
def ze{X:Cx}[J:Jx]{body:List P3}{h₀:Q3}{hs:List Q3}{pos:QT}{tb:Jx->TSD}{th:TH}(hb:∀(pn:List (KF×QY)) (xe:KB->KM->Prop) (J':Jx),Q2 (QJ X.prog X.w) X.A X.env xe->@XOk (X.tried pn xe) J'->@WDSs (X.tried pn xe) J' body (tb J'))(hh:WDH X (h₀::hs) th)(hex:autoParam (X.ex=[]) zA0)(hstk:autoParam (X.stack=X.env::X.outer) zA0)(hfr:autoParam (X.env.frame=be X.env.locals) zA0):WDS X (.Try body (h₀::hs) [] [] pos) (dTry tb th):=#[yO (X:=X) (body:=body) (h₀:=h₀) (hs:=hs) (pos:=pos) (tb:=tb) (th:=th) (hb:=λa b c d e=>(hb a b c d e).out) (hh:=hh.out) (hex:=hex) (hstk:=hstk) (hfr:=hfr)]
section
variable {P:QH}{w:QL}{K:Ex}{mg:t6->Option KB}{base:QN}
variable{x:t6}{st:P3}{N ps:List t6}{k:Nat}
def _root_.L2.Fun.okDW{qual:t6}{f:KF}{fd:QR}{S:SpD}(T:Fun K x qual st f fd)(F:FnScope N ps (ah st))(len:∀ds R,S ds R->ds.length=ps.length)
  (a9:∀(cdv:KB) (A:QM) (outer:List Rt) (s:KM) (H:Hp) (E:XK) (J:Jx),Room k (A.deeper (QX qual (ah st) s.heap.objs.size f cdv))->
   ∃t,WDSs (cxOf (Exc.CX1 P w) P w K mg base N qual (ah st) f cdv A outer s H E).nox (aK st) t/\∀ds R,S ds R->t {nx:=λ_=>R .non,rt:=R} (startD N ds)):FnOk P w K mg base (Exc.CX1 P w) (k+1) f fd ps (lSp K S):=
 T.okD F len λcdv A outer s H E J hr=>let ⟨t,h,q⟩:=a9 cdv A outer s H E J hr;#[t,h.out,q]
def Tx.okDW{S:SpD}(T:Tx K mg x st ps)(F:FnScope N ps (ah st))(len:∀ds R,S ds R->ds.length=ps.length)
  (a9:∀(f:KF) (cdv:KB) (A:QM) (outer:List Rt) (s:KM) (H:Hp) (E:XK) (J:Jx),Room k (A.deeper (QX x (ah st) s.heap.objs.size f cdv))->
   ∃t,WDSs (cxOf (Exc.CX1 P w) P w K mg base N x (ah st) f cdv A outer s H E).nox (aK st) t/\∀ds R,S ds R->t {nx:=λ_=>R .non,rt:=R} (startD N ds)):CalD P w K mg base (k+1) x ps S:=
 Tx.okD T F len λf cdv A outer s H E J hr=>let ⟨t,h,q⟩:=a9 f cdv A outer s H E J hr;#[t,h.out,q]
def Tx.okXW{S:SpX}(T:Tx K mg x st ps)(F:FnScope N ps (ah st))(len:∀ds R RX,S ds R RX->ds.length=ps.length)
  (a9:∀(f:KF) (cdv:KB) (A:QM) (outer:List Rt) (s:KM) (H:Hp) (E:XK) (J:Jx),Room k (A.deeper (QX x (ah st) s.heap.objs.size f cdv))->XOk (cxOf (CX1 P w) P w K mg base N x (ah st) f cdv A outer s H E)->
   ∃t,WDSs (cxOf (CX1 P w) P w K mg base N x (ah st) f cdv A outer s H E) (aK st) t/\∀ds R RX,(∀z,J.RX z=RX)->S ds R RX->t {nx:=λ_=>R .non,rt:=R} (startD N ds)):CalX P w K mg base (k+1) x ps S:=
 Tx.okX T F len λf cdv A outer s H E J hr hx=>let ⟨t,h,q⟩:=a9 f cdv A outer s H E J hr hx;#[t,h.out,q]
def Cls.okIW{qual:t6}{f C:KF}{fd:QR}{p0:t6}{S:SiD}(T:Fun K "__init__" qual st f fd)(hb:Binds K fd (p0::ps) [])(F:FnScope (p0::N) (p0::ps) (ah st))(len:∀ds R,S ds R->ds.length=ps.length)
  (hns:nsIn K Pi x=be (be (.ref C))) (j_:mg x=be (.ref C)) (mk:Mk K C f)
  (a9:∀(cdv:KB) (A:QM) (outer:List Rt) (s:KM) (H:Hp) (E:XK) (J:Jx),Room k (A.deeper (QX qual (ah st) s.heap.objs.size f cdv))->
   ∃t,WDI (cxOf (Exc.CX1 P w) P w K mg base (p0::N) qual (ah st) f cdv A outer s H E).nox x (aK st) t/\∀ds R,S ds R->t (m_::startD N ds) [] R):CalM P w K mg base (k+1) x (p0::ps) S:=
 Cls.okI T hb F len hns j_ mk λcdv A outer s H E J hr=>let ⟨t,h,q⟩:=a9 cdv A outer s H E J hr;#[t,h.out,q]
end
inductive MO where
 |ins (x:Str) (fs:List (Str×D))|lst (ds:List D)|dti (a8:List ((Int×Int)×Int))
abbrev MS:=List (KF×MO)
def MRep(K:Ex)(F H:Hp)(a:KF):MO->Prop
 |.ins x fs=>∃C dx ws,nsIn K Pi x=be (be (.ref C))/\H a=be (.ins C dx ws)/\RepF K F fs ws
 |.lst ds=>∃vs,H a=be (.lst vs)/\Reps K F ds vs
 |.dti a8=>H a=be (.dT (dtiV a8))
def az(M:MS):List KF:=M.map (·.1)
def mget:MS->KF->Option MO
 |[],_=>m_
 |(b,o)::r,a=>if b=a then be o else mget r a
def mput:MS->KF->MO->MS
 |[],_,_=>[]
 |(b,p)::r,a,o=>if b=a then(b,o)::r else(b,p)::mput r a o
def mdel:MS->KF->MS
 |[],_=>[]
 |(b,p)::r,a=>if b=a then r else(b,p)::mdel r a
def bT:∀{M:MS} {a:KF} {o:MO},mget M a=be o->(a,o)∈M
 |[],_,_,h=>by cases h
 |(b,p)::r,a,o,h=>by
  unfold mget at h;split at h
  .rename_i e;subst e;cases h;exact Fd
  .exact Fc _ (bT h)
variable{M:MS}{a:KF}{o:MO}
def cr(h:(a,o)∈M):a∈az M:=FA.mpr #[_,h,rfl]
def gw:∀(M:MS) (a:KF) (o:MO),az (mput M a o)=az M
 |[],_,_=>rfl
 |(b,p)::r,a,o=>by
  unfold mput;split
  .rfl
  .show b::az (mput r a o)=b::az r;rw[gw r a o]
def mem_put:∀{M:MS} {a b:KF} {o q:MO},(az M).Nodup->(b,q)∈mput M a o->(b=a/\q=o/\a∈az M)\/(b≠a/\(b,q)∈M)
 |[],_,_,_,_,_,h=>by cases h
 |(c,p)::r,a,b,o,q,nd,h=>by
  have Kg:c∉az r/\(az r).Nodup:=FT.mp nd;unfold mput at h;split at h
  .rename_i e;subst e;rcases E8.mp h with z|z
   .cases z;exact .inl #[rfl,rfl,Fd]
   .have:b∈az r:=cr z;exact .inr #[λe=>Kg.1 (e ▸ this),Fc _ z]
  .rename_i ne;rcases E8.mp h with z|z
   .cases z;exact .inr #[ne,Fd]
   .rcases mem_put Kg.2 z with⟨e1,e2,e3⟩|⟨e1,e2⟩
    .exact .inl #[e1,e2,Fc _ e3]
    .exact .inr #[e1,Fc _ e2]
def jN:∀{M:MS} {a b:KF} {q:MO},(az M).Nodup->(b,q)∈mdel M a->b≠a/\(b,q)∈M
 |[],_,_,_,_,h=>by cases h
 |(c,p)::r,a,b,q,nd,h=>by
  have Kg:c∉az r/\(az r).Nodup:=FT.mp nd;unfold mdel at h;split at h
  .rename_i e;subst e;exact#[λe=>Kg.1 (e ▸ cr h),Fc _ h]
  .rename_i ne;rcases E8.mp h with z|z
   .cases z;exact#[ne,Fd]
   .obtain⟨e1,e2⟩:=jN Kg.2 z;exact#[e1,Fc _ e2]
def del_sub:∀{M:MS} {a:KF},(az (mdel M a)).Sublist (az M)
 |[],_=>.slnil
 |(c,p)::r,a=>by
  unfold mdel;split
  .exact List.sublist_cons_self _ _
  .exact List.Sublist.cons_cons _ del_sub
variable{K:Ex}{F H F' H':Hp}
def MRep.mono(ff:Same F F')(hh:∀o,H a=be o->H' a=be o):∀{o:MO},MRep K F H a o->MRep K F' H' a o
 |.ins x fs,⟨C,dx,ws,n,h,r⟩=>#[C,dx,ws,n,hh _ h,RepF.mono ff fs ws r]
 |.lst ds,⟨vs,h,r⟩=>#[vs,hh _ h,Reps.mono ff ds vs r]
 |.dti a8,h=>hh _ h
def MRep.there:∀{o:MO},MRep K F H a o->H a≠m_
 |.ins x fs,⟨C,dx,ws,n,h,r⟩=>by rw[h];exact λz=>nomatch z
 |.lst ds,⟨vs,h,r⟩=>by rw[h];exact λz=>nomatch z
 |.dti a8,h=>by rw[show H a=_ from h];exact λz=>nomatch z
structure RepM(K:Ex)(F H:Hp)(M:MS):Prop where
 nd:(az M).Nodup
 ok:∀a o,(a,o)∈M->MRep K F H a o
 fr:∀a,a∈az M->F a=m_
def RepM.nil:RepM K F H []:=#[HA,(λ_ _ h=>nomatch h),(λ_ h=>nomatch h)]
def RepM.here(r:RepM K F H M)(h:a∈az M):H a≠none:=by
 obtain⟨⟨b,o⟩,h1,rfl⟩:=FA.mp h;exact(r.ok _ _ h1).there
structure GrowM(M M':MS)(F H F' H':Hp):Prop where
 ff:Same F F'
 fh:Same F' H'
 hh:∀b o,b∉az M->H b=be o->H' b=be o
 out:∀b,b∉az M->F b=m_->H b≠m_->F' b=m_
 ks:∀b,b∈az M'->b∈az M\/H b=m_
def Grow.toM(g:Grow F H F' H'):GrowM M M F H F' H':=#[g.ff,g.fh,λb o _ h=>g.hh b o h,λb _ h1 h2=>g.out b h1 h2,λb h=>.inl h]
def GrowM.refl(h:Same F H):GrowM M M F H F H:=(Grow.refl h).toM
def GrowM.trans{M1 M2:MS}{F1 H1 F2 H2:Hp}(g:GrowM M M1 F H F1 H1)(k:GrowM M1 M2 F1 H1 F2 H2):GrowM M M2 F H F2 H2 where
  ff:=g.ff.trans k.ff
  fh:=k.fh
  hh:=λb o nb h=>k.hh b o (λz=>by rcases g.ks b z with q|q;exact nb q;rw[q]at h;cases h) (g.hh b o nb h)
  out:=λb nb h1 h2=>k.out b (λz=>by rcases g.ks b z with q|q;exact nb q;exact h2 q) (g.out b nb h1 h2) (by
    cases e:H b with
    |none=>exact absurd e h2
    |some o=>rw[g.hh b o nb e];exact λz=>nomatch z)
  ks :=λb h=>by
    rcases k.ks b h with q|q
    . exact g.ks b q
    . by_cases nb:b∈az M
      . exact .inl nb
      . right;cases e:H b with
        |none=>rfl
        |some o=>rw[g.hh b o nb e]at q;cases q
def RepM.grow(r:RepM K F H M)(g:Grow F H F' H'):RepM K F' H' M:=
 #[r.nd,λa o h=>(r.ok a o h).mono g.ff λo e=>g.hh a o e,λa h=>g.out a (r.fr a h) (r.here h)]
variable{ho:HO}
def RepM.put{o':MO}(r:RepM K F H M)(e:mget M a=be o)(h:MRep K F (upd H a ho) a o'):RepM K F (upd H a ho) (mput M a o'):=
 ⟨by rw[gw];exact r.nd,λb q hb=>by
  rcases mem_put r.nd hb with⟨rfl,rfl,_⟩|⟨ne,hb⟩
  .exact h
  .exact(r.ok b q hb).mono (Same.refl F) λu z=>by rw[ay ne];exact z,λb hb=>r.fr b (by rw[gw]at hb;exact hb)⟩
def GrowM.put{o':MO}(fh:Same F H)(fa:F a=m_)(e:mget M a=be o):GrowM M (mput M a o') F H F (upd H a ho) where
 ff:=Same.refl F
 fh:=λb u z=>by
  have ne:b≠a:=by rintro rfl;rw[fa]at z;cases z
  rw[ay ne];exact fh b u z
 hh:=λb u nb z=>by
  have ne:b≠a:=by rintro rfl;exact nb (cr (bT e))
  rw[ay ne];exact z
 out:=λb _ h _=>h
 ks:=λb h=>.inl (by rw[gw]at h;exact h)
def RepM.new{p:KF}(r:RepM K F H M)(fh:Same F H)(hp:H p=m_)(h:MRep K F (upd H p ho) p o):RepM K F (upd H p ho) ((p,o)::M):=by
 have np:p∉az M:=λz=>r.here z hp;refine#[FT.mpr #[np,r.nd],λb q hb=>?_,λb hb=>?_]
 .rcases E8.mp hb with z|z
  .cases z;exact h
  .exact(r.ok b q z).mono (Same.refl F) λu z'=>by rw[ay (λe:b=p=>np (e ▸ cr z))];exact z'
 .rcases E8.mp hb with z|z
  .rw[z];exact fh.free hp
  .exact r.fr b z
def GrowM.new{p:KF}(fh:Same F H)(hp:H p=m_):GrowM M ((p,o)::M) F H F (upd H p ho) where
 ff:=Same.refl F
 fh:=fh.trans (aO hp _)
 hh:=λb u _ z=>aO hp _ b u z
 out:=λb _ h _=>h
 ks:=λb h=>by
  rcases E8.mp h with z|z
  .exact .inr (by rw[z];exact hp)
  .exact .inl z
structure RepZ(K:Ex)(B F H:Hp)(z:SD)(s:L2.St)(M:MS):Prop where
 rs:RepS K B F H z s
 no:∀(i:Nat) ds,z[i]?≠be (be (.own ds))
 rm:RepM K F H M
 mb:∀a,a∈az M->B a=m_
variable{B:Hp}{M':MS}
def Kept.growM[Jx]{F0:Hp}(k:Kept B F0 F H)(mb:∀a,a∈az M->B a=m_)(g:GrowM M M' F H F' H'):Kept B F0 F' H' where
 bh:=λb o e=>g.hh b o (λz=>by rw[mb b z]at e;cases e) (k.bh b o e)
 fh:=g.fh
 f0:=k.f0.trans g.ff
 out:=λb h1 h2=>g.out b (λz=>h2 (mb b z)) (k.out b h1 h2) (by
  cases e:B b with
  |none=>exact absurd e h2
  |some o=>rw[k.bh b o e];exact λz=>nomatch z)
 eb:=k.eb
 jf:=k.jf
 jo:=k.jo
variable{z:SD}{s:L2.St}
def RepS.growM(r:RepS K B F H z s)(no:∀(i:Nat) ds,z[i]?≠be (be (.own ds)))(g:GrowM M M' F H F' H'):RepS K B F' H' z s where
 len:=r.len
 val:=λi d e n=>let ⟨v,q1,q2⟩:=r.val i d e n;#[v,q1,q2.mono g.ff]
 own:=λi ds e=>absurd e (no i ds)
 apart:=r.apart
def RepZ.growM(r:RepZ K B F H z s M)(bh:Same B H)(g:GrowM M M' F H F' H')(rm:RepM K F' H' M'):RepZ K B F' H' z s M':=
 ⟨r.rs.growM r.no g,r.no,rm,λa h=>by
  rcases g.ks a h with q|q
  .exact r.mb a q
  .exact bh.free q⟩
def RepZ.set{i:Nat}{d:D}{v:V}(r:RepZ K B F H z s M)(rd:Rep K F d v):RepZ K B F H (z.set i (be d)) (s.set i (be v)) M:=
 ⟨r.rs.set rd,λj ds e=>by
  by_cases hj:i=j
  .subst hj;rw[Gx]at e;simp at e;have:=rd.noown;rw[e.2]at this;cases this
  .rw[Fu hj]at e;exact r.no j ds e,r.rm,r.mb⟩
class Jm extends Jx where
 RM:SD->MS->XD
abbrev TME:=SD->MS->(D->MS->Prop)->Prop
abbrev TMT:=SD->MS->(Bool->MS->Prop)->Prop
abbrev TMA:=SD->MS->(List D->MS->Prop)->Prop
structure EndsM where
 nx:SD->MS->Prop
 rt:D->MS->Prop
 bk:SD->MS->Prop:=λ_ _=>False
 ct:SD->MS->Prop:=λ_ _=>False
abbrev TMS:=EndsM->SD->MS->Prop
def mE(K:Ex)[J:Jm](t:TME):TE:=λs H Q=>∃F z M,Kept J.B J.F0 F H/\RepZ K J.B F H z s M/\∃R:D->MS->Prop,t z M R/\∀d v M' F' H',GrowM M M' F H F' H'->R d M'->Rep K F' d v->RepM K F' H' M'->Q v H'
def mT(K:Ex)[J:Jm](t:TMT):TT:=λs H Q=>∃F z M,Kept J.B J.F0 F H/\RepZ K J.B F H z s M/\∃R:Bool->MS->Prop,t z M R/\∀b M' F' H',GrowM M M' F H F' H'->R b M'->RepM K F' H' M'->Q b H'
def mA(K:Ex)[J:Jm](t:TMA):TA:=λs H Q=>∃F z M,Kept J.B J.F0 F H/\RepZ K J.B F H z s M/\∃R:List D->MS->Prop,t z M R/\∀ds vs M' F' H',GrowM M M' F H F' H'->R ds M'->Reps K F' ds vs->RepM K F' H' M'->Q vs H'
structure EndsOkM[J:Jm](K:Ex)(F0:Hp)(ED:EndsM)(E:Ends):Prop where
 nx:∀z' s' M' F' H',Kept J.B F0 F' H'->ED.nx z' M'->RepZ K J.B F' H' z' s' M'->E.nx s' H'
 rt:∀d v M' F' H',Kept J.B F0 F' H'->ED.rt d M'->Rep K F' d v->RepM K F' H' M'->(∀a,a∈az M'->J.B a=m_)->E.rt v H'
 bk:∀z' s' M' F' H',Kept J.B F0 F' H'->ED.bk z' M'->RepZ K J.B F' H' z' s' M'->E.bk s' H'
 ct:∀z' s' M' F' H',Kept J.B F0 F' H'->ED.ct z' M'->RepZ K J.B F' H' z' s' M'->E.ct s' H'
def mS(K:Ex)[J:Jm](t:TMS):TS:=λE s H=>∃F0 F z M,Kept J.B F0 F H/\RepZ K J.B F H z s M/\∃ED:EndsM,t ED z M/\EndsOkM K F0 ED E
structure ME(X:Cx)[Jm](e:QG)(t:TME):Prop where
 out:PE X e (mE X.K t)
structure MT(X:Cx)[Jm](e:QG)(t:TMT):Prop where
 out:PT X e (mT X.K t)
structure MW(X:Cx)[Jm](e:QG)(t:TMT):Prop where
 out:PW X e (mT X.K t)
structure MA(X:Cx)[Jm](es:List QG)(t:TMA):Prop where
 out:PA X es (mA X.K t)
structure MSt(X:Cx)[Jm](st:P3)(t:TMS):Prop where
 out:PS X st (mS X.K t)
structure MSs(X:Cx)[Jm](st:List P3)(t:TMS):Prop where
 out:PSs X st (mS X.K t)
section
variable {X:Cx}{a b c e:QG}{ta tb:TME}{pos:QT}
def mP(t:TD):TME:=λz M R=>t z λd=>R d M
def mPT(t:TDT):TMT:=λz M R=>t z λd=>R d M
def mPA(t:TDA):TMA:=λz M R=>t z λd=>R d M
def aq[J:Jm]{t:TD}(h:WDE X e t):ME X e (mP t):=⟨PE.anti h.out λs H Q q=>by
 obtain⟨F,z,M,k,r,R,h1,h2⟩:=q;exact#[J.B,F,z,k,r.rs,_,h1,λd v F' H' g hd rd=>h2 d v M F' H' g.toM hd rd (r.rm.grow g)]⟩
def cb[J:Jm]{t:TDT}(h:WDT X e t):MT X e (mPT t):=⟨PT.anti h.out λs H Q q=>by
 obtain⟨F,z,M,k,r,R,h1,h2⟩:=q;exact#[J.B,F,z,k,r.rs,_,h1,λd F' H' g hd=>h2 d M F' H' g.toM hd (r.rm.grow g)]⟩
variable{es:List QG}
def aC[J:Jm]{t:TDA}(h:WDA X es t):MA X es (mPA t):=⟨PA.anti h.out λs H Q q=>by
 obtain⟨F,z,M,k,r,R,h1,h2⟩:=q;exact#[J.B,F,z,k,r.rs,_,h1,λd v F' H' g hd rd=>h2 d v M F' H' g.toM hd rd (r.rm.grow g)]⟩
def mOp(r:RD2)(ta tb:TME):TME:=λz M R=>ta z M λx M1=>tb z M1 λy M2=>r x y λd=>R d M2
variable{r:R2}{rd:RD2}
def rT[J:Jm]{e:QG}{ta tb:TME}(L:aY X.K r rd)(h:PE X e (tOp r (mE X.K ta) (mE X.K tb))):ME X e (mOp rd ta tb):=⟨h.anti λs H Q q=>by
 obtain⟨F,z,M,k,rs,R,h1,h2⟩:=q;refine#[F,z,M,k,rs,_,h1,λx u M1 F1 H1 g1 hx rx m1=>?_];refine#[F1,z,M1,k.growM rs.mb g1,rs.growM k.bh g1 m1,_,hx,λy v M2 F2 H2 g2 hy ry m2=>?_];exact L x y u v F2 H2 _ Q g2.fh hy (rx.mono g2.ff) ry λd w F3 H3 g3 hd rd=>h2 d w M2 F3 H3 ((g1.trans g2).trans g3.toM) hd rd (m2.grow g3)⟩
def rV[J:Jm]{op:Operator}(ho:OpR X (Q4 op) r)(L:aY X.K r rd)(ha:ME X a ta)(hb:ME X b tb):ME X (.BinOp a op b pos) (mOp rd ta tb):=rT L (pT ho ha.out hb.out)
def rW[J:Jm](ha:ME X a ta)(hb:ME X b tb)(hs:autoParam (dH b) zA6):ME X (.Subscript a b pos) (mOp rdIx ta tb):=rT qV (pe_ix qw ha.out hb.out hs)
def gx[Jm](ha:ME X a ta)(hb:ME X b tb):ME X (.BinOp a .Add b pos) (mOp rdAdd ta tb):=rV qM qN ha hb
def jO[Jm](ha:ME X a ta)(hb:ME X b tb):ME X (.BinOp a .Sub b pos) (mOp rdSub ta tb):=rV pU qO ha hb
def mTst(t:TME):TMT:=λz M R=>t z M λx M1=>match x with|.bl k=>R k M1|_=>False
def gy[J:Jm]{op:Sq}(ho:OpR X (QW op) r)(L:aY X.K r rd)(ha:ME X a ta)(hb:ME X b tb)(hm:Q6 op b=false):MT X (.Compare a [op] [b] pos) (mTst (mOp rd ta tb)):=⟨(qa ho ha.out hb.out hm).anti λs H Q q=>by
 obtain⟨F,z,M,k,rs,R,h1,h2⟩:=q;refine#[F,z,M,k,rs,_,h1,λx u M1 F1 H1 g1 hx rx m1=>?_];refine#[F1,z,M1,k.growM rs.mb g1,rs.growM k.bh g1 m1,_,hx,λy v M2 F2 H2 g2 hy ry m2=>?_];refine L x y u v F2 H2 _ _ g2.fh hy (rx.mono g2.ff) ry λd w F3 H3 g3 hd rd=>?_;dsimp only at hd;split at hd
 .exact#[_,rep_bl.mp rd,h2 _ M2 F3 H3 ((g1.trans g2).trans g3.toM) hd (m2.grow g3)]
 .exact hd.elim⟩
def rX[Jm](ha:ME X a ta)(hb:ME X b tb):MT X (.Compare a [.Lt] [b] pos) (mTst (mOp rdLt ta tb)):=gy pZ qR ha hb (nomark _)
def gz[Jm](ha:ME X a ta)(hb:ME X b tb):MT X (.Compare a [.Eq] [b] pos) (mTst (mOp rdEq ta tb)):=gy je ju ha hb (nomark _)
def rY[Jm](ha:ME X a ta)(hb:ME X b tb):MT X (.Compare a [.Is] [b] pos) (mTst (mOp (rdIs id) ta tb)):=gy jg jv ha hb (nomark _)
def zf[Jm](ha:ME X a ta)(hb:ME X b tb)(hm:autoParam (Q6 .NotIn b=false) zA0):MT X (.Compare a [.NotIn] [b] pos) (mTst (mOp (rdIn true) ta tb)):=gy za yZ ha hb hm
variable {tA tB:TMT}{rest:List QG}
def mt_w[Jm](h:MW X a tA):MT X a tA:=#[PW.pt h.out]
def zg[Jm](ha:MT X a tA):MW X (.BoolOp .And [a] pos) tA:=#[pF ha.out]
def zh[Jm](ha:MT X a tA):MW X (.BoolOp .Or [a] pos) tA:=#[pG ha.out]
def mAnd(tA tB:TMT):TMT:=λz M R=>tA z M λk M1=>if k=true then tB z M1 R else R false M1
def mOr(tA tB:TMT):TMT:=λz M R=>tA z M λk M1=>if k=true then R true M1 else tB z M1 R
def zi[J:Jm](ha:MT X a tA)(hb:MW X (.BoolOp .And (b::rest) pos) tB):MW X (.BoolOp .And (a::b::rest) pos) (mAnd tA tB):=⟨(pH ha.out hb.out).anti λs H Q q=>by
 obtain⟨F,z,M,k,rs,R,h1,h2⟩:=q;refine#[F,z,M,k,rs,_,h1,λx M1 F1 H1 g1 hx m1=>?_];cases x with
 |true=>exact#[F1,z,M1,k.growM rs.mb g1,rs.growM k.bh g1 m1,R,hx,λy M2 F2 H2 g2 hy m2=>h2 y M2 F2 H2 (g1.trans g2) hy m2]
 |false=>exact h2 _ M1 F1 H1 g1 hx m1⟩
def zj[J:Jm](ha:MT X a tA)(hb:MW X (.BoolOp .Or (b::rest) pos) tB):MW X (.BoolOp .Or (a::b::rest) pos) (mOr tA tB):=⟨(pI ha.out hb.out).anti λs H Q q=>by
 obtain⟨F,z,M,k,rs,R,h1,h2⟩:=q;refine#[F,z,M,k,rs,_,h1,λx M1 F1 H1 g1 hx m1=>?_];cases x with
 |false=>exact#[F1,z,M1,k.growM rs.mb g1,rs.growM k.bh g1 m1,R,hx,λy M2 F2 H2 g2 hy m2=>h2 y M2 F2 H2 (g1.trans g2) hy m2]
 |true=>exact h2 _ M1 F1 H1 g1 hx m1⟩
def mIf(tc:TMT)(ta tb:TME):TME:=λz M R=>tc z M λk M1=>if k=true then ta z M1 R else tb z M1 R
def fq[J:Jm]{tc:TMT}(hc:MT X c tc)(ha:ME X a ta)(hb:ME X b tb):ME X (.IfExp c a b pos) (mIf tc ta tb):=⟨(vt hc.out ha.out hb.out).anti λs H Q q=>by
 obtain⟨F,z,M,k,rs,R,h1,h2⟩:=q;refine#[F,z,M,k,rs,_,h1,λx M1 F1 H1 g1 hx m1=>?_];cases x with
 |true=>exact#[F1,z,M1,k.growM rs.mb g1,rs.growM k.bh g1 m1,R,hx,λd v M2 F2 H2 g2 hy rd m2=>h2 d v M2 F2 H2 (g1.trans g2) hy rd m2]
 |false=>exact#[F1,z,M1,k.growM rs.mb g1,rs.growM k.bh g1 m1,R,hx,λd v M2 F2 H2 g2 hy rd m2=>h2 d v M2 F2 H2 (g1.trans g2) hy rd m2]⟩
def mNil:TMA:=λ_ M R=>R [] M
def zk(ta:TME)(tr:TMA):TMA:=λz M R=>ta z M λx M1=>tr z M1 λxs M2=>R (x::xs) M2
def bB[J:Jm]:MA X [] mNil:=⟨pa_nil.anti λs H Q q=>by
 obtain⟨F,z,M,k,rs,R,h1,h2⟩:=q;exact h2 [] [] M F H (GrowM.refl k.fh) h1 (reps_nil.mpr rfl) rs.rm⟩
variable{t:TMA}
def aW[J:Jm]{e:QG}{te:TME}(ha:ME X e te)(hr:MA X es t)(hs:autoParam (zSE X e es) zA0):MA X (e::es) (zk te t):=⟨(bz ha.out hr.out hs).anti λs H Q q=>by
 obtain⟨F,z,M,k,rs,R,h1,h2⟩:=q;refine#[F,z,M,k,rs,_,h1,λx u M1 F1 H1 g1 hx rx m1=>?_];refine#[F1,z,M1,k.growM rs.mb g1,rs.growM k.bh g1 m1,_,hx,λxs us M2 F2 H2 g2 hy ry m2=>?_];exact h2 _ _ M2 F2 H2 (g1.trans g2) hy (reps_cons.mpr #[_,_,rfl,rx.mono g2.ff,ry]) m2⟩
def mTup(t:TMA):TME:=λz M R=>t z M λxs M1=>xs.length<=1000/\R (.tup xs) M1
def zl[J:Jm]{x1}(h:MA X es t):ME X (.Tuple es x1 pos) (mTup t):=⟨(qh h.out).anti λs H Q q=>by
 obtain⟨F,z,M,k,rs,R,h1,h2⟩:=q;refine#[F,z,M,k,rs,_,h1,λds vs M1 F1 H1 g1 hx rx m1=>?_];have hl:=rx.length;refine#[sz (by rw[hl];exact hx.1),λp hp=>?_];have gn:=Grow.new g1.fh hp (.tup vs);exact h2 _ _ M1 _ _ (g1.trans gn.toM) hx.2 (rep_tupS.mpr #[p,vs,rfl,aG,rx.mono (aO (g1.fh.free hp) _)]) (m1.grow gn)⟩
def mLst(t:TMA):TME:=λz M R=>t z M λxs M1=>xs.length<=1000/\∀p,p∉az M1->R (.ptr p) ((p,.lst xs)::M1)
def zm[J:Jm](h:MA X es t):ME X (.List es pos) (mLst t):=⟨(jj h.out).anti λs H Q q=>by
 obtain⟨F,z,M,k,rs,R,h1,h2⟩:=q;refine#[F,z,M,k,rs,_,h1,λds vs M1 F1 H1 g1 hx rx m1=>?_];have hl:=rx.length;refine#[sz (by rw[hl];exact hx.1),λp hp=>?_];exact h2 _ _ _ F1 _ (g1.trans (GrowM.new g1.fh hp)) (hx.2 p λz=>m1.here z hp) (rep_ptr.mpr rfl) (m1.new g1.fh hp #[vs,aG,rx])⟩
def mCB(r:RDn)(t:TMA):TME:=λz M R=>t z M λds M1=>r ds λd=>R d M1
variable{x:t6}{p:QT}
def zn[J:Jm]{e:QG}{id:String}{r:List V->Hp->VK->Prop}{rd:RDn}(hc:bC X (.builtin id) r)(L:ca X.K r rd)(hm:X.mg x=m_)(hv:QZ x=be (.builtin id))(ha:MA X (e::es) t)(hg:autoParam (Gl X x) zA0)(hn:autoParam (x≠"__name__") zA1)(d9:autoParam (zND x) zA1)
  (he:autoParam (zSE X e es) zA0) (c9:autoParam (zPL X pos es) zA0):ME X (.Call (.Name x p) (e::es) [] pos) (mCB rd t):=⟨(fS hc hg hm hv ha.out hn d9 he c9).anti λs H Q h=>by
 obtain⟨F,z,M,k,rs,R,h1,h2⟩:=h;refine#[F,z,M,k,rs,_,h1,λds vs M1 F1 H1 g1 hx rx m1=>?_];exact L ds vs F1 H1 _ Q g1.fh hx rx λd w F' H' g hd rd=>h2 d w M1 F' H' (g1.trans g.toM) hd rd (m1.grow g)⟩
def rZ[Jm]{e:QG}(hm:X.mg "len"=m_)(ha:MA X [e] t)(hg:autoParam (Gl X "len") zA0)(he:autoParam (zSE X e []) zA0):ME X (.Call (.Name "len" p) [e] [] pos) (mCB rdLen t):=zn jh qX hm PySem.boot_len ha hg y8 y8 he
def zo[J:Jm]{e:QG}{T:String}{r:List V->Hp->VK->Prop}{rd:RDn}(hc:bC X (.type T) r)(L:ca X.K r rd)(hm:X.mg x=m_)(hv:QZ x=be (.type T))(ha:MA X (e::es) t)(hg:autoParam (Gl X x) zA0)(hn:autoParam (x≠"__name__") zA1)(d9:autoParam (zND x) zA1)
  (he:autoParam (zSE X e es) zA0) (c9:autoParam (zPL X pos es) zA0):ME X (.Call (.Name x p) (e::es) [] pos) (mCB rd t):=⟨(jl hc hg hm hv ha.out hn d9 he c9).anti λs H Q h=>by
 obtain⟨F,z,M,k,rs,R,h1,h2⟩:=h;refine#[F,z,M,k,rs,_,h1,λds vs M1 F1 H1 g1 hx rx m1=>?_];exact L ds vs F1 H1 _ Q g1.fh hx rx λd w F' H' g hd rd=>h2 d w M1 F' H' (g1.trans g.toM) hd rd (m1.grow g)⟩
def se[Jm](hm:X.mg "int"=m_)(ha:MA X [e] t)(hg:autoParam (Gl X "int") zA0)(he:autoParam (zSE X e []) zA0):ME X (.Call (.Name "int" p) [e] [] pos) (mCB rdInt t):=zo rg rh hm PyProof.Rows.boot_int ha hg y8 y8 he
def dU(M:MS)(d:D)(x:t6)(fs:List (t6×D)):Prop:=match d with|.ptr a=>mget M a=be (.ins x fs)|.obj y gs=>y=x/\gs=fs|_=>False
def mFld(x f:t6)(te:TME):TME:=λz M R=>te z M λd M1=>∃fs,dU M1 d x fs/\∃d',fs.lookup f=be d'/\R d' M1
def jP{K:Ex}{F H:Hp}{M:MS}{d:D}{v:V}{fs:List (t6×D)}(fh:Same F H)(rm:RepM K F H M)(rd:Rep K F d v)(h:dU M d x fs):∃a C dx ws,v=.ref a/\nsIn K Pi x=be (be (.ref C))/\H a=be (.ins C dx ws)/\RepF K F fs ws:=by
 unfold dU at h;split at h
 .rename_i a;obtain⟨C,dx,ws,n,h1,h2⟩:=rm.ok _ _ (bT h);exact#[a,C,dx,ws,rep_ptr.mp rd,n,h1,h2]
 .obtain⟨rfl,rfl⟩:=h;obtain⟨a,C,dx,ws,e,n,h1,h2⟩:=rep_obj.mp rd;exact#[a,C,dx,ws,e,n,fh _ _ h1,h2]
 .exact h.elim
def aN[J:Jm]{f:t6}(hA:ClsA X.K x f)(he:ME X e ta)(hb:autoParam (QQ e f X.env (QS e X.env)=QS e X.env) zA0):ME X (.Attribute e f pos) (mFld x f ta):=⟨(qf he.out hb).anti λs H Q q=>by
 obtain⟨C,hn,hc,hf⟩:=hA;obtain⟨F,z,M,k,rs,R,h1,h2⟩:=q;refine#[F,z,M,k,rs,_,h1,λd u M1 F1 H1 g1 hx rx m1=>?_];obtain⟨fs,hi,d',hl,hR⟩:=hx;obtain⟨a,C',dx,ws,rfl,l6,hH,rf⟩:=jP g1.fh m1 rx hi;rw[hn]at l6;cases l6;obtain⟨v,l,rv⟩:=rf.look hl;exact#[a,C,dx,ws,v,rfl,hH,hc,hf,l,h2 d' v M1 F1 H1 g1 hR rv m1]⟩
end
abbrev XDM:=t6->List (t6×D)->MS->Prop
abbrev SpM:=List D->MS->(D->MS->Prop)->XDM->Prop
def lSpM(K:Ex)(S:SpM):Sp:=λvs H Q E=>∃F ds M,Same F H/\Reps K F ds vs/\RepM K F H M/\∃(R:D->MS->Prop) (RX:XDM),S ds M R RX/\(∀d v M' F' H',GrowM M M' F H F' H'->R d M'->Rep K F' d v->RepM K F' H' M'->Q v H')/\
 ∀x fs C od M' F' H',GrowM M M' F H F' H'->RX x fs M'->ErrD K F' x fs C od->RepM K F' H' M'->E (.ref C) od H'
abbrev CalMM(P:QH)(w:QL)(K:Ex)(mg:t6->Option KB)(base:QN)(n:Nat)(x:t6)(ps:List t6)(S:SpM):Prop:=Cal P w K mg base n x ps (lSpM K S)
def ofX(S:SpX):SpM:=λds M R RX=>S ds (λd=>R d M) λx fs=>RX x fs M
def ofD(S:SpD):SpM:=λds M R _=>S ds λd=>R d M
variable{vs:List V}
def zp{S:SpX}{Q:VK}{E:XK}(h:lSpM K (ofX S) vs H Q E):lSpX K S vs H Q E:=by
 obtain⟨F,ds,M,fh,rs,rm,R,RX,hS,q,qx⟩:=h;exact#[F,ds,fh,rs,_,_,hS,λd v F' H' g hd rd=>q d v M F' H' g.toM hd rd (rm.grow g),λx fs C od F' H' g hR er=>qx x fs C od M F' H' g.toM hR er (rm.grow g)]
def zq{S:SpD}{Q:VK}{E:XK}(h:lSpM K (ofD S) vs H Q E):lSp K S vs H Q E:=by
 obtain⟨F,ds,M,fh,rs,rm,R,RX,hS,q,qx⟩:=h;exact#[F,ds,fh,rs,_,hS,λd v F' H' g hd rd=>q d v M F' H' g.toM hd rd (rm.grow g)]
section
variable {P:QH}{w:QL}{K:Ex}{mg:t6->Option KB}{base:QN}{n:Nat}{x:t6}{ps:List t6}
def CalX.toM{S:SpX}(C:CalX P w K mg base n x ps S):CalMM P w K mg base n x ps (ofX S):=by
 obtain⟨f,fd,F,hb,hk,hm⟩:=C;exact#[f,fd,F.imp λvs H Q E h=>zp h,hb,hk,hm]
def CalD.toM{S:SpD}(C:CalD P w K mg base n x ps S):CalMM P w K mg base n x ps (ofD S):=by
 obtain⟨f,fd,F,hb,hk,hm⟩:=C;exact#[f,fd,F.imp λvs H Q E h=>zq h,hb,hk,hm]
def CalMth(P:QH)(w:QL)(K:Ex)(mg:t6->Option KB)(base:QN)(n:Nat)(x m:t6)(ps:List t6)(sp:Sp):Prop:=
 ∃C f fd,nsIn K Pi x=be (be (.ref C))/\Cls K C/\Meth K C m f/\FnOk P w K mg base (CX1 P w) n f fd ps sp/\Binds K fd ps []
variable{sp:Sp}
def Cal.mono{n':Nat}(h:Cal P w K mg base n x ps sp)(hn:n<=n'):Cal P w K mg base n' x ps sp:=by
 obtain⟨f,fd,F,h⟩:=h;exact#[f,fd,F.mono hn,h]
def Cal.imp{Iy:Sp}(h:Cal P w K mg base n x ps sp)(i:∀vs H Q E,Iy vs H Q E->sp vs H Q E):Cal P w K mg base n x ps Iy:=by
 obtain⟨f,fd,F,h⟩:=h;exact#[f,fd,F.imp i,h]
def CalMth.imp{m:t6}{Iy:Sp}(h:CalMth P w K mg base n x m ps sp)(i:∀vs H Q E,Iy vs H Q E->sp vs H Q E):CalMth P w K mg base n x m ps Iy:=by
 obtain⟨C,f,fd,h1,h2,h3,h4,h5⟩:=h;exact#[C,f,fd,h1,h2,h3,h4.imp i,h5]
end
def XOkM(X:Cx)[J:Jm]:Prop:=∀(σ:L2.St) (z:SD) (M:MS) (F H:Hp) (s:KM) (e C:KF) (od:Option KF) (x:t6) (fs:List (t6×D)),Inv X [] σ H s->Kept J.B J.F0 F H->RepZ X.K J.B F H z σ M->J.RM z M x fs->ErrD X.K F x fs C od->Exd X H s e C od->X.xe (.ref e) s
def EX(X:Cx)[J:Jm](z:SD)(σ:L2.St):XK:=λCv od H'=>∃x fs C M' F',Cv=.ref C/\Kept J.B J.F0 F' H'/\RepZ X.K J.B F' H' z σ M'/\J.RM z M' x fs/\ErrD X.K F' x fs C od
def XOkM.out{X:Cx}[J:Jm](hx:XOkM X)(hex:X.ex=[]){pins:List (KF×QY)}{σ:L2.St}{s s':KM}{ev:KB}(I:Inv X pins σ H s)
  (h:CX1 X.prog X.w X.stack H s (EX X z σ) ev s'):X.xe ev s':=by
 obtain⟨e,C,od,T,H',rfl,y_,hb,un,hok,LG,ne,nT,He,HT,x,fs,C',M',F',hC,kk,rr,hR,er⟩:=h;cases hC;have I':Inv X pins σ H' s':=I.call' y_ un hok hb (λb z=>absurd z IV);exact hx σ z M' F' H' s' e C od x fs (Inv.nopins I') kk rr hR er #[He,du I hex ne,pn_free I ne,.inr #[T,LG,du I hex nT,HT,pn_free I nT]]
section
variable {X:Cx}[J:Jm]{a b c e o:QG}{ta tb te:TME}{pos p apos cpos:QT}{n m:Nat}{ps:List t6}{S:SpM}{x:t6}{es:List QG}{t:TMA}
def zr(S:SpM)(t:TMA):TME:=λz M R=>t z M λds M1=>S ds M1 R λx fs M'=>J.RM z M' x fs
variable{ds:List My.D}{vs:List V}
def jQ{σ:L2.St}{z:SD}{M M1:MS}{F H F1 H1:Hp}{Q:VK}{R:D->MS->Prop}(k:Kept J.B J.F0 F H)(rs:RepZ X.K J.B F H z σ M)(g1:GrowM M M1 F H F1 H1)(m1:RepM X.K F1 H1 M1)(rx:Reps X.K F1 ds vs)
  (hS:S ds M1 R λx fs M'=>J.RM z M' x fs) (h2:∀d v M' F' H',GrowM M M' F H F' H'->R d M'->Rep X.K F' d v->RepM X.K F' H' M'->Q v H'):lSpM X.K S vs H1 Q (EX X z σ):=
 #[F1,ds,M1,g1.fh,rx,m1,R,_,hS,λd v M' F' H' g hd rd m'=>h2 d v M' F' H' (g1.trans g) hd rd m',λy fs C od M' F' H' g hR er m'=>#[y,fs,C,M',F',rfl,(k.growM rs.mb g1).growM (rs.growM k.bh g1 m1).mb g,(rs.growM k.bh g1 m1).growM (k.growM rs.mb g1).bh g m',hR,er]]
def bb(C:CalMM X.prog X.w X.K X.mg X.base n x ps S)(hx:XOkM X)(hr:Room m X.A)(ha:MA X (e::es) t)(hex:autoParam (X.ex=[]) zA0)(hg:autoParam (Gl X x) zA0)(hn:autoParam (n<=m) zA1)(d9:autoParam (zND x) zA1)
  (he:autoParam (zSE X e es) zA0) (c9:autoParam (zPL X pos es) zA0):
  ME X (.Call (.Name x p) (e::es) [] pos) (zr S t):=by
 obtain⟨f,fd,F,hb,hk,hm⟩:=C;refine#[λpins s σ H Q I h=>?_];obtain⟨Fr,z,M,k,rs,R,h1,h2⟩:=h;refine Q0 (cU I hg hm ?_ d9);refine callWith_K (h₀:=X.base) I.ok.mod.kin hk (thn (ha.out pos pins s σ H (λvs H1=>lSpM X.K S vs H1 Q (EX X z σ)) I #[Fr,z,M,k,rs,_,h1,λds vs M1 F1 H1 g1 hx rx m1=>jQ k rs g1 m1 rx hx h2]) λus s1 hh=>#[hh.elim λ_ h=>h.elim λ_ h=>h.1.kIn,?_]) he c9;obtain⟨vs,H1,I1,r,q⟩:=hh;exact gu F (hr.mono hn) hb (λe s' hq=>hx.out hex I1 hq) I1 r q
def sf(cs:List t6)(m:t6)(S:t6->SpM)(to:TME)(t:TMA):TME:=λz M R=>to z M λd M1=>∃x,x∈cs/\∃fs,dU M1 d x fs/\fs.lookup m=m_/\t z M1 λds M2=>S x (d::ds) M2 R λx fs M'=>J.RM z M' x fs
variable{cs:List t6}{pl:Sb Bool}
def aZ{nm:t6}{S:t6->SpM}(C:∀x,x∈cs->CalMth X.prog X.w X.K X.mg X.base n x nm ps (lSpM X.K (S x)))(hx:XOkM X)(hr:Room m X.A)(ho:ME X o te)(ha:MA X (e::es) t)(hex:autoParam (X.ex=[]) zA0)(hn:autoParam (n<=m) zA1)
  (i8:autoParam (zSE X e es) zA0) (c9:autoParam (zPL X pos es) zA0)
  (ht:QS (.Call (.Attribute o nm apos) (e::es) [] pos) X.env=(do
   let ov <-QS o X.env
   RC apos.atName
   let (f,first) <-Rr [ov] (RZ ov nm pl)
   callWith pos f first (Rm pos (QP (e::es) X.env)) (RK pos (Rq [] X.env))):=by rfl):
  ME X (.Call (.Attribute o nm apos) (e::es) [] pos) (sf cs nm S te t):=by
 refine#[λpins s σ H Q I h=>?_];obtain⟨Fr,z,M,k,rs,R,h1,h2⟩:=h;refine methodCall_KW (pl:=pl) (thn (ho.out pins s σ H (λv H1=>∃d M1 F1,GrowM M M1 Fr H F1 H1/\Rep X.K F1 d v/\RepM X.K F1 H1 M1/\∃x,x∈cs/\∃fs,dU M1 d x fs/\fs.lookup nm=m_/\t z M1 λds M2=>S x (d::ds) M2 R λx fs M'=>J.RM z M' x fs) I #[Fr,z,M,k,rs,_,h1,λd v M1 F1 H1 g1 hd rd m1=>#[d,M1,F1,g1,rd,m1,hd]]) λu s1 hh=>?_) ht;obtain⟨v,H1,I1,rv,d,M1,F1,g1,rd,m1,x,LI,fs,hi,hl,hq⟩:=hh;obtain⟨C',f,fd,hns,t9,Kh,F,hb⟩:=C x LI;obtain⟨a,C2,dx,ws,rfl,u8,hH,rf⟩:=jP g1.fh m1 rd hi;rw[hns]at u8;cases u8;obtain rfl:u=Value.ref a:=rv;refine qe I1 hH t9 Kh (rf.none hl) ?_;refine callWith_K (first:=[.ref a]) (h₀:=X.base) I.ok.mod.kin Kh.kp (thn (ha.out pos pins s1 σ H1 (λvs H2=>lSpM X.K (S x) (.ref a::vs) H2 Q (EX X z σ)) I1 #[F1,z,M1,k.growM rs.mb g1,rs.growM k.bh g1 m1,_,hq,λds vs M2 F2 H2 g2 hx rx m2=>jQ k rs (g1.trans g2) m2 (reps_cons.mpr #[_,_,rfl,rd.mono g2.ff,rx]) hx h2]) λus s2 hh=>#[hh.elim λ_ h=>h.elim λ_ h=>h.1.kIn,?_]) i8 c9;obtain⟨vs,H2,I2,r,q2⟩:=hh;exact gu (us:=.ref a::us) (vs:=.ref a::vs) F (hr.mono hn) hb (λe s' hq=>hx.out hex I2 hq) I2 (.cons rfl r) q2
def dz{nm:t6}{S:t6->SpM}(C:∀x,x∈cs->CalMth X.prog X.w X.K X.mg X.base n x nm ps (lSpM X.K (S x)))(hx:XOkM X)(hr:Room m X.A)(ho:ME X o te)(hex:autoParam (X.ex=[]) zA0)(hn:autoParam (n<=m) zA1)
  (ht:QS (.Call (.Attribute o nm apos) [] [] pos) X.env=(do
   let ov <-QS o X.env
   RC apos.atName
   let (f,first) <-Rr [ov] (RZ ov nm pl)
   callWith pos f first (Rm pos (QP [] X.env)) (RK pos (Rq [] X.env))):=by rfl):
  ME X (.Call (.Attribute o nm apos) [] [] pos) (sf cs nm S te mNil):=by
 refine#[λpins s σ H Q I h=>?_];obtain⟨Fr,z,M,k,rs,R,h1,h2⟩:=h;refine methodCall_KW (pl:=pl) (thn (ho.out pins s σ H (λv H1=>∃d M1 F1,GrowM M M1 Fr H F1 H1/\Rep X.K F1 d v/\RepM X.K F1 H1 M1/\∃x,x∈cs/\∃fs,dU M1 d x fs/\fs.lookup nm=m_/\S x [d] M1 R λx fs M'=>J.RM z M' x fs) I #[Fr,z,M,k,rs,_,h1,λd v M1 F1 H1 g1 hd rd m1=>#[d,M1,F1,g1,rd,m1,hd]]) λu s1 hh=>?_) ht;obtain⟨v,H1,I1,rv,d,M1,F1,g1,rd,m1,x,LI,fs,hi,hl,hq⟩:=hh;obtain⟨C',f,fd,hns,t9,Kh,F,hb⟩:=C x LI;obtain⟨a,C2,dx,ws,rfl,u8,hH,rf⟩:=jP g1.fh m1 rd hi;rw[hns]at u8;cases u8;obtain rfl:u=Value.ref a:=rv;refine qe I1 hH t9 Kh (rf.none hl) ?_;refine callWith_K0 (first:=[.ref a]) I1.kIn Kh.kp (gu (E:=EX X z σ) (us:=[.ref a]) (vs:=[.ref a]) F (hr.mono hn) hb (λe s' hq=>hx.out hex I1 hq) I1 (.cons rfl .nil) ?_);exact jQ k rs g1 m1 (dP rd) hq h2
def make_of{C:KF}{S:SiD}{x:t6}{σ:L2.St}{z:SD}{M M1:MS}{F H F1 H1:Hp}{a dx:KF}{Q:VK}{E:XK}{T:List (t6×D)->Prop}(g1:GrowM M M1 F H F1 H1)(m1:RepM X.K F1 H1 M1)(rx:Reps X.K F1 ds vs)(hS:S ds T)
  (ha:H1 a=m_) (t_:H1 dx=m_) (n9:dx≠a) (q:∀fs ws dx F' H',Grow F1 H1 F' H'->T fs->H' a=be (.ins C dx ws)->F' a=m_->RepF X.K F' fs ws->Q (.ref a) H'):
  lSi X.K C S (.ref a::(vs++[])) (upd (upd H1 dx (.own a)) a (.ins C dx [])) (λv H2=>v=.non/\Q (.ref a) H2) E:=
 #[a,dx,vs,H1,F1,ds,by rw[FN],rfl,ha,t_,n9,g1.fh,rx,_,hS,λfs ws A_ F' H' g hR j6 o9 rf=>#[rfl,q fs ws A_ F' H' g hR j6 o9 rf]]
def zt(x:t6)(S:SiD)(t:TMA):TME:=λz M R=>t z M λds M1=>S ds λfs=>R (.obj x fs) M1
def gA{S:SiD}(M:CalM X.prog X.w X.K X.mg X.base n x ps S)(hr:Room m X.A)(ha:MA X (e::es) t)(hg:autoParam (Gl X x) zA0)(hn:autoParam (n+1<=m) zA1)(d9:autoParam (zND x) zA1)
  (he:autoParam (zSE X e es) zA0) (c9:autoParam (zPL X pos es) zA0):
  ME X (.Call (.Name x p) (e::es) [] pos) (zt x S t):=by
 obtain⟨C,f,fd,hns,j_,mk,F,hb⟩:=M;refine#[(jk mk F (hr.mono hn) hg j_ hb .nil fV ha.out d9 he c9).anti λs H Q q=>?_];obtain⟨F,z,M,k,rs,R,h1,h2⟩:=q;refine#[F,z,M,k,rs,_,h1,λds vs M1 F1 H1 g1 hx rx m1=>?_];intro a dx ha t_ n9;refine make_of (σ:=s) (z:=z) (x:=x) g1 m1 rx hx ha t_ n9 λfs ws dx F' H' g hR j6 o9 rf=>?_;have s1:Same F' (upd F' a (.ins C dx ws)):=aO o9 _;have g2:Grow F1 H1 (upd F' a (.ins C dx ws)) H':=⟨g.ff.trans s1,λb o q=>by
  by_cases hb:b=a
  .subst hb;rw[aG]at q;cases q;exact j6
  .rw[ay hb]at q;exact g.fh b o q,g.hh,λb q1 q2=>by
  by_cases hb:b=a
  .subst hb;exact absurd ha q2
  .rw[ay hb];exact g.out b q1 q2⟩
 exact h2 (.obj x fs) (.ref a) M1 (upd F' a (.ins C dx ws)) H' (g1.trans g2.toM) hR (rep_obj.mpr #[a,C,dx,ws,rfl,hns,aG,RepF.mono s1 fs ws rf]) (m1.grow g2)
def zu(x:t6)(S:SiD)(t:TMA):TME:=λz M R=>t z M λds M1=>S ds λfs=>∀a,a∉az M1->R (.ptr a) ((a,.ins x fs)::M1)
def zv{S:SiD}(M:CalM X.prog X.w X.K X.mg X.base n x ps S)(hr:Room m X.A)(ha:MA X (e::es) t)(hg:autoParam (Gl X x) zA0)(hn:autoParam (n+1<=m) zA1)(d9:autoParam (zND x) zA1)
  (he:autoParam (zSE X e es) zA0) (c9:autoParam (zPL X pos es) zA0):
  ME X (.Call (.Name x p) (e::es) [] pos) (zu x S t):=by
 obtain⟨C,f,fd,hns,j_,mk,F,hb⟩:=M;refine#[(jk mk F (hr.mono hn) hg j_ hb .nil fV ha.out d9 he c9).anti λs H Q q=>?_];obtain⟨F,z,M,k,rs,R,h1,h2⟩:=q;refine#[F,z,M,k,rs,_,h1,λds vs M1 F1 H1 g1 hx rx m1=>?_];intro a dx ha t_ n9;refine make_of (σ:=s) (z:=z) (x:=x) g1 m1 rx hx ha t_ n9 λfs ws dx F' H' g hR j6 o9 rf=>?_;have na:a∉az M1:=λz=>m1.here z ha;have m2:=m1.grow g;refine h2 (.ptr a) (.ref a) _ F' H' (g1.trans #[g.ff,g.fh,λb o _ q=>g.hh b o q,λb _ q1 q2=>g.out b q1 q2,λb q=>?_]) (hR a na) (rep_ptr.mpr rfl) #[FT.mpr #[na,m2.nd],λb o q=>?_,λb q=>?_]
 .rcases E8.mp q with q|q
  .exact .inr (by rw[q];exact ha)
  .exact .inl q
 .rcases E8.mp q with q|q
  .cases q;exact#[C,dx,ws,hns,j6,rf]
  .exact m2.ok b o q
 .rcases E8.mp q with q|q
  .rw[q];exact o9
  .exact m2.fr b q
end
section
variable {X:Cx}[J:Jm]{a b c e:QG}{ta tb tc te:TME}{pos:QT}{st:P3}{rest:List P3}{t u:TMS}
def zw:TMS:=λE z M=>E.nx z M
def mSeq(t u:TMS):TMS:=λE z M=>t {E with nx:=u E} z M
def bZ:MSs X [] zw:=⟨pss_nil.anti λE s H q=>by
 obtain⟨F0,F,z,M,k,rs,ED,h,e⟩:=q;exact e.nx z s M F H k h rs⟩
def aA(h1:MSt X st t)(h2:MSs X rest u):MSs X (st::rest) (mSeq t u):=⟨(ja h1.out h2.out).anti λE s H q=>by
 obtain⟨F0,F,z,M,k,rs,ED,h,e⟩:=q;exact#[F0,F,z,M,k,rs,{ED with nx:=u ED},h,#[λz' s' M' F' H' k' hz r'=>#[F0,F',z',M',k',r',ED,hz,e],e.rt,e.bk,e.ct]]⟩
def aF(h1:MSt X st t):MSs X [st] t:=#[pJ h1.out]
def mRet(te:TME):TMS:=λE z M=>te z M E.rt
def aL(he:ME X e te):MSt X (.Return (be e) pos) (mRet te):=⟨(pL he.out).anti λE s H q=>by
 obtain⟨F0,F,z,M,k,rs,ED,h,e⟩:=q;exact#[F,z,M,k.kf,rs,_,h,λd v M' F' H' g hd rd m'=>e.rt d v M' F' H' (k.growM rs.mb g) hd rd m' (rs.growM k.bh g m').mb]⟩
def zx(te:TME):TMS:=λE z M=>te z M λ_ M1=>E.nx z M1
def cu(he:ME X e te)(hs:autoParam (Q1 e m_ pos.line X.env=pure false) zA0):MSt X (.Expr e pos) (zx te):=⟨(pK he.out hs).anti λE s H q=>by
 obtain⟨F0,F,z,M,k,rs,ED,h,e⟩:=q;exact#[F,z,M,k.kf,rs,_,h,λd v M' F' H' g hd rd m'=>e.nx z s M' F' H' (k.growM rs.mb g) hd (rs.growM k.bh g m')]⟩
def mIfS(c:TMT)(t u:TMS):TMS:=λE z M=>c z M λb M1=>if b=true then t E z M1 else u E z M1
variable{l r:List P3}
def ce{c:QG}{tc:TMT}(hc:MT X c tc)(ha:MSs X l t)(hb:MSs X r u):MSt X (.If c l r pos) (mIfS tc t u):=⟨(pM hc.out ha.out hb.out).anti λE s H q=>by
 obtain⟨F0,F,z,M,k,rs,ED,h,e⟩:=q;refine#[F,z,M,k.kf,rs,_,h,λb M1 F1 H1 g hk m1=>?_];cases b with
 |true=>exact#[F0,F1,z,M1,k.growM rs.mb g,rs.growM k.bh g m1,ED,hk,e]
 |false=>exact#[F0,F1,z,M1,k.growM rs.mb g,rs.growM k.bh g m1,ED,hk,e]⟩
def mIfJ(c:TMT)(t u:TMS):TMS:=λE z M=>∃J:SD->MS->Prop,(c z M λb M1=>if b=true then t {E with nx:=J} z M1 else u {E with nx:=J} z M1)/\∀z' M',J z' M'->E.nx z' M'
def si{c:QG}{tc:TMT}(hc:MT X c tc)(ha:MSs X l t)(hb:MSs X r u):MSt X (.If c l r pos) (mIfJ tc t u):=⟨(ce hc ha hb).out.anti λE s H q=>by
 obtain⟨F0,F,z,M,k,rs,ED,⟨J,h,j⟩,e⟩:=q;exact#[F0,F,z,M,k,rs,{ED with nx:=J},h,#[λz' s' M' F' H' k' hz r'=>e.nx z' s' M' F' H' k' (j z' M' hz) r',e.rt,e.bk,e.ct]]⟩
def mSet(i:Nat)(te:TME):TMS:=λE z M=>∃P:D->MS->Prop,te z M P/\∀d M',P d M'->E.nx (z.set i (be d)) M'
def bc(i:Nat){x:t6}{c_:QT}(hN:X.N.Nodup)(he:ME X e te)(hi:autoParam (X.N[i]?=be x) zA0)(hx:autoParam (Loc X.env.scope x) zA4)(hs:autoParam (Q1 e (be (.Name x c_)) pos.line X.env=pure false) zA0)
  (hf:autoParam (zFN X x) zA3):MSt X (.Assign [.Name x c_] e pos) (mSet i te):=⟨(fL hN hi hx he.out hs hf).anti λE s H q=>by
 obtain⟨F0,F,z,M,k,rs,ED,⟨P,h,j⟩,e⟩:=q;exact#[F,z,M,k.kf,rs,P,h,λd v M' F' H' g hd rd m'=>e.nx _ _ M' F' H' (k.growM rs.mb g) (j d M' hd) ((rs.growM k.bh g m').set rd)]⟩
def zy(x f:t6)(to te:TME):TMS:=λE z M=>te z M λd M1=>to z M1 λo M2=>match o with|.ptr a=>∃fs,mget M2 a=be (.ins x fs)/\fs.length<1000/\E.nx z (mput M2 a (.ins x (putD f d fs)))|_=>False
def gB{x f:t6}{o:QG}{to:TME}{c_:QT}(hA:ClsA X.K x f)(ho:ME X o to)(he:ME X e te)(hs:autoParam (Q1 e (be (.Attribute o f c_)) pos.line X.env=pure false) zA0):
  MSt X (.Assign [.Attribute o f c_] e pos) (zy x f to te):=⟨(qg ho.out he.out hs).anti λE s H q=>by
 obtain⟨C,hn,hc,hf⟩:=hA;obtain⟨F0,F,z,M,k,rs,ED,h,ee⟩:=q;refine#[F,z,M,k.kf,rs,_,h,λd v M1 F1 H1 g1 hx rd m1=>?_];have k1:=k.growM rs.mb g1;have Je:=rs.growM k.bh g1 m1;refine#[F1,z,M1,k1.kf,Je,_,hx,λo' v' M2 F2 H2 g2 hy ro m2=>?_];have k2:=k1.growM Je.mb g2;have ID:=Je.growM k1.bh g2 m2;split at hy
 .rename_i a;obtain⟨fs,hm,hl,O7⟩:=hy;obtain⟨C',dx,ws,l6,hH,rf⟩:=m2.ok _ _ (bT hm);rw[hn]at l6;cases l6;have fa:=m2.fr a (cr (bT hm));refine#[a,C,dx,ws,rep_ptr.mp ro,hH,hc,hf,by rw[rf.length];exact hl,?_];have m3:RepM X.K F2 (upd H2 a (.ins C dx (putF f v ws))) (mput M2 a (.ins x (putD f d fs))):=m2.put hm #[C,dx,_,hn,aG,RepF.put (rd.mono g2.ff) rf];have g3:GrowM M2 (mput M2 a (.ins x (putD f d fs))) F2 H2 F2 (upd H2 a (.ins C dx (putF f v ws))):=GrowM.put k2.fh fa hm;exact ee.nx z s _ F2 _ (k2.growM ID.mb g3) O7 (ID.growM k2.bh g3 m3)
 .exact hy.elim⟩
def zz(c:TMT)(tb:TMS):TMS:=λE z M=>∃W:Nat->SD->MS->Prop,(∃m,W m z M)/\∀m z M,W m z M->
 c z M λb M1=>if b=true then tb {E with nx:=λz' M'=>∃m',m'<m/\W m' z' M',ct:=λz' M'=>∃m',m'<m/\W m' z' M',bk:=E.nx} z M1 else E.nx z M1
def zA{c:QG}{body:List P3}{tc:TMT}{tb:TMS}(hp:Q2 (QJ X.prog X.w) X.A X.env X.xe)(hc:MT X c tc)(hb:MSs X body tb):MSt X (.While c body [] pos) (zz tc tb):=⟨(pN hp hc.out hb.out).anti λE s H q=>by
 obtain⟨F0,F,z,M,k,rs,ED,⟨W,⟨m0,w0⟩,b_⟩,e⟩:=q;refine#[λm s' H'=>∃F' z' M',Kept J.B F0 F' H'/\RepZ X.K J.B F' H' z' s' M'/\W m z' M',#[m0,F,z,M,k,rs,w0],?_];rintro m s1 H1⟨F1,z1,M1,k1,r1,w1⟩;refine#[F1,z1,M1,k1.kf,r1,_,b_ m z1 M1 w1,λb M2 F2 H2 g2 hk m2=>?_];cases b with
 |true=>
  refine#[λs3 H3=>∃F3 z3 M3,Kept J.B F0 F3 H3/\RepZ X.K J.B F3 H3 z3 s3 M3/\∃m',m'<m/\W m' z3 M3,λs3 H3 ⟨F3,z3,M3,k3,r3,m',l,w3⟩=>#[m',l,F3,z3,M3,k3,r3,w3],?_];exact#[F0,F2,z1,M2,k1.growM r1.mb g2,r1.growM k1.bh g2 m2,_,hk,#[λz3 s3 M3 F3 H3 k3 h3 r3=>#[F3,z3,M3,k3,r3,h3],e.rt,e.nx,λz3 s3 M3 F3 H3 k3 h3 r3=>#[F3,z3,M3,k3,r3,h3]]]
 |false=>exact e.nx z1 s1 M2 F2 H2 (k1.growM r1.mb g2) hk (r1.growM k1.bh g2 m2)⟩
end
section
variable {X:Cx}[J:Jm]{a b c e o:QG}{ta tb tc te to:TME}{pos:QT}{st:P3}{rest:List P3}{t u:TMS}
abbrev TMI:=SD->MS->(List D->MS->Prop)->Prop
def mItR(t:TME):TMI:=λz M R=>t z M λx M1=>match x with|.int n=>(0<=n/\n<2^62)/\R ((E7 n.toNat).map λk=>D.int ((k:Nat):Int)) M1|_=>False
def mFor(i:Nat)(ti:TMI)(tb:TMS):TMS:=λE z M=>ti z M λds M1=>∃W:Nat->SD->MS->Prop,W 0 z M1/\(∀k x z M,ds[k]?=be x->W k z M->tb {E with nx:=W (k+1),ct:=W (k+1),bk:=E.nx} (z.set i (be x)) M)/\∀z M,W ds.length z M->E.nx z M
def zB(i:Nat){x:t6}{p p1 p2:QT}{body:List P3}{tb:TMS}(hp:Q2 (QJ X.prog X.w) X.A X.env X.xe)(hc:X.calm=true)(hN:X.N.Nodup)(hm:X.mg "range"=m_)(he:ME X e te)(hb:MSs X body tb)(hg:autoParam (Gl X "range") zA0)(hi:autoParam (X.N[i]?=be x) zA0)(hx:autoParam (Loc X.env.scope x) zA4)
  (hf:autoParam (zFN X x) zA3) (hs:autoParam (∀y,zFS X (.Call (.Name "range" p1) [e] [] p2) y) zA2) (m4:autoParam (zSE X e []) zA0) (e_:autoParam (QP [e] X.env=[(false,QS e X.env)]) zA0):
  MSt X (.For (.Name x p) (.Call (.Name "range" p1) [e] [] p2) body [] pos) (mFor i (mItR te) tb):=⟨(cK hp hc (fN hg hm (bz he.out pa_nil m4) e_) (eV hN hi hx hf) hb.out hs).anti λE s H q=>by
 obtain⟨F0,F,z,M,kp,rs,ED,h,e⟩:=q;refine#[F,z,M,kp.kf,rs,_,h,λd v M1 F1 H1 g1 hd rd m1=>?_];split at hd
 .rename_i n;obtain⟨⟨b1,b2⟩,W,w0,b_,out⟩:=hd;have hl:((E7 n.toNat).map λk=>D.int ((k:Nat):Int)).length=n.toNat:=by simp
  refine#[n,by rw[rep_int.mp rd],t8,b2,pS (lo:=0) (n:=n.toNat) (λk s' H'=>∃F' z' M',Kept J.B F0 F' H'/\RepZ X.K J.B F' H' z' s' M'/\W k z' M') #[F1,z,M1,kp.growM rs.mb g1,rs.growM kp.bh g1 m1,w0] ?_ ?_]
  .rintro k s' H' hk⟨F',z',M',k',r',w'⟩;have e1:(0:Int)+(k:Int)=(k:Int):=by lia
   exact#[F0,F',_,M',k',r'.set (d:=.int (k:Int)) (rep_int.mpr (by rw[e1])),_,b_ k (.int (k:Int)) z' M' (by simp[hk]) w',#[λz3 s3 M3 F3 H3 k3 h3 r3=>#[F3,z3,M3,k3,r3,h3],e.rt,e.nx,λz3 s3 M3 F3 H3 k3 h3 r3=>#[F3,z3,M3,k3,r3,h3]]]
  .rintro s' H'⟨F',z',M',k',r',w'⟩;exact e.nx z' s' M' F' H' k' (out z' M' (by rw[hl];exact w')) r'
 .exact hd.elim⟩
def zC(te:TME):TME:=λz M R=>te z M λd M1=>match d with|.ptr a=>∃ds,mget M1 a=be (.lst ds)/\R (.int ds.length) M1|_=>False
def zD{p:QT}(hm:X.mg "len"=m_)(ha:ME X e te)(hg:autoParam (Gl X "len") zA0)(he:autoParam (zSE X e []) zA0):ME X (.Call (.Name "len" p) [e] [] pos) (zC te):=⟨(fS jh hg hm PySem.boot_len (bz ha.out pa_nil he) y8 y8 he).anti λs H Q h=>by
 obtain⟨F,z,M,k,rs,R,h1,h2⟩:=h;refine#[F,z,M,k,rs,_,h1,λd v M1 F1 H1 g1 hx rx m1=>?_];split at hx
 .rename_i a;obtain⟨ds,hm,hR⟩:=hx;obtain⟨vs,hH,rr⟩:=m1.ok _ _ (bT hm);exact#[.ref a,vs.length,by rw[rep_ptr.mp rx],.inl #[vs,SqL.of hH,rfl],h2 _ _ M1 F1 H1 g1 hR (rep_int.mpr (by rw[rr.length])) m1]
 .exact hx.elim⟩
def mIxP(ta tb:TME):TME:=λz M R=>ta z M λx M1=>tb z M1 λy M2=>match x,y with|.ptr a,.int i=>∃ds,mget M2 a=be (.lst ds)/\∃d,atI ds i=be d/\R d M2|_,_=>False
def zE(ha:ME X a ta)(hb:ME X b tb)(hs:autoParam (dH b) zA6):ME X (.Subscript a b pos) (mIxP ta tb):=⟨(pe_ix ix_list ha.out hb.out hs).anti λs H Q h=>by
 obtain⟨F,z,M,k,rs,R,h1,h2⟩:=h;refine#[F,z,M,k,rs,_,h1,λx u M1 F1 H1 g1 hx rx m1=>?_];refine#[F1,z,M1,k.growM rs.mb g1,rs.growM k.bh g1 m1,_,hx,λy v M2 F2 H2 g2 hy ry m2=>?_];split at hy
 .rename_i p i;obtain⟨ds,hm,d,hd,hR⟩:=hy;obtain⟨vs,hH,rr⟩:=m2.ok _ _ (bT hm);obtain⟨w,e2,g9⟩:=rr.at hd;exact#[p,vs,_,w,rep_ptr.mp rx,rep_int.mp ry,SqL.of hH,e2,h2 d w M2 F2 H2 (g1.trans g2) hR g9 m2]
 .exact hy.elim⟩
def zF(to te:TME):TME:=λz M R=>to z M λo M1=>match o with|.ptr a=>(∃ds,mget M1 a=be (.lst ds))/\te z M1 λd M2=>∃ds,mget M2 a=be (.lst ds)/\ds.length<=100000/\R .non (mput M2 a (.lst (ds++[d])))|_=>False
def zG{apos cpos:QT}(ho:ME X o to)(he:ME X e te)(k6:autoParam (zSE X e []) zA0)
  (b8:autoParam (QQ o "append" X.env (QS o X.env)=QS o X.env) zA0)
  (d_:autoParam (zHF X cpos [e]) zA0)
  (c5:autoParam ((apos.endLine==cpos.line)=true) zA0):
  ME X (.Call (.Attribute o "append" apos) [e] [] cpos) (zF to te):=⟨(dI PySem.F.plainAttrs_list PySem.F.slot_list_append PySem.F.type_list_append jp ho.out (bz he.out pa_nil k6) b8 d_ c5 k6).anti λs H Q h=>by
 obtain⟨F,z,M,k,rs,R,h1,h2⟩:=h;refine#[F,z,M,k,rs,_,h1,λx u M1 F1 H1 g1 hx rx m1=>?_];split at hx
 .rename_i a;obtain⟨⟨Qh,LJ⟩,hx⟩:=hx;obtain⟨O8,O9,Qi⟩:=m1.ok _ _ (bT LJ);rw[rep_ptr.mp rx];refine#[.inl #[rfl,O8,SqL.of O9],?_];refine#[F1,z,M1,k.growM rs.mb g1,rs.growM k.bh g1 m1,_,hx,λd v M2 F2 H2 g2 hd rd m2=>?_];obtain⟨ds,hm,hl,hR⟩:=hd;obtain⟨vs,hH,rr⟩:=m2.ok _ _ (bT hm);have hz:vs.length<sizeLine:=by
   rw[rr.length];have h2:(100000:Nat)<sizeLine:=y8
   lia
  refine#[a,vs,v,rfl,rfl,hH,hz,?_];exact h2 _ _ _ F2 _ (g1.trans (g2.trans (GrowM.put g2.fh (m2.fr a (cr (bT hm))) hm))) hR (rep_non.mpr rfl) (m2.put hm #[_,aG,rr.append (dP rd)])
 .exact hx.elim⟩
def frzD:MO->D|.ins x fs=>.obj x fs|.lst ds=>.lst ds|.dti a8=>.dti a8
def mFrz(i:Nat)(t:TMS):TMS:=λE z M=>match z[i]? with|some (be (.ptr a))=>∃o,mget M a=be o/\t E (z.set i (be (frzD o))) (mdel M a)|_=>False
def sj(i:Nat){J8:List P3}(h:MSs X J8 t):MSs X J8 (mFrz i t):=⟨PSs.anti h.out λE s H q=>by
 obtain⟨F0,F,z,M,k,rs,ED,h,e⟩:=q;unfold mFrz at h;split at h
 .rename_i a ez;obtain⟨o,hm,h⟩:=h;have mem:=bT hm;have fa:=rs.rm.fr a (cr mem);have ba:=rs.mb a (cr mem);obtain⟨v,hv,rv⟩:=rs.rs.val i _ ez rfl;have O_:=rep_ptr.mp rv;subst O_;have hok:=rs.rm.ok a o mem;obtain⟨ho,j6,LK⟩:∃ho,H a=be ho/\∀F',Same F F'->F' a=be ho->Rep X.K F' (frzD o) (.ref a):=by
   cases o with
   |ins x fs=>obtain⟨C,dx,ws,n,h1,h2⟩:=hok;exact#[_,h1,λF' s' hF=>rep_obj.mpr #[a,C,dx,ws,rfl,n,hF,RepF.mono s' fs ws h2]]
   |lst ds=>obtain⟨vs,h1,h2⟩:=hok;exact#[_,h1,λF' s' hF=>rep_lst.mpr #[a,vs,rfl,hF,h2.mono s']]
   |dti a8=>exact#[_,hok,λF' s' hF=>rep_dti.mpr #[a,rfl,hF]]
  have s1:Same F (upd F a ho):=aO fa _;have hs:s.set i (be (.ref a))=s:=by
   apply GJ;intro n;by_cases hn:i=n
   .subst hn;rw[FM (Fj.mp hv).1,hv]
   .rw[Fu hn]
  have k1:Kept J.B F0 (upd F a ho) H:=⟨k.bh,λb u q=>by
   by_cases hb:b=a
   .subst hb;rw[aG]at q;cases q;exact j6
   .rw[ay hb]at q;exact k.fh b u q,k.f0.trans s1,λb h1 h2=>by
   by_cases hb:b=a
   .subst hb;exact absurd ba h2
   .rw[ay hb];exact k.out b h1 h2,k.eb,k.jf,k.jo⟩
  have r0:RepS X.K J.B (upd F a ho) H z s:=#[rs.rs.len,λi d e n=>let ⟨v,q1,q2⟩:=rs.rs.val i d e n;#[v,q1,q2.mono s1],λi ds e=>absurd e (rs.no i ds),rs.rs.apart];have Pa:RepM X.K (upd F a ho) H (mdel M a):=⟨rs.rm.nd.sublist del_sub,λb q hb=>by
   obtain⟨ne,hb⟩:=jN rs.rm.nd hb;exact(rs.rm.ok b q hb).mono s1 λ_ z=>z,λb hb=>by
   obtain⟨⟨b',q⟩,p9,rfl⟩:=FA.mp hb;obtain⟨ne,NT⟩:=jN rs.rm.nd p9;rw[ay ne];exact rs.rm.fr _ (cr NT)⟩
  have z0:RepZ X.K J.B (upd F a ho) H z s (mdel M a):=#[r0,rs.no,Pa,λb hb=>rs.mb b (del_sub.subset hb)];have z1:=z0.set (i:=i) (LK _ s1 aG);rw[hs]at z1;exact#[F0,_,_,_,k1,z1,ED,h,e]
 .exact h.elim⟩
end
def so{N:List t6}{ds:List D}(rs:Reps K F ds vs):∀(i:Nat) d,(startD N ds)[i]?≠be (be (.own d)):=by
 intro i d e;unfold startD at e;by_cases hi:i<ds.length
 .rw[FK (by simpa using hi),Fg]at e;cases q:ds[i]? with
  |none=>rw[q]at e;cases e
  |some x=>
   rw[q]at e;cases e;obtain⟨v,_,q2⟩:=rs.get q;exact rep_own q2
 .rw[FV (by simpa using hi),G4]at e;split at e
  .cases e
  .cases e
def growM_nil(g:GrowM [] M' F H F' H'):Grow F H F' H':=#[g.ff,g.fh,λb o h=>g.hh b o (λz=>nomatch z) h,λb h1 h2=>g.out b (λz=>nomatch z) h1 h2]
section
variable {P:QH}{w:QL}{K:Ex}{mg:t6->Option KB}{base:QN}
variable{x:t6}{ps:List t6}{S:SpM}
def CalMM.toX{n:Nat}{S0:SpX}(C:CalMM P w K mg base n x ps S)(h:∀ds R RX,S0 ds R RX->S ds [] (λd _=>R d) λx fs _=>RX x fs):CalX P w K mg base n x ps S0:=by
 obtain⟨f,fd,F,hb,hk,hm⟩:=C;refine#[f,fd,F.imp λvs H Q E q=>?_,hb,hk,hm];obtain⟨F,ds,fh,rs,R,RX,hS,q1,q2⟩:=q;exact#[F,ds,[],fh,rs,RepM.nil,_,_,h ds R RX hS,λd v M' F' H' g hd rd _=>q1 d v F' H' (growM_nil g) hd rd,λy fs C od M' F' H' g hR er _=>q2 y fs C od F' H' (growM_nil g) hR er]
open Classical in
def Fun.okM{x qual:t6}{st:P3}{f:KF}{fd:QR}{N ps:List t6}{k:Nat}{S:SpM}{dV:KB}(T:FunG K dV x qual st f fd)(F:FnScope N ps (ah st))(len:∀ds M R RX,S ds M R RX->ds.length=ps.length)
  (a9:∀(cdv:KB) (A:QM) (outer:List Rt) (s:KM) (H:Hp) (E:XK) (J:Jm),Room k (A.deeper (QX qual (ah st) s.heap.objs.size f cdv))->XOkM (cxOf (CX1 P w) P w K mg base N qual (ah st) f cdv A outer s H E)->
   ∃t,MSs (cxOf (CX1 P w) P w K mg base N qual (ah st) f cdv A outer s H E) (aK st) t/\∀ds M R RX,(∀z,J.RM z=λM' x fs=>RX x fs M')->S ds M R RX->t {nx:=λ_ M'=>R .non M',rt:=R} (startD N ds) M):FnOk P w K mg base (CX1 P w) (k+1) f fd ps (lSpM K S):=by
 refine Fun.okC T F (λvs H Q E h=>?_) (λcdv A outer s H vs Q E hr h=>?_)
 .obtain⟨F,ds,M,fh,rs,rm,R,RX,h,_⟩:=h;rw[rs.length];exact len ds M R RX h
 .obtain⟨F,ds,M,fh,rs,rm,R,RX,h,q,qx⟩:=h
  let B:Hp:=λb=>if b∈az M then m_ else H b
  have NU:∀{b:KF},b∈az M->B b=none:=λ{b} h=>if_pos h;have K4:∀{b:KF},b∉az M->B b=H b:=λ{b} h=>if_neg h
  letI:Jm:={B:=B,F0:=F,RX:=λ_ _ _=>False,RM:=λ_ M' x fs=>RX x fs M'}
  have gr:∀{M':MS} {F' H':Hp},Kept B F F' H'->(∀a,a∈az M'->B a=m_)->GrowM M M' F H F' H':=λ{M' F' H'} k mb=>⟨k.f0,k.fh,λb o nb e=>k.bh b o (by rw[K4 nb];exact e),λb nb h1 h2=>k.out b h1 (by rw[K4 nb];exact h2),λb hb=>by
   by_cases nb:b∈az M
   .exact .inl nb
   .right;rw[<-K4 nb];exact mb b hb⟩
  have hx:XOkM (cxOf (CX1 P w) P w K mg base N qual (ah st) f cdv A outer s H E):=by
   intro σ z M' F' H' s' e C od y fs I kk rr hR er ⟨He,ne,_,hx⟩;have hE:E (.ref C) od H':=qx y fs C od M' F' H' (gr kk rr.mb) hR er rr.rm;rcases hx with⟨sl,vs,h1,h2⟩|⟨T,h1,h2,h3,_⟩
   .exact qK I h1 h2 He ne hE
   .exact rJ I h1 ne h2 He h3 hE
  obtain⟨t,ht,hq⟩:=a9 cdv A outer s H E inferInstance hr hx;have k0:Kept B F F H:=⟨λb o e=>by
   by_cases nb:b∈az M
   .rw[NU nb]at e;cases e
   .rw[K4 nb]at e;exact e,fh,Same.refl F,λ_ h _=>h,rfl,Same.refl F,λ_ h _=>h⟩
  have r0:RepZ K B F H (startD N ds) (L2.start N vs) M:=#[fg rs,so rs,rm,λa h=>NU h];exact#[_,ht.out,F,F,startD N ds,M,k0,r0,_,hq ds M R RX (λ_=>rfl) h,#[λz' s' M' F' H' k hn r=>q _ _ M' F' H' (gr k r.mb) hn (rep_non.mpr rfl) r.rm,λd v M' F' H' k hd rd NV mb=>q d v M' F' H' (gr k mb) hd rd NV,λ_ _ _ _ _ _ h _=>h.elim,λ_ _ _ _ _ _ h _=>h.elim]]
variable{N:List t6}
def Tx.okM{st:P3}{k:Nat}(T:Tx K mg x st ps)(F:FnScope N ps (ah st))(len:∀ds M R RX,S ds M R RX->ds.length=ps.length)
  (a9:∀(f:KF) (cdv:KB) (A:QM) (outer:List Rt) (s:KM) (H:Hp) (E:XK) (J:Jm),Room k (A.deeper (QX x (ah st) s.heap.objs.size f cdv))->XOkM (cxOf (CX1 P w) P w K mg base N x (ah st) f cdv A outer s H E)->
   ∃t,MSs (cxOf (CX1 P w) P w K mg base N x (ah st) f cdv A outer s H E) (aK st) t/\∀ds M R RX,(∀z,J.RM z=λM' x fs=>RX x fs M')->S ds M R RX->t {nx:=λ_ M'=>R .non M',rt:=R} (startD N ds) M):CalMM P w K mg base (k+1) x ps S:=by
 obtain⟨f,fd,T,hb,hm⟩:=T;exact#[f,fd,Fun.okM T F len λcdv A outer s H E J hr hx=>a9 f cdv A outer s H E J hr hx,hb,T.kp,hm]
def Txm(K:Ex)(x m:t6)(qual:t6)(st:P3)(ps:List t6):Prop:=
 ∃C f fd,nsIn K Pi x=be (be (.ref C))/\Cls K C/\Meth K C m f/\Fun K m qual st f fd/\Binds K fd ps []
def Txm.okM{m qual:t6}{st:P3}{k:Nat}(T:Txm K x m qual st ps)(F:FnScope N ps (ah st))(len:∀ds M R RX,S ds M R RX->ds.length=ps.length)
  (a9:∀(f:KF) (cdv:KB) (A:QM) (outer:List Rt) (s:KM) (H:Hp) (E:XK) (J:Jm),Room k (A.deeper (QX qual (ah st) s.heap.objs.size f cdv))->XOkM (cxOf (CX1 P w) P w K mg base N qual (ah st) f cdv A outer s H E)->
   ∃t,MSs (cxOf (CX1 P w) P w K mg base N qual (ah st) f cdv A outer s H E) (aK st) t/\∀ds M R RX,(∀z,J.RM z=λM' x fs=>RX x fs M')->S ds M R RX->t {nx:=λ_ M'=>R .non M',rt:=R} (startD N ds) M):CalMth P w K mg base (k+1) x m ps (lSpM K S):=by
 obtain⟨C,f,fd,h1,h2,h3,T,hb⟩:=T;exact#[C,f,fd,h1,h2,h3,Fun.okM T F len λcdv A outer s H E J hr hx=>a9 f cdv A outer s H E J hr hx,hb]
end
end My
namespace L2
section
variable {X:Cx}{pins:List (KF×QY)}{σ:St}{H:Hp}{s:KM}{h':QN}
def Inv.turned2{t':Nat}{e it:KF}(I:Inv X pins σ H s)(k:∀b o,b≠e->b≠it->s.heap.get? b=be o->h'.get? b=be o)(he:FpOk X pins H e)(hi:FpOk X pins H it):Inv X pins σ H {s with heap:=h',toks:=t'}:=by
 obtain⟨e0,e1,e2,e3,e4,e5⟩:=he;obtain⟨i0,i1,i2,i3,i4,i5⟩:=hi;have IR:∀b u,H b=be u->b≠e/\b≠it:=λb u q=>#[(λz=>by rw[z,e0]at q;cases q),(λz=>by rw[z,i0]at q;cases q)];have nc:∀{b:KF},b∉[e,it]->b≠e/\b≠it:=λ{b} h=>#[λz=>h (by simp[z]),λz=>h (by simp[z])];refine I.step (g':=s.gens) (d':=s.drawn) (ch:=[e,it]) (λb hb=>?_) (λb o _ _ hc q _=>k b o (nc hc).1 (nc hc).2 q) (λb o _ _ hc q _=>#[o.slots,k b o (nc hc).1 (nc hc).2 q]) (λ_ _ _ _ n=>n)
  (λb o hc q=>#[o,k b o (nc hc).1 (nc hc).2 q]) (λ_ _ q=>q) (λ_ _ _ q=>q) (λb ps q=>#[[].toArray,by rw[q];simp]) (λm hm=>?_) (λb u q=>?_) I.bare
 .rcases E8.mp hb with z|z
  .rw[z];exact#[e3,e1,e4,e5]
  .rw[E6.mp z];exact#[i3,i1,i4,i5]
 .obtain⟨o,es,ep,ho,r⟩:=hm;exact#[o,es,ep,k _ o (Ne.symm e1) (Ne.symm i1) ho,r]
 .refine(I.hok b u q).stay (λc v hc q'=>k c v ?_ ?_ q') (λ_ q=>q) λ_ _ q=>q
  .rcases hc with z|z
   .rw[z];exact(IR b u q).1
   .exact(IR c _ z).1
  .rcases hc with z|z
   .rw[z];exact(IR b u q).2
   .exact(IR c _ z).2
end
def Itel(K:Ex)(a:KF):It:=
 #[λi H=>∃xs x,SqL K H a xs/\xs[i]?=be x,λi H x H'=>∃T v,H T=m_/\x=.ref T/\H'=upd H T (.tup [.int i,v])/\∀xs,SqL K H a xs->xs[i]?=be v,λi H=>∃xs,SqL K H a xs/\xs.length<=i]
def Ites(x:t6):It:=#[λi _=>i<x.length,λi H v H'=>∃T c,H T=m_/\v=.ref T/\H'=upd H T (.tup [.int i,.str #[[c].toArray]])/\x.cps[i]?=be c,λi _=>i=x.length]
variable{P:QH}{w:QL}
def zH{H:Hp}{h:QN}{T:KF}{i:Int}{t:Tok}{v:V}{u:KB}(r:RelV v u)(q:h.get? T=be {cls:=.type "tuple",data:=.seq [.int i t,u].toArray}):ObjOk P w H h T (.tup [.int i,v]):=
 #[by show 2<=sizeLine;decide,[.int i t,u],.cons #[t,rfl] (.cons r .nil),#[_,q,rfl,_,rfl]]
def sq{X:Cx}{pins:List (KF×QY)}{σ:St}{H:Hp}{s:KM}{h':QN}{t':Nat}{e it:KF}{i:Int}{t:Tok}{v:V}{u:KB}(I:Inv X pins σ H s)(he:FpOk X pins H e)(hi:FpOk X pins H it)(le:e<s.heap.objs.size)(li:it<s.heap.objs.size)(r:RelV v u)
  (hT:h'.get? s.heap.objs.size=be {cls:=.type "tuple",data:=.seq [.int i t,u].toArray}) (hk:∀b o,b≠e->b≠it->s.heap.get? b=be o->h'.get? b=be o):Inv X pins σ (upd H s.heap.objs.size (.tup [.int i,v])) {s with heap:=h',toks:=t'}:=by
 have I1:Inv X pins σ (upd H s.heap.objs.size (.tup [.int i,v])) {s with heap:=s.heap.push {cls:=.type "tuple",data:=.seq [.int i t,u].toArray},toks:=t'}:=
  I.laid (λb o q=>Heap.get?_push_of_some _ q) (E5 _) (zH r (Heap.get?_push_size _ rfl))
 have fp:∀{b:KF},FpOk X pins H b->b<s.heap.objs.size->FpOk X pins (upd H s.heap.objs.size (.tup [.int i,v])) b:=λ{b} h l=>#[by rw[ay (Ff l)];exact h.1,h.2];refine I1.turned2 (h':=h') (t':=t') (λb o h1 h2 q=>?_) (fp he le) (fp hi li);rcases Heap.get?_push_cases (show(s.heap.push {cls:=.type "tuple",data:=.seq [.int i t,u].toArray}).get? b=be o from q)with⟨rfl,rfl⟩|q2
 .exact hT
 .exact hk b o h1 h2 q2
variable{o_:List QG}
def zI{K:Ex}{x1:Nat}{tp:QT}(a e it:KF)(Jw:e≠it):Turn P w K (.Tuple o_ x1 tp) (Itel K a) [e,it] e (λi h=>(∃d6,IsEnum h e it i d6)/\h.IsListIter it a i) where
 mem:=IV
 obj:=λi h st b hb=>by
  obtain⟨⟨d6,he⟩,hit⟩:=st;rcases E8.mp hb with z|z
  .rw[z];exact#[_,he,λv z=>by cases z]
  .rw[E6.mp z];obtain⟨o,ho,c,d⟩:=hit;exact#[o,ho,λv z=>by rw[d]at z;cases z]
 keep:=λi h h' st k=>#[let ⟨d6,he⟩:=st.1;#[d6,k e IV _ he],st.2.at λo q=>k it IV o q]
 item:=by
  intro X hP hw hK hc i pins s σ H E I hf st hg;subst hP hw hK;obtain⟨xs,x,hq,hx⟩:=hg;obtain⟨its,rv,p,hz⟩:=I.list hq;obtain⟨u,hu,ru⟩:=rv.get hx;obtain⟨⟨d6,he⟩,hit⟩:=st;have fe:=hf e IV;have fi:=hf it IV;have le:e<s.heap.objs.size:=Heap.lt_size he;have li:it<s.heap.objs.size:=by obtain⟨o,ho,_⟩:=hit;exact Heap.lt_size ho
  refine wpAny_pyNext_enum_item he hit p.isList (x:=u) (by simpa using hu) Jw λh' v7 Jf hT ge hk=>?_;refine#[_,rfl,RT v7 λh2 LL j3=>?_];have m6:Heap.SameBut e h' h2:=j3;have nT:s.heap.objs.size≠e:=F5 le;have I1:Inv X pins σ (upd H s.heap.objs.size (.tup [.int i,x])) {s with heap:=h2,toks:=s.toks+1}:=sq I fe fi le li ru ((m6.2 _ nT).trans hT) λb o h1 h3 q=>(m6.2 b h1).trans (hk b o h1 h3 q);refine#[.ref s.heap.objs.size,_,I1,rfl,#[_,x,I.hok.fresh (E5 _),rfl,rfl,λys hy=>by rw[I.list_inj hy hq];exact hx],#[#[u,by simpa using LL],Jf.at λo q=>(m6.2 it (Ne.symm Jw)).trans q],λb hb=>?_];rcases E8.mp hb with z|z
  .rw[z,ay (Ff le)];exact fe.1
  .rw[E6.mp z,ay (Ff li)];exact fi.1
 done:=by
  intro X hP hw hK hc i pins s σ H E I hf st hg;subst hP hw hK;obtain⟨xs,hq,hx⟩:=hg;obtain⟨its,rv,p,hz⟩:=I.list hq;obtain⟨⟨d6,he⟩,hit⟩:=st;have hl:=rv.length;obtain⟨f0,f1,f2,f3,f4,f5⟩:=hf it IV;exact wpAny_pyNext_enum_end (I.ok.hd hc) he hit p.isList Nw λh' eb=>#[rfl,I.turned (t':=s.toks) (λb o hb q=>eb b o hb q) f0 f1 f3 f4 f5]
 self:=λ_ _ _ _ _ st h=>let ⟨⟨d6,he⟩,_⟩:=st;Ro he h
def zJ{K:Ex}{x1:Nat}{tp:QT}(x:t6)(t:Tok)(e it:KF)(Jw:e≠it):Turn P w K (.Tuple o_ x1 tp) (Ites x) [e,it] e (λi h=>(∃d6,IsEnum h e it i d6)/\h.IsStrIter it "str_ascii_iterator" x t i) where
 mem:=IV
 obj:=λi h st b hb=>by
  obtain⟨⟨d6,he⟩,hit⟩:=st;rcases E8.mp hb with z|z
  .rw[z];exact#[_,he,λv z=>by cases z]
  .rw[E6.mp z];obtain⟨o,ho,c,d⟩:=hit;exact#[o,ho,λv z=>by rw[d]at z;cases z]
 keep:=λi h h' st k=>#[let ⟨d6,he⟩:=st.1;#[d6,k e IV _ he],let ⟨o,ho,r⟩:=st.2;#[o,k it IV o ho,r]]
 item:=by
  intro X hP hw hK hc i pins s σ H E I hf st hg;subst hP hw hK;have hi:i<x.cps.size:=hg;obtain⟨⟨d6,he⟩,hit⟩:=st;have fe:=hf e IV;have fi:=hf it IV;have le:e<s.heap.objs.size:=Heap.lt_size he;have li:it<s.heap.objs.size:=by obtain⟨o,ho,_⟩:=hit;exact Heap.lt_size ho
  refine wpAny_pyNext_enum_itemD (Draws.strAscii (A:=X.A.in1) (by exact I.ok.hd hc) it x t) he hit hi Jw (by simp[Jw]) λu h' tk hP v7 Jf hT ge hk=>?_;obtain⟨c,tu,H_,rfl⟩:=hP;refine#[_,rfl,RT v7 λh2 LL j3=>?_];have m6:Heap.SameBut e h' h2:=j3;have nT:s.heap.objs.size≠e:=F5 le;have I1:Inv X pins σ (upd H s.heap.objs.size (.tup [.int i,.str #[[c].toArray]])) {s with heap:=h2,toks:=tk+1}:=sq I fe fi le li #[tu,rfl] ((m6.2 _ nT).trans hT) λb o h1 h3 q=>(m6.2 b h1).trans (hk b o h1 h3 q);refine#[.ref s.heap.objs.size,_,I1,rfl,#[_,c,I.hok.fresh (E5 _),rfl,rfl,H_],#[#[_,by simpa using LL],let ⟨o,ho,r⟩:=Jf;#[o,(m6.2 it (Ne.symm Jw)).trans ho,r]],λb hb=>?_];rcases E8.mp hb with z|z
  .rw[z,ay (Ff le)];exact fe.1
  .rw[E6.mp z,ay (Ff li)];exact fi.1
 done:=by
  intro X hP hw hK hc i pins s σ H E I hf st hg;subst hP hw hK;have hi:i=x.cps.size:=hg;subst hi;obtain⟨⟨d6,he⟩,hit⟩:=st;obtain⟨f0,f1,f2,f3,f4,f5⟩:=hf it IV;exact wpAny_pyNext_enum_endD (Draws.strAscii (A:=X.A.in1) (by exact I.ok.hd hc) it x t) he hit λh' eb=>#[rfl,I.turned (t':=s.toks) (λb o hb q=>eb b o hb q) f0 f1 f3 f4 f5]
 self:=λ_ _ _ _ _ st h=>let ⟨⟨d6,he⟩,_⟩:=st;Ro he h
def iEnL(K:Ex)(ta:TA):TI:=λσ H R=>ta σ H λvs H1=>∃a,vs=[.ref a]/\(∃xs,SqL K H1 a xs)/\R (Itel K a) H1
def iEnS(ta:TA):TI:=λσ H R=>ta σ H λvs H1=>∃x,vs=[.str x]/\x.cps.all (·<128)=true/\R (Ites x) H1
section
variable {X:Cx}{o_:List QG}{x1:Nat}{tp p pos:QT}{l:QG}{ta:TA}
def sr(hg:Gl X "enumerate")(hm:X.mg "enumerate"=m_)(ha:PA X [l] ta)(hs:autoParam (QP [l] X.env=[(false,QS l X.env)]) zA0):PI X (.Tuple o_ x1 tp) (.Call (.Name "enumerate" p) [l] [] pos) (iEnL X.K ta):=by
 intro pins s σ H R I h;refine Call_ (cV I hg hm PyProof.Rows.boot_enumerate (PyProof.Rows.callWith_type1 (thn (ha pos pins s σ H _ I h) λus s1 ⟨vs,H1,I1,r1,q1⟩=>?_) hs rfl));obtain⟨a,rfl,⟨xs,hq⟩,q⟩:=q1;obtain⟨u,rfl,ru⟩:=bS r1;cases ru;obtain⟨its,rv,pl,hz⟩:=I1.list hq;refine call_enumerate_list pl.isList λh' he hit ge hk=>?_;have I2:Inv X pins σ H1 {s1 with heap:=h'}:=I1.kept (t':=s1.toks) hk;refine Ro he ?_;have ne:s1.heap.objs.size+1≠s1.heap.objs.size:=HI _;refine#[s1.heap.objs.size+1,[s1.heap.objs.size+1,s1.heap.objs.size],_,_,H1,rfl,I2,zI a _ _ ne,#[#[_,he],hit],λb hb=>?_,q];rcases E8.mp hb with z|z
 .rw[z];exact I1.fpOk (Gf _) (I1.hok.fresh (Gf _))
 .rw[E6.mp z];exact I1.fpOk (E5 _) (I1.hok.fresh (E5 _))
def zK(hg:Gl X "enumerate")(hm:X.mg "enumerate"=m_)(ha:PA X [l] ta)(hs:autoParam (QP [l] X.env=[(false,QS l X.env)]) zA0):PI X (.Tuple o_ x1 tp) (.Call (.Name "enumerate" p) [l] [] pos) (iEnS ta):=by
 intro pins s σ H R I h;refine Call_ (cV I hg hm PyProof.Rows.boot_enumerate (PyProof.Rows.callWith_type1 (thn (ha pos pins s σ H _ I h) λus s1 ⟨vs,H1,I1,r1,q1⟩=>?_) hs rfl));obtain⟨x,rfl,LM,q⟩:=q1;obtain⟨u,rfl,t,rfl⟩:=bS r1;refine call_enumerate_str λh' he hit ge hk=>?_;have I2:Inv X pins σ H1 {s1 with heap:=h'}:=I1.kept (t':=s1.toks) hk;refine Ro he ?_;have ne:s1.heap.objs.size+1≠s1.heap.objs.size:=HI _;have Pb:strIterType x="str_ascii_iterator":=by unfold strIterType;rw[LM];rfl
 rw[Pb]at hit;refine#[s1.heap.objs.size+1,[s1.heap.objs.size+1,s1.heap.objs.size],_,_,H1,rfl,I2,zJ x t _ _ ne,#[#[_,he],hit],λb hb=>?_,q];rcases E8.mp hb with z|z
 .rw[z];exact I1.fpOk (Gf _) (I1.hok.fresh (Gf _))
 .rw[E6.mp z];exact I1.fpOk (E5 _) (I1.hok.fresh (E5 _))
end
end L2
namespace My
open Exc
section
variable {X:Cx}[J:Jm]{a b c e o:QG}{ta tb tc te to:TME}{pos:QT}{st:P3}{rest:List P3}{t u:TMS}
def ss{K:Ex}{F:Hp}:∀(is:List Nat) (ds:List D) (vs:List V) (z:SD),Reps K F ds vs->(∀(i:Nat) d,z[i]?≠be (be (.own d)))->∀(i:Nat) d,(aP is ds z)[i]?≠be (be (.own d))
 |[],_,_,z,_,h=>h
 |_::_,[],_,z,_,h=>h
 |i::is,d::ds,vs,z,r,h=>by
  obtain⟨v,vr,rfl,r1,r2⟩:=reps_cons.mp r;refine ss is ds vr _ r2 λj q e=>?_;by_cases hj:i=j
  .subst hj;rw[Gx]at e;simp at e;have:=r1.noown;rw[e.2]at this;cases this
  .rw[Fu hj]at e;exact h j q e
def mItE(t:TME):TMI:=λz M R=>t z M λx M1=>match x with|.lst ds=>R ds M1|_=>False
def zL(t:TME):TMI:=λz M R=>t z M λx M1=>match x with|.str x=>x.cps.all (·<128)=true/\R (dv x) M1|_=>False
def su(is:List Nat)(ti:TMI)(tb:TMS):TMS:=λE z M=>ti z M λds M1=>∃W:Nat->SD->MS->Prop,W 0 z M1/\(∀(k:Nat) x z M,ds[k]?=be x->W k z M->tb {E with nx:=W (k+1),ct:=W (k+1),bk:=E.nx} (aP is [.int k,x] z) M)/\∀z M,W ds.length z M->E.nx z M
variable{is:List Nat}
def sy{K:Ex}{F0 F1 H1:Hp}{z:SD}{s:L2.St}{M1:MS}{E:Ends}{ED:EndsM}{It':It}{g:TG}{tb:TMS}{tbv:TS}{ds:List D}(hK:K=X.K)(k1:Kept J.B F0 F1 H1)(Je:RepZ K J.B F1 H1 z s M1)(e:EndsOkM K F0 ED E)(a_:is.length=2)
  (go:∀k F' H',Same F1 F'->Same F' H'->k<ds.length->It'.go k H') (stop:∀F' H',Same F1 F'->Same F' H'->It'.stop ds.length H')
  (yld:∀k F' H' x H'',Same F1 F'->Same F' H'->k<ds.length->It'.yld k H' x H''->∃T d v,H' T=m_/\x=.ref T/\H''=upd H' T (.tup [.int k,v])/\ds[k]?=be d/\Rep K F' d v)
  (hg:∀(dd:List D) (vs:List V) (T:KF) (z:SD) (s:L2.St) (F H:Hp) (Q:L2.St->Hp->Prop),dd.length=2->H T=be (.tup vs)->Reps K F dd vs->RepS K J.B F H z s->(∀s',RepS K J.B F H (aP is dd z) s'->Q s' H)->g (.ref T) s H Q)
  (LN:∀E s H,mS K tb E s H->tbv E s H)
  (hd:∃W:Nat->SD->MS->Prop,W 0 z M1/\(∀(k:Nat) x z M,ds[k]?=be x->W k z M->tb {ED with nx:=W (k+1),ct:=W (k+1),bk:=ED.nx} (aP is [.int k,x] z) M)/\∀z M,W ds.length z M->ED.nx z M):
  ∃W:Nat->Nat->L2.St->Hp->Prop,(∃m,W 0 m s H1)/\∀i m σ H,W i m σ H->
   (It'.stop i H/\E.nx σ H)\/(It'.go i H/\∃N:L2.St->Hp->Prop,(∀σ' H',N σ' H'->∃m',m'<m/\W (i+1) m' σ' H')/\∀x H',It'.yld i H x H'->g x σ H' λσ2 H2=>tbv {E with nx:=N,ct:=N,bk:=E.nx} σ2 H2):=by
 obtain⟨W,w0,b_,out⟩:=hd;refine#[λk m s' H'=>m=ds.length-k/\k<=ds.length/\∃F' z' M',Kept J.B F0 F' H'/\Same F1 F'/\RepZ K J.B F' H' z' s' M'/\W k z' M',#[ds.length,IV,FB _,F1,z,M1,k1,Same.refl F1,Je,w0],?_];rintro k m s' H'⟨rfl,hk,F',z',M',k',g',r',w'⟩;by_cases f7:k<ds.length
 .refine .inr #[go k F' H' g' k'.fh f7,λs3 H3=>∃F3 z3 M3,Kept J.B F0 F3 H3/\Same F1 F3/\RepZ K J.B F3 H3 z3 s3 M3/\W (k+1) z3 M3,λs3 H3 h3=>#[ds.length-(k+1),t8,rfl,f7,h3],λx H'' hy=>?_];obtain⟨T,d,v,hT,rfl,rfl,hd,rd⟩:=yld k F' H' x H'' g' k'.fh f7 hy;have gn:=Grow.new k'.fh hT (.tup [.int k,v]);have k2:=k'.grow gn;have r2:=r'.growM k'.bh gn.toM (r'.rm.grow gn);have rp:Reps K (upd F' T (.tup [.int k,v])) [.int k,d] [.int k,v]:=reps_cons.mpr #[_,_,rfl,rep_int.mpr rfl,dP (rd.mono gn.ff)];refine hg [.int k,d] _ T z' s' _ _ _ rfl aG rp r2.rs λs2 ID=>LN _ _ _ ?_;have gF:Same F1 (upd F' T (.tup [.int k,v])):=g'.trans gn.ff;refine#[upd F' T (.tup [.int k,v]),upd F' T (.tup [.int k,v]),_,M',#[k2.bh,k2.fh,Same.refl _,λb h1 _=>h1,k2.eb,k2.jf.trans k2.f0,λb h1 h2=>k2.out b (k2.jo b h1 h2) h2],#[ID,ss is _ _ z' rp r2.no,r2.rm,r2.mb],_,b_ k d z' M' hd w',?_];have up:∀{F3 H3:Hp},Kept J.B (upd F' T (.tup [.int k,v])) F3 H3->Kept J.B F0 F3 H3:=λk3=>#[k3.bh,k3.fh,k2.f0.trans k3.f0,λb h1 h2=>k3.out b (k2.out b h1 h2) h2,k2.eb,k2.jf,k2.jo];exact#[λz3 s3 M3 F3 H3 k3 h3 r3=>#[F3,z3,M3,up k3,gF.trans k3.f0,r3,h3],λd v M3 F3 H3 k3=>e.rt d v M3 F3 H3 (up k3),λz3 s3 M3 F3 H3 k3=>e.nx z3 s3 M3 F3 H3 (up k3),λz3 s3 M3 F3 H3 k3 h3 r3=>#[F3,z3,M3,up k3,gF.trans k3.f0,r3,h3]]
 .have ek:k=ds.length:=by lia
  subst ek;exact .inl #[stop F' H' g' k'.fh,e.nx z' s' M' F' H' k' (out z' M' w') r']
variable{es:List QG}{body:List P3}
def zM{x1:Nat}{tp p1 p2:QT}{tb:TMS}(hp:Q2 (QJ X.prog X.w) X.A X.env X.xe)(hc:X.calm=true)(hm:X.mg "enumerate"=m_)(he:ME X e te)(hG:DGs X es is)(hb:MSs X body tb)(a_:autoParam (is.length=2) zA0)(hg:autoParam (Gl X "enumerate") zA0)
  (hn:autoParam ((QO es X.env).length=2) zA0) (i8:autoParam ((QO es X.env).findIdx? (·.1)=none) zA0)
  (hs:autoParam (∀y,zFS X (.Call (.Name "enumerate" p1) [e] [] p2) y) zA2) (m4:autoParam (zSE X e []) zA0) (e_:autoParam (QP [e] X.env=[(false,QS e X.env)]) zA0):
  MSt X (.For (.Tuple es x1 tp) (.Call (.Name "enumerate" p1) [e] [] p2) body [] pos) (su is (mItE te) tb):=by
 obtain⟨ug,Jg,kk⟩:=hG;refine#[(cK hp hc (sr hg hm (bz he.out pa_nil m4) e_) (eX hc Jg hn i8) hb.out hs).anti λE s H q=>?_];obtain⟨F0,F,z,M,kp,rs,ED,h,e⟩:=q;refine#[F,z,M,kp.kf,rs,_,h,λd v M1 F1 H1 g1 hd rd m1=>?_];split at hd
 .rename_i ds;obtain⟨p,vs,rfl,hq,rr⟩:=rep_lst.mp rd;refine#[p,rfl,#[vs,SqL.of (g1.fh _ _ hq)],sy (It':=Itel X.K p) rfl (kp.growM rs.mb g1) (rs.growM kp.bh g1 m1) e a_ (λk F' H' s1 s2 hk=>?_) (λF' H' s1 s2=>?_) (λk F' H' x H'' s1 s2 hk hy=>?_) (λdd n_ T z s F H Q hl hT rp IE hQ=>?_) (λ_ _ _ h=>h) hd]
  .have m5:k<vs.length:=by rw[rr.length];exact hk
   exact#[vs,vs[k],SqL.of (s2 _ _ (s1 _ _ hq)),by simp[m5]]
  .exact#[vs,SqL.of (s2 _ _ (s1 _ _ hq)),by rw[rr.length];exact E5 _]
  .obtain⟨T,v,hT,e1,e2,hv⟩:=hy;obtain⟨d,hd,rd⟩:=rr.get' (hv vs (SqL.of (s2 _ _ (s1 _ _ hq))));exact#[T,d,v,hT,e1,e2,hd,rd.mono s1]
  .exact#[T,n_,rfl,SqT.of hT,by rw[rp.length];exact hl,kk dd n_ z s J.B F H Q (by rw[hl,a_]) rp IE hQ]
 .exact hd.elim
def zN{x1:Nat}{tp p1 p2:QT}{tb:TMS}(hp:Q2 (QJ X.prog X.w) X.A X.env X.xe)(hc:X.calm=true)(hm:X.mg "enumerate"=m_)(he:ME X e te)(hG:DGs X es is)(hb:MSs X body tb)(a_:autoParam (is.length=2) zA0)(hg:autoParam (Gl X "enumerate") zA0)
  (hn:autoParam ((QO es X.env).length=2) zA0) (i8:autoParam ((QO es X.env).findIdx? (·.1)=none) zA0)
  (hs:autoParam (∀y,zFS X (.Call (.Name "enumerate" p1) [e] [] p2) y) zA2) (m4:autoParam (zSE X e []) zA0) (e_:autoParam (QP [e] X.env=[(false,QS e X.env)]) zA0):
  MSt X (.For (.Tuple es x1 tp) (.Call (.Name "enumerate" p1) [e] [] p2) body [] pos) (su is (zL te) tb):=by
 obtain⟨ug,Jg,kk⟩:=hG;refine#[(cK hp hc (zK hg hm (bz he.out pa_nil m4) e_) (eX hc Jg hn i8) hb.out hs).anti λE s H q=>?_];obtain⟨F0,F,z,M,kp,rs,ED,h,e⟩:=q;refine#[F,z,M,kp.kf,rs,_,h,λd v M1 F1 H1 g1 hd rd m1=>?_];split at hd
 .rename_i x;obtain⟨ha,hd⟩:=hd;have hl:=rQ x;refine#[x,by rw[rep_str.mp rd],ha,sy (It':=Ites x) rfl (kp.growM rs.mb g1) (rs.growM kp.bh g1 m1) e a_ (λk F' H' s1 s2 hk=>?_) (λF' H' s1 s2=>?_) (λk F' H' x H'' s1 s2 hk hy=>?_) (λdd n_ T z s F H Q hl hT rp IE hQ=>?_) (λ_ _ _ h=>h) hd]
  .rw[hl]at hk;exact hk
  .exact hl
  .obtain⟨T,c,hT,e1,e2,hc⟩:=hy;exact#[T,.str #[[c].toArray],.str #[[c].toArray],hT,e1,e2,zb hc,rep_str.mpr rfl]
  .exact#[T,n_,rfl,SqT.of hT,by rw[rp.length];exact hl,kk dd n_ z s J.B F H Q (by rw[hl,a_]) rp IE hQ]
 .exact hd.elim
end
end My
namespace L2
section
variable {prog:QH}{w:QL}{K:Type}[DecidableEq K]{i9:HeapKind prog w K}{A:QM}{E:KB->KM->Prop}{s:KM}{d a:KF}{k:K}{xs:List (K×KF×KB)}
def zO{v:KB}{Q:KB->KM->Prop}(hu:i9.room A)(l8:i9.is s.heap k a)(hm:s.heap.DictOfH i9 d xs)
  (h1:∀p,RR xs k=be p->Q p.2 {s with toks:=s.toks+i9.draws k})
  (h2:RR xs k=m_->∀h',h'.DictOfH i9 d (xs++[(k,a,v)])->Heap.SameBut d s.heap h'->Q v {s with heap:=h',toks:=s.toks+i9.draws k})
  (ge:xs.length<=sizeLine):QI (QJ prog w) A (RV d (.ref a) v) Q E s:=by
 obtain⟨o,es,ep,ho,hc,hd,he,NW,hn⟩:=hm;unfold RV
 try with_reducible refine Rb ?_
 refine Os (i9.pyHash hu l8 ?_);refine Os (wpAny_dictFind_heap (s:={s with toks:=s.toks+i9.draws k}) hu l8 ho hd he NW hn ?_ ?_)
 .intro JY;have LO:k∉xs.map (·.1):=not_mem_keys_of_get JY;refine Os (Sd (Os (wpAny_updateDictKeys (hz:=by have e:=size_of_entries he;lia) (s:={s with toks:=s.toks+i9.draws k}) ho hd (QK (h2 (atKey_none_of_get JY) _ ⟨_,_,ep+1,Heap.get?_update_self _ ho (Obj.isFreed_of_dict (Obj.data_mapDictKeys hd _)),
   hc.mapDictKeys _,Obj.data_mapDictKeys hd _,?_,?_,?_⟩ (Heap.SameBut.update ..))))))
  .simp[he,entryOfKey]
  .intro x hx;rcases Fy.mp hx with hx|hx
   .exact i9.keeps (NW x hx) ho hd (Heap.SameBut.update ..)
   .simp only[E6]at hx;subst hx;exact i9.keeps l8 ho hd (Heap.SameBut.update ..)
  .rw[FD,Gz];refine#[hn,IV,?_];intro x hx y hy;simp only[Fi,FW,E6]at hy;subst hy;exact λe=>LO (e ▸ hx)
 .intro j p hj;refine Os (wpAny_dictEntries (s:={s with toks:=s.toks+i9.draws k}) ho hd ?_);rw[entry_at he j,hj];exact Os (Sd (QK (h1 p (atKey_of_get hn hj))))
def zP(i9:HeapKind prog w K)(d a:KF)(hd:(d==Q7)=false)(v:KB):
  MeetsIn prog w (Builtin.«dict.setdefault» #[[.ref d,.ref a,v],[]]) (λA R s=>i9.room A.in1/\∃k xs,i9.is s.heap k a/\s.heap.DictOfH i9 d xs/\xs.length<=sizeLine/\
   (∀p,RR xs k=be p->R (.ok (.ret p.2)) {s with toks:=s.toks+i9.draws k})/\
   (RR xs k=m_->∀h',h'.DictOfH i9 d (xs++[(k,a,v)])->Heap.SameBut d s.heap h'->R (.ok (.ret v)) {s with heap:=h',toks:=s.toks+i9.draws k})):=
 .of_wp λA R s hh=>by
  obtain⟨hu,k,xs,l8,hm,hz,h1,h2⟩:=hh;unfold Builtin.«dict.setdefault»;refine Os ?_;unfold Builtin.Dict.keyAndDefault;refine Os (wpAny_notOrdered_dict hm.typeIs ?_);show QI _ _ (pure (d,Value.ref a,be v)) _ _ s;refine QK ?_;show QI _ _ (if(d==Q7)=true then _ else(RV d (.ref a) v>>=_)) _ _ s;rw[if_neg (by rw[hd];exact Fk)];exact Os (zO hu l8 hm (λp hp=>QK #[p.2,rfl,h1 p hp]) (λhn h' Pc IB=>QK #[v,rfl,h2 hn h' Pc IB]) hz)
end
end L2
namespace My
open Exc
def lookD:List ((Int×Int)×Int)->Int->Int->Option Int
 |[],_,_=>m_
 |((a,b),h)::r,x,y=>if a=x/\b=y then be h else lookD r x y
def jR(x y:Int):∀a8:List ((Int×Int)×Int),valV (dtiV a8) [.inl x,.inl y]=(lookD a8 x y).map V.int
 |[]=>rfl
 |((a,b),h)::r=>by
  show valV (([.inl a,.inl b],V.int h)::dtiV r) _=_;unfold lookD;by_cases e:a=x/\b=y
  .rw[if_pos e,jq (by rw[e.1,e.2])];rfl
  .rw[if_neg e,jr (λz=>e (by
    have z':([Sum.inl a,Sum.inl b]:List Key)=[.inl x,.inl y]:=z;injection z' with z1 z2;injection z2 with z2 _;exact#[Sum.inl.inj z1,Sum.inl.inj z2])),jR x y r]
def sdD(a8:List ((Int×Int)×Int))(x y v:Int):List ((Int×Int)×Int):=if(lookD a8 x y).isSome then a8 else a8++[((x,y),v)]
def zQ:V->List V->Hp->VK->Prop:=λx vs H Q=>∃a b i j d a8,x=.ref a/\vs=[.ref b,.int d]/\H a=be (.dT (dtiV a8))/\H b=be (.tup [.int i,.int j])/\Q (.int ((lookD a8 i j).getD d)) H
def zR{X:Cx}(hu:X.A.units+1<RJ):MtR X "dict.get" zQ:=by
 intro pins s σ H x vs v us Q I rx rv h;obtain⟨a,b,i,j,d,a8,rfl,rfl,ha,hb,q⟩:=h;obtain⟨u,u',rfl,ru,rd⟩:=fP rv;cases(show v=Value.ref a from rx);refine xt hu I (DGet.t (k:=[.inl i,.inl j]) ha hb) ru rd λw' s' I' g9=>#[.int ((lookD a8 i j).getD d),H,I',?_,q];rw[jR]at g9;cases e:lookD a8 i j with
 |none=>rw[e]at g9;exact g9
 |some z=>rw[e]at g9;exact g9
def rSdT:V->List V->Hp->VK->Prop:=λx vs H Q=>∃a b i j d a8,x=.ref a/\vs=[.ref b,.int d]/\H a=be (.dT (dtiV a8))/\H b=be (.tup [.int i,.int j])/\a8.length<100000/\∀w,Q (.int w) (upd H a (.dT (dtiV (sdD a8 i j d))))
def zS{H:Hp}{a:KF}{o:HO}(h:H a=be o):upd H a o=H:=by
 funext b;by_cases e:b=a
 .subst e;rw[aG,h]
 .rw[ay e]
def zT{X:Cx}(hu:X.A.units+1<RJ):MtR X "dict.setdefault" rSdT:=by
 intro pins s σ H x vs v us Q I rx rv h;obtain⟨a,b,i,j,d,a8,rfl,rfl,ha,hb,hl,q⟩:=h;obtain⟨u,u',rfl,ru,t,rfl⟩:=fP rv;cases(show v=Value.ref a from rx);cases(show u=Value.ref b from ru);obtain⟨z,hd,xs,rel,dd⟩:=xo I.hok ha;have a_:xs.length=a8.length:=by rw[<-Paired.length rel];simp[dtiV]
 have big:(100000:Nat)<sizeLine:=y8
 have p9:H b=be (.tup (([.inl i,.inl j]:List Key).map kV)):=hb;have i_:=rel.val [.inl i,.inl j];rw[jR]at i_;refine R9 PySem.F.slot_dict_setdefault dd.typeIs PySem.F.entry_dict_setdefault (PySem.F.args_dict_setdefault_3 _ _ _) (zP (Rv (bH X.prog X.w)) a b hd (.int d t)) #[Si hu,[.inl i,.inl j],xs,key_of I.hok p9,dd,t8,λp hp=>?_,λhn h' K2 hs=>?_]
 .rw[hp]at i_;cases e:lookD a8 i j with
  |none=>rw[e]at i_;exact i_.elim
  |some w=>
   rw[e]at i_;have:=q w;unfold sdD at this;rw[e]at this;have e2:(if(be w:Option Int).isSome then a8 else a8++[((i,j),d)])=a8:=rfl;rw[e2,zS ha]at this;exact#[.int w,H,I.tok _,i_,this]
 .rw[hn]at i_;cases e:lookD a8 i j with
  |some w=>rw[e]at i_;exact i_.elim
  |none=>
   have e2:sdD a8 i j d=a8++[((i,j),d)]:=by unfold sdD;rw[e];rfl
   have e3:dtiV (sdD a8 i j d)=dtiV a8++[([.inl i,.inl j],.int d)]:=by rw[e2];simp[dtiV]
   obtain⟨o,es,ep,ho,hx,h3,h4,_,h5⟩:=K2;have new:ObjOk X.prog X.w (upd H a (.dT (dtiV (sdD a8 i j d)))) h' a (.dT (dtiV (sdD a8 i j d))):=by
    refine#[by rw[e3,Fn];simp[dtiV];lia,hd,_,?_,o,es,ep,ho,hx,h3,h4,h5];rw[e3];refine KT.keeps (H:=H) (Paired.snoc (a:=(([.inl i,.inl j]:List Key),V.int d)) (b:=(([.inl i,.inl j]:List Key),b,Value.int d t)) rel #[rfl,p9,#[t,rfl]]) λc ys ec=>?_;rw[ay (vb ec ha (λz=>nomatch z))];exact ec
   exact#[.int d,_,xp I (by rw[ha];exact True.intro) hs #[o,ho] new,#[t,rfl],q d]
section
variable {X:Cx}[J:Jm]{a b c e o f:QG}{ta tb tc te to:TME}{pos apos cpos:QT}{t:TMA}
def mD0:TME:=λ_ M R=>R (.dti []) M
def zU:ME X (.Dict [] [] pos) mD0:=⟨pe_dnewT.anti λs H Q q=>by
 obtain⟨F,z,M,k,rs,R,h1,h2⟩:=q;intro p hp;have gn:=Grow.new k.fh hp (.dT []);exact h2 _ _ M _ _ gn.toM h1 (rep_dti.mpr #[p,rfl,aG]) (rs.rm.grow gn)⟩
def mDN:TME:=λ_ M R=>∀p,p∉az M->R (.ptr p) ((p,.dti [])::M)
def zV:ME X (.Dict [] [] pos) mDN:=⟨pe_dnewT.anti λs H Q q=>by
 obtain⟨F,z,M,k,rs,R,h1,h2⟩:=q;intro p hp;exact h2 _ _ _ F _ (GrowM.new k.fh hp) (h1 p λz=>rs.rm.here z hp) (rep_ptr.mpr rfl) (rs.rm.new k.fh hp aG)⟩
def zW(to:TME)(t:TMA):TME:=λz M R=>to z M λd M1=>match d with|.dti a8=>(t z M1 λds M2=>match ds with|[.tup [.int i,.int j],.int x]=>R (.int ((lookD a8 i j).getD x)) M2|_=>False)|_=>False
def zX(hu:X.A.units+1<RJ)(ho:ME X o to)(ha:MA X [e,f] t)(b8:autoParam (QQ o "get" X.env (QS o X.env)=QS o X.env) zA0)
  (d_:autoParam (zHF X cpos [e,f]) zA0)
  (c5:autoParam ((apos.endLine==cpos.line)=true) zA0) (k6:autoParam (zSE X e [f]) zA0) (c9:autoParam (zPL X cpos [f]) zA0):
  ME X (.Call (.Attribute o "get" apos) [e,f] [] cpos) (zW to t):=⟨(dI PySem.F.plainAttrs_dict PySem.F.slot_dict_get PySem.F.type_dict_get (zR hu) ho.out ha.out b8 d_ c5 k6 c9).anti λs H Q h=>by
 obtain⟨F,z,M,k,rs,R,h1,h2⟩:=h;refine#[F,z,M,k,rs,_,h1,λx u M1 F1 H1 g1 hx rx m1=>?_];split at hx
 .rename_i a8;obtain⟨p,rfl,hp⟩:=rep_dti.mp rx;refine#[.inr (.inr (.inl #[rfl,.inr #[_,g1.fh _ _ hp]])),?_];refine#[F1,z,M1,k.growM rs.mb g1,rs.growM k.bh g1 m1,_,hx,λds vs M2 F2 H2 g2 hd rd m2=>?_];split at hd
  .rename_i i j x;obtain⟨v1,r1,rfl,q1,q2⟩:=reps_cons.mp rd;obtain⟨v2,r2,rfl,q3,q4⟩:=reps_cons.mp q2;rw[reps_nil.mp q4,rep_int.mp q3];obtain⟨b,us,rfl,hb,ru⟩:=rep_tupS.mp q1;have LP:us=[.int i,.int j]:=(Reps.ints (ns:=[i,j])).mp ru;subst LP;exact#[p,b,i,j,x,a8,rfl,rfl,g2.fh _ _ (g2.ff _ _ hp),g2.fh _ _ hb,h2 _ _ M2 F2 H2 (g1.trans g2) hd (rep_int.mpr rfl) m2]
  .exact hd.elim
 .exact hx.elim⟩
def mDsd(to:TME)(t:TMA):TME:=λz M R=>to z M λd M1=>match d with|.ptr a=>(∃a8,mget M1 a=be (.dti a8))/\(t z M1 λds M2=>match ds with|[.tup [.int i,.int j],.int x]=>∃a8,mget M2 a=be (.dti a8)/\a8.length<100000/\∀w,R (.int w) (mput M2 a (.dti (sdD a8 i j x)))|_=>False)|_=>False
def zY(hu:X.A.units+1<RJ)(ho:ME X o to)(ha:MA X [e,f] t)(b8:autoParam (QQ o "setdefault" X.env (QS o X.env)=QS o X.env) zA0)
  (d_:autoParam (zHF X cpos [e,f]) zA0)
  (c5:autoParam ((apos.endLine==cpos.line)=true) zA0) (k6:autoParam (zSE X e [f]) zA0) (c9:autoParam (zPL X cpos [f]) zA0):
  ME X (.Call (.Attribute o "setdefault" apos) [e,f] [] cpos) (mDsd to t):=⟨(dI PySem.F.plainAttrs_dict PySem.F.slot_dict_setdefault PySem.F.type_dict_setdefault (zT hu) ho.out ha.out b8 d_ c5 k6 c9).anti λs H Q h=>by
 obtain⟨F,z,M,k,rs,R,h1,h2⟩:=h;refine#[F,z,M,k,rs,_,h1,λx u M1 F1 H1 g1 hx rx m1=>?_];split at hx
 .rename_i a;obtain⟨⟨Qj,LJ⟩,hx⟩:=hx;rw[rep_ptr.mp rx];refine#[.inr (.inr (.inl #[rfl,.inr #[_,m1.ok _ _ (bT LJ)]])),?_];refine#[F1,z,M1,k.growM rs.mb g1,rs.growM k.bh g1 m1,_,hx,λds vs M2 F2 H2 g2 hd rd m2=>?_];split at hd
  .rename_i i j x;obtain⟨a8,hm,hl,hR⟩:=hd;obtain⟨v1,r1,rfl,q1,q2⟩:=reps_cons.mp rd;obtain⟨v2,r2,rfl,q3,q4⟩:=reps_cons.mp q2;rw[reps_nil.mp q4,rep_int.mp q3];obtain⟨b,us,rfl,hb,ru⟩:=rep_tupS.mp q1;have LP:us=[.int i,.int j]:=(Reps.ints (ns:=[i,j])).mp ru;subst LP;refine#[a,b,i,j,x,a8,rfl,rfl,m2.ok _ _ (bT hm),g2.fh _ _ hb,hl,λw=>?_];exact h2 _ _ _ F2 _ (g1.trans (g2.trans (GrowM.put g2.fh (m2.fr a (cr (bT hm))) hm))) (hR w) (rep_int.mpr rfl) (m2.put hm aG)
  .exact hd.elim
 .exact hx.elim⟩
end
section
variable {P:QH}{w:QL}{K:Ex}{mg:t6->Option KB}{base:QN}
open Classical in
def Cls.okIM{x qual:t6}{st:P3}{f C:KF}{fd:QR}{N:List t6}{p0:t6}{ps:List t6}{k:Nat}{S:SiD}(T:Fun K "__init__" qual st f fd)(hb:Binds K fd (p0::ps) [])(F:FnScope N (p0::ps) (ah st))(len:∀ds R,S ds R->ds.length=ps.length)
  (hns:nsIn K Pi x=be (be (.ref C))) (j_:mg x=be (.ref C)) (mk:Mk K C f)
  (a9:∀(cdv:KB) (A:QM) (outer:List Rt) (s:KM) (H:Hp) (E:XK) (J:Jm),Room k (A.deeper (QX qual (ah st) s.heap.objs.size f cdv))->XOkM (cxOf (CX1 P w) P w K mg base N qual (ah st) f cdv A outer s H E).nox->
   ∃t,MSs (cxOf (CX1 P w) P w K mg base N qual (ah st) f cdv A outer s H E).nox (aK st) t/\∀a ds R,(∀z M x fs,¬J.RM z M x fs)->S ds R->t {nx:=λ_ M'=>∃fs,M'=[(a,.ins x fs)]/\R fs,rt:=λ_ _=>False} (startD N (.ptr a::ds)) [(a,.ins x [])]):CalM P w K mg base (k+1) x (p0::ps) S:=by
 refine#[C,f,fd,hns,j_,mk,Fun.okC T F (λvs H Q E h=>?_) (λcdv A outer s H vs Q E hr h=>?_),hb]
 .obtain⟨a,dx,us,H1,F,ds,rfl,_,_,_,_,_,rs,R,h,_⟩:=h;rw[Fe,Fe,rs.length,len ds R h]
 .obtain⟨a,dx,us,H1,F1,ds,rfl,rfl,ha,t_,n9,fh,rs,R,h,q⟩:=h
  let H:Hp:=upd (upd H1 dx (.own a)) a (.ins C dx [])
  let B:Hp:=λb=>if b=a then m_ else H b
  have NX:B a=none:=if_pos rfl;have hB:∀{b:KF},b≠a->B b=H b:=λ{b} h=>if_neg h;have B_:∀{b:KF} {o:HO},H1 b=be o->b≠a/\H b=be o:=λ{b o} e=>by
   have n1:b≠a:=cJ e ha;exact#[n1,by show upd _ _ _ b=_;rw[ay n1,ay (cJ e t_)];exact e]
  letI:Jm:={B:=B,F0:=F1,RX:=λ_ _ _=>False,RM:=λ_ _ _ _=>False}
  have hx:XOkM (cxOf (CX1 P w) P w K mg base N qual (ah st) f cdv A outer s H E).nox:=λσ z M' F' H' s' e C od y fs I kk rr hR er _=>hR.elim;obtain⟨t,ht,hq⟩:=a9 cdv A outer s H E inferInstance hr hx;have Fa:F1 a=none:=fh.free ha;have k0:Kept B F1 F1 H:=⟨λb o e=>by
   by_cases n:b=a
   .rw[n,NX]at e;cases e
   .rw[hB n]at e;exact e,λb o e=>(B_ (fh b o e)).2,Same.refl F1,λ_ h _=>h,rfl,Same.refl F1,λ_ h _=>h⟩
  have IE:Reps K F1 (.ptr a::ds) (.ref a::us):=reps_cons.mpr #[_,_,rfl,rep_ptr.mpr rfl,rs];have Pd:RepM K F1 H [(a,.ins x [])]:=⟨by simp[az],λb o hb=>by
   have e:=E6.mp hb;cases e;exact#[C,dx,[],hns,aG,repf_nil.mpr rfl],λb hb=>by
   have e:b=a:=by simpa[az]using hb
   rw[e];exact Fa⟩
  have r0:RepZ K B F1 H (startD N (.ptr a::ds)) (L2.start N (.ref a::us)) [(a,.ins x [])]:=⟨fg IE,so IE,Pd,λb hb=>by
   have e:b=a:=by simpa[az]using hb
   rw[e];exact NX⟩
  refine#[_,ht.out.nox,F1,F1,_,_,k0,r0,_,hq a ds R (λ_ _ _ _ z=>z) h,#[λz' s' M' F' H' kk hn r=>?_,λd v M' F' H' kk hd rd NV mb=>hd.elim,λ_ _ _ _ _ _ h _=>h.elim,λ_ _ _ _ _ _ h _=>h.elim]];obtain⟨fs,rfl,hR⟩:=hn;obtain⟨C',A_,ws,l6,j6,rf⟩:=r.rm.ok a _ (E6.mpr rfl);have IW:nsIn K Pi x=be (be (.ref C')):=l6;rw[hns]at IW;cases IW;exact q fs ws A_ F' H' ⟨kk.f0,kk.fh,λb o e=>kk.bh b o (by show B b=be o;rw[hB (B_ e).1];exact(B_ e).2),λb h1 h2=>kk.out b h1 (by
   show B b≠m_;cases e:H1 b with
   |none=>exact absurd e h2
   |some o=>rw[hB (B_ e).1,(B_ e).2];exact λz=>nomatch z)⟩ hR j6 (r.rm.fr a (by simp[az])) rf
end
section
variable {P:QH}{w:QL}{K:Ex}{mg:t6->Option KB}{base:QN}{n:Nat}{x m:t6}{ps:List t6}
variable{S:SpM}
def CalMth.one(h:CalMth P w K mg base n x m ps (lSpM K S)):∀y,y∈[x]->CalMth P w K mg base n y m ps (lSpM K ((λ_=>S) y)):=λy hy=>by
 rw[E6.mp hy];exact h
def sA{f:KF}{fd:QR}{sp:Sp}(h:∀vs H Q E,¬sp vs H Q E):FnOk P w K mg base (CX1 P w) n f fd ps sp:=#[λvs H Q E q=>(h _ _ _ _ q).elim,λA outer s H args us vs Q E _ _ _ _ q=>(h _ _ _ _ q).elim]
def sB(h:∀ds M R RX,¬S ds M R RX):∀vs H Q E,¬lSpM K S vs H Q E:=by
 rintro vs H Q E⟨F,ds,M,_,_,_,R,RX,q,_⟩;exact h ds M R RX q
def CalMth.never{qual:t6}{st:P3}(T:Txm K x m qual st ps)(h:∀ds M R RX,¬S ds M R RX):CalMth P w K mg base n x m ps (lSpM K S):=by
 obtain⟨C,f,fd,h1,h2,h3,T,hb⟩:=T;exact#[C,f,fd,h1,h2,h3,sA (sB h),hb]
def CalMM.never{st:P3}(T:Tx K mg x st ps)(h:∀ds M R RX,¬S ds M R RX):CalMM P w K mg base n x ps S:=by
 obtain⟨f,fd,T,hb,hm⟩:=T;exact#[f,fd,sA (sB h),hb,T.kp,hm]
end
def jS(S:SpM):SpM:=λds M R RX=>∃M1 M2,M=M1++M2/\S ds M2 (λd M'=>R d (M1++M')) λx fs M'=>RX x fs (M1++M')
def keys_app{M1 M2:MS}{a:KF}:a∈az (M1++M2)↔a∈az M1\/a∈az M2:=by unfold az;rw[FD,Fy]
def sC{K:Ex}{S:SpM}{vs:List V}{H:Hp}{Q:VK}{E:XK}(h:lSpM K (jS S) vs H Q E):lSpM K S vs H Q E:=by
 obtain⟨F,ds,M,fh,rs,rm,R,RX,⟨M1,M2,rfl,hS⟩,q,qx⟩:=h;have nd:(az M1++az M2).Nodup:=by have:=rm.nd;unfold az at this ⊢;rw[FD]at this;exact this
 have LQ:∀{a:KF},a∈az M1->a∉az M2:=λ{a} h1 h2=>(Gz.mp nd).2.2 a h1 a h2 rfl;have Pe:RepM K F H M2:=#[(Gz.mp nd).2.1,λa o h=>rm.ok a o (Fx _ h),λa h=>rm.fr a (keys_app.mpr (.inr h))];have up:∀{M':MS} {F' H':Hp},GrowM M2 M' F H F' H'->RepM K F' H' M'->GrowM (M1++M2) (M1++M') F H F' H'/\RepM K F' H' (M1++M'):=λ{M' F' H'} g r=>by
  have NY:∀{a:KF},a∈az M1->H a≠none:=λ{a} h=>rm.here (keys_app.mpr (.inl h));have LR:∀{a:KF},a∈az M1->a∉az M':=λ{a} h1 h2=>by
   rcases g.ks a h2 with z|z
   .exact LQ h1 z
   .exact NY h1 z
  refine#[#[g.ff,g.fh,λb o nb e=>g.hh b o (λz=>nb (keys_app.mpr (.inr z))) e,λb nb h1 h2=>g.out b (λz=>nb (keys_app.mpr (.inr z))) h1 h2,λb hb=>?_],#[?_,λa o h=>?_,λa h=>?_]]
  .rcases keys_app.mp hb with z|z
   .exact .inl (keys_app.mpr (.inl z))
   .exact(g.ks b z).imp (λz=>keys_app.mpr (.inr z)) id
  .unfold az;rw[FD];exact Gz.mpr #[(Gz.mp nd).1,r.nd,λa h1 b h2 e=>LR h1 (e ▸ h2)]
  .rcases Fy.mp h with z|z
   .have ka:a∈az M1:=cr z;exact(rm.ok a o (Gd _ z)).mono g.ff λo e=>g.hh a o (LQ ka) e
   .exact r.ok a o z
  .rcases keys_app.mp h with z|z
   .exact g.out a (LQ z) (rm.fr a (keys_app.mpr (.inl z))) (NY z)
   .exact r.fr a z
 exact#[F,ds,M2,fh,rs,Pe,_,_,hS,λd v M' F' H' g hd rd m'=>q d v _ F' H' (up g m').1 hd rd (up g m').2,λx fs C od M' F' H' g hR er m'=>qx x fs C od _ F' H' (up g m').1 hR er (up g m').2]
section
variable {P:QH}{w:QL}{K:Ex}{mg:t6->Option KB}{base:QN}{n:Nat}{x m:t6}{ps:List t6}{S:SpM}
def CalMM.frame(C:CalMM P w K mg base n x ps S):CalMM P w K mg base n x ps (jS S):=C.imp λ_ _ _ _ h=>sC h
def CalMth.frame(C:CalMth P w K mg base n x m ps (lSpM K S)):CalMth P w K mg base n x m ps (lSpM K (jS S)):=C.imp λ_ _ _ _ h=>sC h
end
def nilX(S:SpX):SpM:=λds M R RX=>M=[]/\∃(R0:D->Prop) (Jy:XD),S ds R0 Jy/\(∀d M',R0 d->R d M')/\∀x fs M',Jy x fs->RX x fs M'
def CalMM.nilX{P:QH}{w:QL}{K:Ex}{mg:t6->Option KB}{base:QN}{n:Nat}{x:t6}{ps:List t6}{S:SpX}(C:CalMM P w K mg base n x ps (nilX S)):CalX P w K mg base n x ps S:=C.toX λ_ R RX h=>#[rfl,R,RX,h,λ_ _ h=>h,λ_ _ _ h=>h]
end My
namespace My
section
variable {K:Ex}{h:QN}{mg:t6->Option KB}{x y m q f:t6}{st:P3}{ps:List t6}
abbrev NsC(K:Ex)(x:t6)(C:KF):Prop:=nsIn K Pi x=be (be (.ref C))
variable{C:KF}
def NsC.uniq{D:KF}(a:NsC K x C)(b:NsC K x D):C=D:=by
 have e:=a.symm.trans b;cases e;rfl
abbrev BindA(x q:t6)(st:P3)(ps:List t6):Prop:=∀(kV doc pm:KB) (an:Option KF) (cdv ct:KB) (us:List KB),us.length=ps.length->Rl (fnOf x q (bJ st) (aK st) (ah st) .none kV doc pm an cdv ct) #[us,[]]=pure (ps.zip us)
def FnIn(K:Ex)(x:t6)(st:P3):Prop:=∃f fd,NsC K x f/\Fun K x x st f fd
variable{oc kV dc pm cd ct:KB}{od an:Option KF}{sl:Array (Option KB)}
def fnIn_mk{f:KF}(a:nsIn K Pi x=be (be (.ref f)))(l:K.lookup f=be #[oc,od,.func (fnOf x x (bJ st) (aK st) (ah st) .none kV dc pm an cd ct),sl])(c:codeIn K cd x=true)(k:keepIn K (.ref f)=true):FnIn K x st:=#[f,_,a,fT l c k]
def FnIn.tx(T:FnIn K x st)(X:K.In h)(G:h.Ns Pi mg)(b:BindA x x st ps):Tx K mg x st ps:=by
 obtain⟨f,fd,a,F⟩:=T;exact#[f,fd,F,F.binds b,mg_of X G a]
def FnIn.law{p:t6}(T:FnIn K x st)(X:K.In h)(G:h.Ns Pi mg){fa:KF}(LS:mg x=be (.ref fa))(b:∀(kV doc pm:KB) (an:Option KF) (cdv ct v:KB),Rl (fnOf x x (bJ st) (aK st) (ah st) .none kV doc pm an cdv ct) #[[v],[]]=pure [(p,v)]):∃fd,(∀(s:KM) (v:KB),RN s fd #[[v],[]] [(p,v)])/\Fun K x x st fa fd:=by
 obtain⟨f,fd,a,F⟩:=T;have e:=LS.symm.trans (mg_of X G a);cases e;refine#[fd,λs v=>?_,F];obtain⟨oc,od,kV,doc,pm,an,cdv,ct,osl,rfl,lk,g7⟩:=F.ex;exact .of_eq (b _ _ _ _ _ _ v)
variable{us:List KB}
def bN{x:t6}{xs:List t6}(h:us.length=(x::xs).length):∃u t,us=u::t/\t.length=xs.length:=by
 cases us with
 |nil=>cases h
 |cons u t=>exact#[u,t,rfl,Nat.succ.inj h]
def len_0(h:us.length=([]:List t6).length):us=[]:=HJ h
variable{x0:t6}
def zZ(b:∀(kV doc pm:KB) (an:Option KF) (cdv ct u0:KB),Rl (fnOf x q (bJ st) (aK st) (ah st) .none kV doc pm an cdv ct) #[[u0],[]]=pure [(x0,u0)]):BindA x q st [x0]:=λkV doc pm an cdv ct us hl=>by
 obtain⟨u0,t0,rfl,h0⟩:=bN hl;cases len_0 h0;exact b kV doc pm an cdv ct u0
variable{x1:t6}
def bind2(b:∀(kV doc pm:KB) (an:Option KF) (cdv ct u0 u1:KB),Rl (fnOf x q (bJ st) (aK st) (ah st) .none kV doc pm an cdv ct) #[[u0,u1],[]]=pure [(x0,u0),(x1,u1)]):BindA x q st [x0,x1]:=λkV doc pm an cdv ct us hl=>by
 obtain⟨u0,t0,rfl,h0⟩:=bN hl;obtain⟨u1,t1,rfl,h1⟩:=bN h0;cases len_0 h1;exact b kV doc pm an cdv ct u0 u1
variable{x2:t6}
def bind3(b:∀(kV doc pm:KB) (an:Option KF) (cdv ct u0 u1 u2:KB),Rl (fnOf x q (bJ st) (aK st) (ah st) .none kV doc pm an cdv ct) #[[u0,u1,u2],[]]=pure [(x0,u0),(x1,u1),(x2,u2)]):BindA x q st [x0,x1,x2]:=λkV doc pm an cdv ct us hl=>by
 obtain⟨u0,t0,rfl,h0⟩:=bN hl;obtain⟨u1,t1,rfl,h1⟩:=bN h0;obtain⟨u2,t2,rfl,h2⟩:=bN h1;cases len_0 h2;exact b kV doc pm an cdv ct u0 u1 u2
def bind4{x3:t6}(b:∀(kV doc pm:KB) (an:Option KF) (cdv ct u0 u1 u2 u3:KB),Rl (fnOf x q (bJ st) (aK st) (ah st) .none kV doc pm an cdv ct) #[[u0,u1,u2,u3],[]]=pure [(x0,u0),(x1,u1),(x2,u2),(x3,u3)]):BindA x q st [x0,x1,x2,x3]:=λkV doc pm an cdv ct us hl=>by
 obtain⟨u0,t0,rfl,h0⟩:=bN hl;obtain⟨u1,t1,rfl,h1⟩:=bN h0;obtain⟨u2,t2,rfl,h2⟩:=bN h1;obtain⟨u3,t3,rfl,h3⟩:=bN h2;cases len_0 h3;exact b kV doc pm an cdv ct u0 u1 u2 u3
def bind5{x3 x4:t6}(b:∀(kV doc pm:KB) (an:Option KF) (cdv ct u0 u1 u2 u3 u4:KB),Rl (fnOf x q (bJ st) (aK st) (ah st) .none kV doc pm an cdv ct) #[[u0,u1,u2,u3,u4],[]]=pure [(x0,u0),(x1,u1),(x2,u2),(x3,u3),(x4,u4)]):BindA x q st [x0,x1,x2,x3,x4]:=λkV doc pm an cdv ct us hl=>by
 obtain⟨u0,t0,rfl,h0⟩:=bN hl;obtain⟨u1,t1,rfl,h1⟩:=bN h0;obtain⟨u2,t2,rfl,h2⟩:=bN h1;obtain⟨u3,t3,rfl,h3⟩:=bN h2;obtain⟨u4,t4,rfl,h4⟩:=bN h3;cases len_0 h4;exact b kV doc pm an cdv ct u0 u1 u2 u3 u4
structure ClF(K:Ex)(x:Str)(C:KF):Prop where
 ns:NsC K x C
 cl:Cls K C
 ha:findIn K (.ref C) "__class__"=be (be (.builtin "object.__class__"))
 hn:specialIn K (.builtin "object.__class__") "__get__"=be (be (.builtin "getset_descriptor.__get__"))
 ht:takesIn K (.builtin "object.__class__")=be true
 hm:mroIn K C (.type "object")=be true
def ClIn(K:Ex)(x:t6):Prop:=∃C,ClF K x C
def clIn_mk(a:nsIn K Pi x=be (be (.ref C)))(pg:plainGet K C Str.empty=true)(hd:hasDictIn K C=true)(po:plainOver K C=true)(sa:findIn K (.ref C) "__setattr__"=be (be (.builtin "object.__setattr__")))
  (ha:findIn K (.ref C) "__class__"=be (be (.builtin "object.__class__"))) (hn:specialIn K (.builtin "object.__class__") "__get__"=be (be (.builtin "getset_descriptor.__get__"))) (ht:takesIn K (.builtin "object.__class__")=be true) (hm:mroIn K C (.type "object")=be true):ClIn K x:=#[C,a,#[pg,hd,po,sa],ha,hn,ht,hm]
def ClIn.i(c:ClIn K x)(X:K.In h)(G:h.Ns Pi mg):∃C,ClsI K mg x C:=by
 obtain⟨C,k⟩:=c;exact#[C,k.ns,mg_of X G k.ns,k.cl,k.ha,k.hn,k.ht,k.hm,yR]
def NoIn(K:Ex)(x f:t6):Prop:=∃C,NsC K x C/\findIn K (.ref C) f=be m_
def noIn_mk(a:nsIn K Pi x=be (be (.ref C)))(b:findIn K (.ref C) f=be m_):NoIn K x f:=#[C,a,b]
def ClIn.a(c:ClIn K x)(n:NoIn K x f):ClsA K x f:=by
 obtain⟨C,k⟩:=c;obtain⟨D,a,b⟩:=n;cases NsC.uniq k.ns a;exact#[C,a,k.cl,b]
def NoIn.all(n:NoIn K x f):∀C,nsIn K Pi x=be (be (.ref C))->findIn K (.ref C) f=be none:=λC hC=>by
 obtain⟨D,a,b⟩:=n;cases NsC.uniq hC a;exact b
def MtIn(K:Ex)(x m q:t6)(st:P3):Prop:=∃C f fd,NsC K x C/\Meth K C m f/\Fun K m q st f fd
def mtIn_mk{f:KF}(a:nsIn K Pi x=be (be (.ref C)))(b:findIn K (.ref C) m=be (be (.ref f)))(i:isFn K (.ref f)=true)(l:K.lookup f=be #[oc,od,.func (fnOf m q (bJ st) (aK st) (ah st) .none kV dc pm an cd ct),sl])(c:codeIn K cd q=true)(k:keepIn K (.ref f)=true):MtIn K x m q st:=#[C,f,_,a,#[b,i,k],fT l c k]
def MtIn.txm(T:MtIn K x m q st)(c:ClIn K x)(b:BindA m q st ps):Txm K x m q st ps:=by
 obtain⟨C,k⟩:=c;obtain⟨D,f,fd,a,mt,F⟩:=T;cases NsC.uniq k.ns a;exact#[C,f,fd,a,k.cl,mt,F,F.binds b]
def InIn(K:Ex)(x q:t6)(st:P3):Prop:=∃C f fd,NsC K x C/\Mk K C f/\Fun K "__init__" q st f fd
def inIn_mk{f:KF}(a:nsIn K Pi x=be (be (.ref C)))(mk:makesIn K C=true)(b:findIn K (.ref C) "__init__"=be (be (.ref f)))(i:isFn K (.ref f)=true)(kp:keepIn K (.ref C)=true)(l:K.lookup f=be #[oc,od,.func (fnOf "__init__" q (bJ st) (aK st) (ah st) .none kV dc pm an cd ct),sl])(c:codeIn K cd q=true)(k:keepIn K (.ref f)=true):InIn K x q st:=#[C,f,_,a,#[mk,b,i,kp],fT l c k]
def Txi(K:Ex)(mg:t6->Option KB)(x q:t6)(st:P3)(ps:List t6):Prop:=∃C f fd,NsC K x C/\mg x=be (.ref C)/\Mk K C f/\Fun K "__init__" q st f fd/\Binds K fd ps []
def InIn.txi(T:InIn K x q st)(X:K.In h)(G:h.Ns Pi mg)(b:BindA "__init__" q st ps):Txi K mg x q st ps:=by
 obtain⟨C,f,fd,a,mk,F⟩:=T;exact#[C,f,fd,a,mg_of X G a,mk,F,F.binds b]
def CiIn(K:Ex)(x:t6)(i:Int):Prop:=∃t,nsIn K Pi x=be (be (.int i t))
def CsIn(K:Ex)(x y:t6):Prop:=∃t,nsIn K Pi x=be (be (.str y t))
def ciIn_mk{i:Int}{t:Tok}(a:nsIn K Pi x=be (be (.int i t))):CiIn K x i:=#[t,a]
def csIn_mk{t:Tok}(a:nsIn K Pi x=be (be (.str y t))):CsIn K x y:=#[t,a]
def CiIn.g{i:Int}(c:CiIn K x i)(X:K.In h)(G:h.Ns Pi mg):∃t,mg x=be (.int i t):=let ⟨t,a⟩:=c;#[t,mg_of X G a]
def CsIn.g(c:CsIn K x y)(X:K.In h)(G:h.Ns Pi mg):∃t,mg x=be (.str y t):=let ⟨t,a⟩:=c;#[t,mg_of X G a]
def NnIn(K:Ex)(x:t6):Prop:=nsIn K Pi x=be m_
def nnIn_mk(a:nsIn K Pi x=be m_):NnIn K x:=a
structure ErF(K:Ex)(x:Str)(bm:List KB)(C N:KF):Prop where
 ns:NsC K x C
 kp:keepIn K (.ref C)=true
 ob:∃nm q bs sn sub ab col dd k0 k1 k2 k3 k5,K.lookup C=be (Q8 nm q C N bs bm true sn sub ab col dd k0 k1 k2 k3 k5 "ValueError.__new__")
structure ErN(K:Ex)(N:KF):Prop where
 ok:nsOkIn K N=true
 no:nsIn K N "__init__"=be m_
def EbIn(K:Ex):Prop:=∃C N,ErF K "MotifError" Exc.veLine C N/\ErN K N
def EdIn(K:Ex)(x:t6)(C N:KF):Prop:=∃B,NsC K "MotifError" B/\ErF K x (.ref B::Exc.veLine) C N
def E0In(K:Ex)(x:t6):Prop:=∃C N,EdIn K x C N/\ErN K N
def E1In(K:Ex)(x q:t6)(st:P3):Prop:=∃C N f fd,EdIn K x C N/\findIn K (.ref C) "__init__"=be (be (.ref f))/\isFn K (.ref f)=true/\Fun K "__init__" q st f fd
def EaIn(K:Ex)(x:t6):Prop:=∃C,NsC K x C/\findIn K (.ref C) "__setattr__"=be (be (.builtin "object.__setattr__"))
def EgIn(K:Ex)(x:t6):Prop:=∃C,NsC K x C/\findIn K (.ref C) "__getattribute__"=be (be (.builtin "BaseException.__getattribute__"))/\findIn K (.ref C) "__getattr__"=be m_
def EiIn(K:Ex)(x:t6):Prop:=∃M,NsC K x M/\readsIn K M (.type "type")=true/\findCls K (.ref M) (.type "type") "__init__"=be (.val (.builtin "ValueError.__init__"))/\specialIn K (.ref M) "__getattribute__"=be (be (.builtin "type.__getattribute__"))
def EmIn(K:Ex)(x y:t6):Prop:=∃C D,NsC K x C/\NsC K y D/\mroIn K C (.ref D)=be (subE x y)
section
variable {B C D N:KF}{nm qn:t6}{bs:List KB}{sn:List t6}{sub:List KB}{ab:Bool}{col:Option Bool}{dd:Option KF}{k0 k1 k2 k3 k5:Option KB}{nc:KB}{nd:Option KF}{ne:Array DictEntry}{np:Nat}{nl:Array (Option KB)}
def ebIn_mk(a:nsIn K Pi "MotifError"=be (be (.ref C)))(kp:keepIn K (.ref C)=true)(o:K.lookup C=be (Q8 nm qn C N bs Exc.veLine true sn sub ab col dd k0 k1 k2 k3 k5 "ValueError.__new__"))(nk:K.lookup N=be #[nc,nd,.dict ne np,nl])(al:ne.toList.all (λe=>match e.key with|.str _ _=>true|_=>false)=true)(ni:nsIn K N "__init__"=be m_):EbIn K:=#[C,N,#[a,kp,_,_,_,_,_,_,_,_,_,_,_,_,_,o],rN nk al,ni]
def e0In_mk(b:nsIn K Pi "MotifError"=be (be (.ref B)))(a:nsIn K Pi x=be (be (.ref C)))(kp:keepIn K (.ref C)=true)(o:K.lookup C=be (Q8 nm qn C N bs (.ref B::Exc.veLine) true sn sub ab col dd k0 k1 k2 k3 k5 "ValueError.__new__"))(nk:K.lookup N=be #[nc,nd,.dict ne np,nl])(al:ne.toList.all (λe=>match e.key with|.str _ _=>true|_=>false)=true)(ni:nsIn K N "__init__"=be m_):E0In K x:=#[C,N,#[B,b,a,kp,_,_,_,_,_,_,_,_,_,_,_,_,_,o],rN nk al,ni]
def e1In_mk{f:KF}{oc:KB}{od an:Option KF}{sl:Array (Option KB)}{kV dc pm cd ct:KB}(b:nsIn K Pi "MotifError"=be (be (.ref B)))(a:nsIn K Pi x=be (be (.ref C)))(kp:keepIn K (.ref C)=true)(o:K.lookup C=be (Q8 nm qn C N bs (.ref B::Exc.veLine) true sn sub ab col dd k0 k1 k2 k3 k5 "ValueError.__new__"))
  (j:findIn K (.ref C) "__init__"=be (be (.ref f))) (i:isFn K (.ref f)=true) (l:K.lookup f=be #[oc,od,.func (fnOf "__init__" q (bJ st) (aK st) (ah st) .none kV dc pm an cd ct),sl]) (c:codeIn K cd q=true) (k:keepIn K (.ref f)=true):E1In K x q st:=#[C,N,f,_,#[B,b,a,kp,_,_,_,_,_,_,_,_,_,_,_,_,_,o],j,i,fT l c k]
def emIn_mkT(e:subE x y=true)(a:nsIn K Pi x=be (be (.ref C)))(c:nsIn K Pi y=be (be (.ref D)))(d:mroIn K C (.ref D)=be true):EmIn K x y:=#[C,D,a,c,e ▸ d]
def emIn_mkF(e:subE x y=false)(a:nsIn K Pi x=be (be (.ref C)))(c:nsIn K Pi y=be (be (.ref D)))(d:mroIn K C (.ref D)=be false):EmIn K x y:=#[C,D,a,c,e ▸ d]
end
def EbIn.k(e:EbIn K)(X:K.In h)(G:h.Ns Pi mg):∃C N bm,ErrK K mg "MotifError" C N bm/\ErrN K N:=by
 obtain⟨C,N,k,n⟩:=e;exact#[C,N,_,#[k.ns,mg_of X G k.ns,k.kp,k.ob,rM],n.ok,n.no]
def EdIn.k{N:KF}(e:EdIn K x C N)(b:EbIn K)(X:K.In h)(G:h.Ns Pi mg):∃bm,ErrK K mg x C N bm:=by
 obtain⟨B,hB,k⟩:=e;obtain⟨B',N',kb,n⟩:=b;cases NsC.uniq kb.ns hB;obtain⟨_,_,_,_,_,_,_,_,_,_,_,_,_,o⟩:=kb.ob;exact#[_,k.ns,mg_of X G k.ns,k.kp,k.ob,yQ o rfl n.ok n.no]
def E0In.k(e:E0In K x)(b:EbIn K)(X:K.In h)(G:h.Ns Pi mg):∃C N bm,ErrK K mg x C N bm/\ErrN K N:=by
 obtain⟨C,N,k,n⟩:=e;obtain⟨bm,z⟩:=k.k b X G;exact#[C,N,bm,z,n.ok,n.no]
def ErrK.a'{N:KF}{bm:List KB}(k:ErrK K mg x C N bm)(a:EaIn K x):∃C cd,ErrA K x C cd:=by
 obtain⟨D,hD,sa⟩:=a;cases NsC.uniq k.ns hD;exact#[C,k.a sa]
def E1In.a(e:E1In K x q st)(b:EbIn K)(a:EaIn K x)(X:K.In h)(G:h.Ns Pi mg):∃C cd,ErrA K x C cd:=by
 obtain⟨C,N,f,fd,k,_⟩:=e;obtain⟨bm,z⟩:=k.k b X G;exact z.a' a
def E1In.c(e:E1In K x q st)(b:EbIn K)(X:K.In h)(G:h.Ns Pi mg):∃C N bm,ErrK K mg x C N bm:=by
 obtain⟨C,N,f,fd,k,_⟩:=e;obtain⟨bm,z⟩:=k.k b X G;exact#[C,N,bm,z]
def EiIn.b(e:EiIn K x)(X:K.In h)(G:h.Ns Pi mg):∃M,BaseK K mg x M:=by
 obtain⟨M,a,b,c,d⟩:=e;exact#[M,mg_of X G a,b,c,d]
def EgIn.g(e:EgIn K x)(a:∃C cd,ErrA K x C cd)(n:NoIn K x f):ErrG K f x:=by
 obtain⟨C,h1,h2,h3⟩:=e;obtain⟨D,cd,ea⟩:=a;cases NsC.uniq ea.ns h1;exact#[C,cd,ea,h2,h3,n.all C h1]
def AllP(p:t6->Prop):List t6->Prop
 |[]=>True
 |a::l=>p a/\AllP p l
def AllP.mem{p:t6->Prop}:∀{l:List t6},AllP p l->∀x∈l,p x
 |_::_,h,_,.head _=>h.1
 |_::_,h,_,.tail _ m=>AllP.mem h.2 _ m
def Aa{es:List t6}(c:AllP (λx=>∃C N bm,ErrK K mg x C N bm) es)(s:AllP (λx=>AllP (λy=>EmIn K x y) es) es):ErrsK K mg es:=by
 refine#[c.mem,λx hx y hy C C' h1 h2=>?_];obtain⟨A,B,a,b,m⟩:=(s.mem x hx).mem y hy;cases NsC.uniq a h1;cases NsC.uniq b h2;exact m
end
structure Bx where
 P:QH
 w:QL
 K:Ex
 mg:t6->Option KB
 base:QN
abbrev Bx.T(V:Bx)(x:t6)(st:P3)(ps:List t6):Prop:=Tx V.K V.mg x st ps
abbrev Bx.Tm(V:Bx)(x m q:t6)(st:P3)(ps:List t6):Prop:=Txm V.K x m q st ps
abbrev Bx.Ti(V:Bx)(x q:t6)(st:P3)(ps:List t6):Prop:=Txi V.K V.mg x q st ps
abbrev Bx.Ek(V:Bx)(es:List t6):Prop:=ErrsK V.K V.mg es
abbrev Bx.m(V:Bx)(x:t6):Prop:=V.mg x=m_
abbrev Bx.gi(V:Bx)(x:t6)(i:Int):Prop:=∃t,V.mg x=be (.int i t)
abbrev Bx.gs(V:Bx)(x y:t6):Prop:=∃t,V.mg x=be (.str y t)
abbrev Bx.a(V:Bx)(x f:t6):Prop:=ClsA V.K x f
abbrev Bx.i(V:Bx)(x:t6):Prop:=∃C,ClsI V.K V.mg x C
abbrev Bx.D(V:Bx)(n:Nat)(x:t6)(ps:List t6)(S:SpD):Prop:=CalD V.P V.w V.K V.mg V.base n x ps S
abbrev Bx.X(V:Bx)(n:Nat)(x:t6)(ps:List t6)(S:SpX):Prop:=CalX V.P V.w V.K V.mg V.base n x ps S
abbrev Bx.MM(V:Bx)(n:Nat)(x:t6)(ps:List t6)(S:SpM):Prop:=CalMM V.P V.w V.K V.mg V.base n x ps S
abbrev Bx.M(V:Bx)(n:Nat)(x:t6)(ps:List t6)(S:SiD):Prop:=CalM V.P V.w V.K V.mg V.base n x ps S
abbrev Bx.E(V:Bx)(n:Nat)(x:t6)(ps:List t6)(S:SiD):Prop:=CalE V.P V.w V.K V.mg V.base n x ps S
abbrev Bx.Q(V:Bx)(n:Nat)(x m:t6)(ps:List t6)(S:SpM):Prop:=CalMth V.P V.w V.K V.mg V.base n x m ps (lSpM V.K S)
abbrev Bx.n(V:Bx)(x:t6):Prop:=∃C N bm,ErrK V.K V.mg x C N bm/\ErrN V.K N
abbrev Bx.b(V:Bx)(x:t6):Prop:=∃M,BaseK V.K V.mg x M
abbrev Bx.ea(V:Bx)(x:t6):Prop:=∃C cd,ErrA V.K x C cd
abbrev Bx.x(V:Bx)(f:t6)(ys:List t6):Prop:=∀y∈ys,ErrG V.K f y
section
variable {P:QH}{w:QL}{K:Ex}{mg:t6->Option KB}{base:QN}
variable{N ps:List t6}
def Txi.okI{x qual:t6}{st:P3}{p0:t6}{k:Nat}{S:SiD}(T:Txi K mg x qual st (p0::ps))(F:FnScope (p0::N) (p0::ps) (ah st))(len:∀ds R,S ds R->ds.length=ps.length)
  (a9:∀(f:KF) (cdv:KB) (A:QM) (outer:List Rt) (s:KM) (H:Hp) (E:XK) (J:Jx),Room k (A.deeper (QX qual (ah st) s.heap.objs.size f cdv))->
   ∃t,WDI (cxOf (Exc.CX1 P w) P w K mg base (p0::N) qual (ah st) f cdv A outer s H E).nox x (aK st) t/\∀ds R,S ds R->t (m_::startD N ds) [] R):CalM P w K mg base (k+1) x (p0::ps) S:=by
 obtain⟨C,f,fd,a,b,c,d,e⟩:=T;exact Cls.okIW d e F len a b c (a9 f)
def Txi.okIM{x qual:t6}{st:P3}{p0:t6}{k:Nat}{S:SiD}(T:Txi K mg x qual st (p0::ps))(F:FnScope N (p0::ps) (ah st))(len:∀ds R,S ds R->ds.length=ps.length)
  (a9:∀(f:KF) (cdv:KB) (A:QM) (outer:List Rt) (s:KM) (H:Hp) (E:XK) (J:Jm),Room k (A.deeper (QX qual (ah st) s.heap.objs.size f cdv))->XOkM (cxOf (Exc.CX1 P w) P w K mg base N qual (ah st) f cdv A outer s H E).nox->
   ∃t,MSs (cxOf (Exc.CX1 P w) P w K mg base N qual (ah st) f cdv A outer s H E).nox (aK st) t/\∀a ds R,(∀z M x fs,¬J.RM z M x fs)->S ds R->t {nx:=λ_ M'=>∃fs,M'=[(a,.ins x fs)]/\R fs,rt:=λ_ _=>False} (startD N (.ptr a::ds)) [(a,.ins x [])]):CalM P w K mg base (k+1) x (p0::ps) S:=by
 obtain⟨C,f,fd,a,b,c,d,e⟩:=T;exact Cls.okIM d e F len a b c (a9 f)
end
section
variable {X:Cx}[J:Jx]{a b c e o f6 iter:QG}{es:List QG}{ta tb tc te to ti tj:TD}{tt:TDT}{t:TDA}{pos px:QT}{x:t6}{scope:Q9}
variable{K:Ex}
def itR2:ItOk K (pR (fR (lE K ti) (fR (lE K tj) tNil))) (rF ti tj):=λ{s H B F z P Q} kf rs h1 h2=>by
 refine#[B,F,z,kf,rs,_,h1,λd1 v1 F1 H1 g1 h1 r1=>?_];refine#[B,F1,z,kf.grow g1,rs.grow g1,_,h1,λd2 v2 F2 H2 g2 hd r2=>?_];split at hd
 .rename_i lo g5;obtain⟨bd,hd⟩:=hd;have hl:((E7 (g5-lo).toNat).map λk=>D.int (lo+((k:Nat):Int))).length=(g5-lo).toNat:=by simp
  refine#[lo,g5,by rw[rep_int.mp r1,rep_int.mp r2],bd,h2 _ _ F2 H2 (g1.trans g2) hd #[λk F' H' G hk=>by rw[hl]at hk;exact hk,λk F' H' x H'' G hk hy=>?_,λF' H' G=>by show(g5-lo).toNat<=_;rw[hl];exact E5 _]];rw[hl]at hk;obtain⟨e,rfl⟩:=hy;exact#[e,.int (lo+(k:Int)),by simp[hk],rep_int.mpr rfl]
 .exact hd.elim
def sE(hc:X.calm=true)(S:CompScope X scope x)(hi:WDE X iter ti)(hq:∀cl s₀ H₀ fp,WDT (bA X scope cl x s₀ H₀ fp) c tt)(he:∀cl s₀ H₀ fp,WDE (bA X scope cl x s₀ H₀ fp) f6 te)(hs:autoParam (∀y,zFS X iter y) zA2):
  WDE X (.ListComp f6 [#[.Name x px,iter,[c],0]] scope pos) (rA (dItL ti) tt te):=#[(jG hc S (fM hi.out) (λa b c d=>rB (hq a b c d).out) (λa b c d=>(he a b c d).out) hs).anti λs H Q q=>gp (λ_ _ _=>cmpF.g) itL q]
variable{p2:QT}
def Ab{p1:QT}(hc:X.calm=true)(S:CompScope X scope x)(hm:X.mg "range"=m_)(ha:WDE X a ti)(hb:WDE X b tj)(hq:∀cl s₀ H₀ fp,WDT (bA X scope cl x s₀ H₀ fp) c tt)(he:∀cl s₀ H₀ fp,WDE (bA X scope cl x s₀ H₀ fp) f6 te)(hg:autoParam (Gl X "range") zA0)
  (hs:autoParam (∀y,zFS X (.Call (.Name "range" p1) [a,b] [] p2) y) zA2) (m4:autoParam (zSE X a [b]) zA0) (LU:autoParam (zSE X b []) zA0) (e_:autoParam (QP [a,b] X.env=[(false,QS a X.env),(false,QS b X.env)]) zA0) (LV:autoParam (QP [b] X.env=[(false,QS b X.env)]) zA0):
  WDE X (.ListComp f6 [#[.Name x px,.Call (.Name "range" p1) [a,b] [] p2,[c],0]] scope pos) (rA (rF ti tj) tt te):=#[(jG hc S (vJ hg hm (bz ha.out (bz hb.out pa_nil LU) m4) e_ LV) (λa b c d=>rB (hq a b c d).out) (λa b c d=>(he a b c d).out) hs).anti λs H Q q=>gp (λ_ _ _=>cmpF.g) itR2 q]
def E2(ix:Nat)(Ju:TDI)(te:TD):TSD:=λE z=>Ju z (cmpP te z λd=>match d with|.lst ys=>E.nx (z.set ix (be (.own ys)))|_=>False)
def intsAre_of:∀{ns:List Int} {us:List KB},Vals (ns.map V.int) us->RL us ns:=by
 intro ns;induction ns with
 |nil=>intro us h;cases h;exact .nil
 |cons n ns e=>
  intro us h;cases h with
  |cons r t=>
   obtain⟨_,rfl⟩:=r;exact .cons _ _ (e t)
def Ac(hc:X.calm=true):bC X (.builtin "min") (λxs H Q=>∃(p:KF) (ns:List Int),xs=[.ref p]/\SqL X.K H p (ns.map V.int)/\0<ns.length/\∀m,m∈ns->(∀a∈ns,m<=a)->Q (.int m) H):=by
 intro pins s σ H xs us Q I r h;obtain⟨p,ns,rfl,hq,n9,q⟩:=h;obtain⟨u,rfl,rx⟩:=bS r;cases rx;obtain⟨its,r',pl,hz⟩:=I.list hq;have hi:=intsAre_of r';have hl:=pl.isList;obtain⟨xs,e⟩:=hi.allInts.items;have hns:ns=xs.toList.map (·.1):=by rw[<-hi.numsOf,<-nums_intItems,<-e]
 have ge:0<xs.size:=by
  have h3:=n9;rw[hns,E9,Ge]at h3;exact h3
 rw[e]at hl;refine min_intList (I.ok.hd hc) hl ge λv h' tk hv hk=>?_;obtain⟨t,rfl⟩:=intItems_at hv;obtain⟨h1,h2⟩:=argBest_lt (numAt xs) (xs.size-1);refine#[.int _,H,I.kept hk,#[t,rfl],q _ ?_ λa ha=>?_]
 .rw[hns,numAt_eq];exact getD_mem (by rw[E9,Ge];lia)
 .rw[hns]at ha;obtain⟨j,hj,rfl⟩:=mem_getD ha;rw[E9,Ge]at hj;rw[<-numAt_eq];exact h2 j t8
def rdMinL:RDn:=λds R=>match ds with|[.lst xs]=>∃ns:List Int,xs=ns.map D.int/\0<ns.length/\∀m,m∈ns->(∀a∈ns,m<=a)->R (.int m)|_=>False
def Ad:ca K (λxs H Q=>∃(p:KF) (ns:List Int),xs=[.ref p]/\SqL K H p (ns.map V.int)/\0<ns.length/\∀m,m∈ns->(∀a∈ns,m<=a)->Q (.int m) H) rdMinL:=by
 intro ds vs F H R Q fh h rx q;unfold rdMinL at h;split at h
 .obtain⟨ns,rfl,hl,h⟩:=h;obtain⟨v,r,rfl,h1,h2⟩:=reps_cons.mp rx;rw[reps_nil.mp h2];obtain⟨a,us,rfl,hq,rs⟩:=rep_lst.mp h1;rw[Reps.ints.mp rs]at hq;exact#[a,ns,rfl,fh.seq (SqL.of hq),hl,λm h1 h2=>q _ _ F H (Grow.refl fh) (h m h1 h2) (rep_int.mpr rfl)]
 .exact h.elim
variable{p:QT}
def sF(hc:X.calm=true)(hm:X.mg "min"=m_)(ha:WDA X [e] t)(hg:autoParam (Gl X "min") zA0)(he:autoParam (zSE X e []) zA0)(c9:autoParam (zPL X pos []) zA0):WDE X (.Call (.Name "min" p) [e] [] pos) (dCB rdMinL t):=#[fX (Ac hc) Ad hm PyProof.Rows.boot_min ha.out hg y8 y8 he c9]
def rdTuple:RDn:=λds R=>match ds with|[.lst xs]=>R (.tup xs)|[.tup xs]=>R (.tup xs)|_=>False
def Ae:ca K (λxs H Q=>∃p ys,xs=[.ref p]/\((SqL K H p ys/\∀l,H l=m_->Q (.ref l) (upd H l (.tup ys)))\/(SqT K H p ys/\Q (.ref p) H))) rdTuple:=by
 intro ds vs F H R Q fh h rx q;unfold rdTuple at h;split at h
 .obtain⟨v,r,rfl,h1,h2⟩:=reps_cons.mp rx;rw[reps_nil.mp h2];obtain⟨a,us,rfl,hq,rs⟩:=rep_lst.mp h1;exact#[a,us,rfl,.inl #[fh.seq (SqL.of hq),λl hl=>q _ _ _ _ (Grow.new fh hl _) h (rep_tupS.mpr #[l,us,rfl,aG,rs.mono (aO (fh.free hl) _)])]]
 .obtain⟨v,r,rfl,h1,h2⟩:=reps_cons.mp rx;rw[reps_nil.mp h2];obtain⟨a,us,rfl,hq,rs⟩:=rep_tup_mp h1;exact#[a,us,rfl,.inr #[fh.tup hq,q _ _ F H (Grow.refl fh) h h1]]
 .exact h.elim
def Af(hm:X.mg "tuple"=m_)(ha:WDA X [e] t)(hg:autoParam (Gl X "tuple") zA0)(he:autoParam (zSE X e []) zA0):WDE X (.Call (.Name "tuple" p) [e] [] pos) (dCB rdTuple t):=#[gf wZ Ae hm PyProof.Rows.boot_tuple ha.out hg y8 y8 he]
def Ag(is:List Nat)(ti:TDI)(tb:TSD):TSD:=λE z=>ti z λds=>∃W:Nat->SD->Prop,W 0 z/\(∀(k:Nat) x z,ds[k]?=be x->W k z->tb {E with nx:=W (k+1),ct:=W (k+1),bk:=E.nx} (aP is [.int k,x] z))/\∀z,W ds.length z->E.nx z
variable{is:List Nat}
def Ah{B F0 F1 H1:Hp}{z:SD}{s:L2.St}{E:Ends}{ED:EndsD}{It':It}{g:TG}{tb:TSD}{tbv:TS}{ds:List D}(k1:Kept B F0 F1 H1)(Je:RepS K B F1 H1 z s)(e:EndsOk K B F0 ED E)
  (go:∀k F' H',Same F1 F'->Same F' H'->k<ds.length->It'.go k H') (stop:∀F' H',Same F1 F'->Same F' H'->It'.stop ds.length H')
  (yld:∀k F' H' x H'',Same F1 F'->Same F' H'->k<ds.length->It'.yld k H' x H''->∃T d v,H' T=m_/\x=.ref T/\H''=upd H' T (.tup [.int k,v])/\ds[k]?=be d/\Rep K F' d v)
  (hg:∀(dd:List D) (vs:List V) (T:KF) (z:SD) (s:L2.St) (F H:Hp) (Q:L2.St->Hp->Prop),dd.length=2->H T=be (.tup vs)->Reps K F dd vs->RepS K B F H z s->(∀s',RepS K B F H (aP is dd z) s'->Q s' H)->g (.ref T) s H Q)
  (LN:∀E s H,lS K tb E s H->tbv E s H)
  (hd:∃W:Nat->SD->Prop,W 0 z/\(∀(k:Nat) x z,ds[k]?=be x->W k z->tb {ED with nx:=W (k+1),ct:=W (k+1),bk:=ED.nx} (aP is [.int k,x] z))/\∀z,W ds.length z->ED.nx z):
  ∃W:Nat->Nat->L2.St->Hp->Prop,(∃m,W 0 m s H1)/\∀i m σ H,W i m σ H->
   (It'.stop i H/\E.nx σ H)\/(It'.go i H/\∃N:L2.St->Hp->Prop,(∀σ' H',N σ' H'->∃m',m'<m/\W (i+1) m' σ' H')/\∀x H',It'.yld i H x H'->g x σ H' λσ2 H2=>tbv {E with nx:=N,ct:=N,bk:=E.nx} σ2 H2):=by
 obtain⟨W,w0,b_,out⟩:=hd;refine#[λk m s' H'=>m=ds.length-k/\k<=ds.length/\∃F' z',Kept B F0 F' H'/\Same F1 F'/\RepS K B F' H' z' s'/\W k z',#[ds.length,IV,FB _,F1,z,k1,Same.refl F1,Je,w0],?_];rintro k m s' H'⟨rfl,hk,F',z',k',g',r',w'⟩;by_cases f7:k<ds.length
 .refine .inr #[go k F' H' g' k'.fh f7,λs3 H3=>∃F3 z3,Kept B F0 F3 H3/\Same F1 F3/\RepS K B F3 H3 z3 s3/\W (k+1) z3,λs3 H3 h3=>#[ds.length-(k+1),t8,rfl,f7,h3],λx H'' hy=>?_];obtain⟨T,d,v,hT,rfl,rfl,hd,rd⟩:=yld k F' H' x H'' g' k'.fh f7 hy;have gn:=Grow.new k'.fh hT (.tup [.int k,v]);have k2:=k'.grow gn;have rp:Reps K (upd F' T (.tup [.int k,v])) [.int k,d] [.int k,v]:=reps_cons.mpr #[_,_,rfl,rep_int.mpr rfl,dP (rd.mono gn.ff)];refine hg [.int k,d] _ T z' s' _ _ _ rfl aG rp (r'.grow gn) λs2 ID=>LN _ _ _ ?_;have gF:Same F1 (upd F' T (.tup [.int k,v])):=g'.trans gn.ff;refine#[B,upd F' T (.tup [.int k,v]),upd F' T (.tup [.int k,v]),_,#[k2.bh,k2.fh,Same.refl _,λb h1 _=>h1,k2.eb,k2.jf.trans k2.f0,λb h1 h2=>k2.out b (k2.jo b h1 h2) h2],ID,_,b_ k d z' hd w',?_];have up:∀{F3 H3:Hp},Kept B (upd F' T (.tup [.int k,v])) F3 H3->Kept B F0 F3 H3:=λk3=>#[k3.bh,k3.fh,k2.f0.trans k3.f0,λb h1 h2=>k3.out b (k2.out b h1 h2) h2,k2.eb,k2.jf,k2.jo];exact#[λz3 s3 F3 H3 k3 h3 r3=>#[F3,z3,up k3,gF.trans k3.f0,r3,h3],λd v F3 H3 k3=>e.rt d v F3 H3 (up k3),λz3 s3 F3 H3 k3=>e.nx z3 s3 F3 H3 (up k3),λz3 s3 F3 H3 k3 h3 r3=>#[F3,z3,up k3,gF.trans k3.f0,r3,h3]]
 .have ek:k=ds.length:=by lia
  subst ek;exact .inl #[stop F' H' g' k'.fh,e.nx z' s' F' H' k' (out z' w') r']
variable{body:List P3}
def Ai{es:List QG}{x1:Nat}{tp p1:QT}{tb:TSD}(hp:Q2 (QJ X.prog X.w) X.A X.env X.xe)(hc:X.calm=true)(hm:X.mg "enumerate"=m_)(he:WDE X e te)(hG:DGs X es is)(hb:WDSs X body tb)(a_:autoParam (is.length=2) zA0)(hg:autoParam (Gl X "enumerate") zA0)
  (hn:autoParam ((QO es X.env).length=2) zA0) (i8:autoParam ((QO es X.env).findIdx? (·.1)=none) zA0)
  (hs:autoParam (∀y,zFS X (.Call (.Name "enumerate" p1) [e] [] p2) y) zA2) (m4:autoParam (zSE X e []) zA0) (e_:autoParam (QP [e] X.env=[(false,QS e X.env)]) zA0):
  WDS X (.For (.Tuple es x1 tp) (.Call (.Name "enumerate" p1) [e] [] p2) body [] pos) (Ag is (dItL te) tb):=by
 obtain⟨ug,Jg,kk⟩:=hG;refine#[(cK hp hc (sr hg hm (bz he.out pa_nil m4) e_) (eX hc Jg hn i8) hb.out hs).anti λE s H q=>?_];obtain⟨B,F0,F,z,kp,rs,ED,h,e⟩:=q;refine#[B,F,z,kp.kf,rs,_,h,λd v F1 H1 g1 hd rd=>?_];have key:∀(ds:List D) (p:KF) (vs:List V),SqL X.K F1 p vs->Reps X.K F1 ds vs->(∃W:Nat->SD->Prop,W 0 z/\(∀(k:Nat) x z,ds[k]?=be x->W k z->tb {ED with nx:=W (k+1),ct:=W (k+1),bk:=ED.nx} (aP is [.int k,x] z))/\∀z,W ds.length z->ED.nx z)->_:=λds p vs hq rr hd=>
  Ah (It':=Itel X.K p) (g:=gTup X.K 2 ug) (tbv:=lS X.K tb) (E:=E) (kp.grow g1) (rs.grow g1) e (λk F' H' s1 s2 hk=>#[vs,vs[k]'(by rw[rr.length];exact hk),s2.seq (s1.seq hq),by simp[rr.length,hk]]) (λF' H' s1 s2=>#[vs,s2.seq (s1.seq hq),by rw[rr.length];exact E5 _]) (λk F' H' x H'' s1 s2 hk hy=>by
   obtain⟨T,v,hT,e1,e2,hv⟩:=hy;obtain⟨d,hd,rd⟩:=rr.get' (hv vs (s2.seq (s1.seq hq)));exact#[T,d,v,hT,e1,e2,hd,rd.mono s1]) (λdd n_ T z s F H Q hl hT rp IE hQ=>#[T,n_,rfl,SqT.of hT,by rw[rp.length];exact hl,kk dd n_ z s B F H Q (by rw[hl,a_]) rp IE hQ]) (λ_ _ _ h=>h) hd
 split at hd
 .obtain⟨p,vs,rfl,hq,rr⟩:=rep_lst.mp rd;exact#[p,rfl,#[vs,g1.fh.seq (SqL.of hq)],key _ p vs (SqL.of hq) rr hd]
 .obtain⟨p,vs,rfl,hq,rr⟩:=rep_rol.mp rd;exact#[p,rfl,#[vs,g1.fh.seq hq],key _ p vs hq rr hd]
 .exact hd.elim
def jT:∀{xs:List V},xs.all bp=true->eqVs xs xs=true
 |[],_=>rfl
 |x::xs,h=>by
  rw[FO,Fv]at h;rw[eqVs,jT h.2,GK];cases x<;>first|rfl|(simp[eqV];done)|exact absurd (show false=true from h.1) Fk
variable{H:Hp}
def Aj{pins:List (KF×QY)}{s:KM}{σ:L2.St}{A:QM}(I:Inv X pins σ H s)(hu:A.units<RJ){a b:KF}{xs ys:List V}(h:(SqT X.K H a xs/\SqT X.K H b ys)\/(SqL X.K H a xs/\SqL X.K H b ys))(fx:xs.all bp=true)(fy:ys.all bp=true):SeqAt.EqAt A s (.ref a) (.ref b) (eqVs xs ys):=by
 rcases h with⟨h,h'⟩|⟨h,h'⟩
 .by_cases e:a=b
  .subst e;rw[I.tuple_inj h h',jT fy];exact SeqAt.EqAt.same _
  .obtain⟨its,r1,p1,_⟩:=I.tuple h;obtain⟨d7,r2,p2,_⟩:=I.tuple h';refine SeqAt.EqAt.of_refs e ?_;have:=SeqAt.RcAt.tuples (A:=A) (e:=λj=>eqV (xs.getD j .non) (ys.getD j .non)) p1 p2 hu (λj h1 h2=>by
    rw[Fb]at h1 h2;simp only[GL];exact eqAt_V (Vals.getD r1 h1) (Vals.getD r2 h2) (flat_getD fx) (flat_getD fy))
   rw[Fb,Fb,<-L2.Vals.length r1,<-L2.Vals.length r2]at this;rwa [<-gc]
 .by_cases e:a=b
  .subst e;rw[I.list_inj h h',jT fy];exact SeqAt.EqAt.same _
  .obtain⟨its,r1,p1,_⟩:=I.list h;obtain⟨d7,r2,p2,_⟩:=I.list h';refine SeqAt.EqAt.of_refs e ?_;have l1:=L2.Vals.length r1;have l2:=L2.Vals.length r2;by_cases hl:its.length=d7.length
   .have:=SeqAt.RcAt.lists (A:=A) (e:=λj=>eqV (xs.getD j .non) (ys.getD j .non)) p1.isList p2.isList (by rw[Fb,Fb,hl]) hu (λj h1 h2=>by
     rw[Fb]at h1 h2;simp only[GL];exact eqAt_V (Vals.getD r1 h1) (Vals.getD r2 h2) (flat_getD fx) (flat_getD fy))
    rw[Fb,<-l1]at this;have e2:=gc xs ys;rw[show min xs.length ys.length=xs.length by lia,show(xs.length==ys.length)=true by rw[l1,l2,hl];exact beq_self_eq_true _,GK]at e2;rwa [<-e2]
   .have:=SeqAt.RcAt.lists_lengths (A:=A) p1.isList p2.isList (by rw[Fb,Fb];simpa using hl) hu;have e2:=gc xs ys;rw[show(xs.length==ys.length)=false by rw[l1,l2];simpa using hl,Hw]at e2;rwa [<-e2]
def EqE(K:Ex)(H:Hp)(x y:V)(b:Bool):Prop:=(bp x=true/\bp y=true/\b=eqV x y)\/∃a a' xs ys,x=.ref a/\y=.ref a'/\((SqT K H a xs/\SqT K H a' ys)\/(SqL K H a xs/\SqL K H a' ys))/\xs.all bp=true/\ys.all bp=true/\b=eqVs xs ys
def rEqN(K:Ex):R2:=λx y H Q=>∃(a b:KF) (xs ys:List V) (es:List Bool),x=.ref a/\y=.ref b/\((SqT K H a xs/\SqT K H b ys)\/(SqL K H a xs/\SqL K H b ys))/\xs.length=ys.length/\es.length=xs.length/\(∀j,j<xs.length->EqE K H (xs.getD j .non) (ys.getD j .non) (es.getD j true))/\Q (.bl (es.all id)) H
def sG{es:List Bool}{n:Nat}(h:es.length=n):(E7 n).all (λj=>es.getD j true)=es.all id:=by
 subst h;induction es with
 |nil=>rfl
 |cons e es ih=>
  rw[Fe,HD,FO,G7,FO,<-ih];rfl
def Ak(hu:X.A.units+1<RJ):OpR X (QW .Eq) (rEqN X.K):=by
 intro pins s σ H x y v u Q I rx ry h;obtain⟨a,b,xs,ys,es,rfl,rfl,hs,hl,he,hE,q⟩:=h;cases rx;cases ry;have el:∀{its d7:List KB},Vals xs its->Vals ys d7->∀j (h1:j<its.length) (h2:j<d7.length),SeqAt.EqAt X.A.in1 s its[j] d7[j] (es.getD j true):=λ{its d7} r1 r2 j h1 h2=>by
  have g1:=Vals.getD r1 h1;have g2:=Vals.getD r2 h2;rcases hE j (by rw[L2.Vals.length r1];exact h1)with⟨f1,f2,e⟩|⟨a,a',Qk,Ql,e1,e2,hq,f1,f2,e⟩
  .rw[e];exact eqAt_V g1 g2 f1 f2
  .rw[e1]at g1;rw[e2]at g2;have g1:its[j]=.ref a:=g1;have g2:d7[j]=.ref a':=g2;rw[e,g1,g2];exact Aj I hu hq f1 f2
 rcases hs with⟨ha,hb⟩|⟨ha,hb⟩
 .obtain⟨its,r1,p1,_⟩:=I.tuple ha;obtain⟨d7,r2,p2,_⟩:=I.tuple hb;refine SeqAt.eq_tupleAt (e:=λj=>es.getD j true) p1 p2 t8 (λj h1 h2=>?_) #[.bl (es.all id),H,I,?_,q]
  .rw[Fb]at h1 h2;simp only[GL];exact el r1 r2 j h1 h2
  .rw[Fb,Fb,<-L2.Vals.length r1,<-L2.Vals.length r2,<-hl,Nat.min_self,sG he,beq_self_eq_true,GK];rfl
 .obtain⟨its,r1,p1,_⟩:=I.list ha;obtain⟨d7,r2,p2,_⟩:=I.list hb;have l1:=L2.Vals.length r1;have l2:=L2.Vals.length r2;refine SeqAt.eq_listAt (e:=λj=>es.getD j true) p1.isList p2.isList (by rw[Fb,Fb];lia) t8 (λj h1 h2=>?_) #[.bl (es.all id),H,I,?_,q]
  .rw[Fb]at h1 h2;simp only[GL];exact el r1 r2 j h1 h2
  .rw[Fb,<-l1,sG he];rfl
def sh2(x y:D):Bool:=(bo x&&bo y)||match x,y with|.tup a,.tup b=>a.all bo&&b.all bo|.lst a,.lst b=>a.all bo&&b.all bo|_,_=>false
def eq2(x y:D):Bool:=match x,y with|.tup a,.tup b=>eqFs a b|.lst a,.lst b=>eqFs a b|x,y=>eqF x y
def EqE.of{F:Hp}(fh:Same F H){x y:D}{u v:V}(rx:Rep K F x u)(ry:Rep K F y v)(h:sh2 x y=true):EqE K H u v (eq2 x y):=by
 unfold sh2 at h;rw[Bool.or_eq_true,Fv]at h;rcases h with⟨f1,f2⟩|h
 .refine .inl #[dN rx f1,dN ry f2,?_];rw[jz rx ry f1 f2];unfold eq2;split
  .cases f1
  .cases f1
  .rfl
 .split at h
  .rw[Fv]at h;obtain⟨a,us,rfl,hq,rr⟩:=rep_tup_mp rx;obtain⟨b,vs,rfl,j9,k9⟩:=rep_tup_mp ry;exact .inr #[a,b,us,vs,rfl,rfl,.inl #[fh.tup hq,fh.tup j9],cN rr h.1,cN k9 h.2,(jA rr k9 h.1 h.2).symm]
  .rw[Fv]at h;obtain⟨a,us,rfl,hq,rr⟩:=rep_lst.mp rx;obtain⟨b,vs,rfl,j9,k9⟩:=rep_lst.mp ry;exact .inr #[a,b,us,vs,rfl,rfl,.inr #[SqL.of (fh _ _ hq),SqL.of (fh _ _ j9)],cN rr h.1,cN k9 h.2,(jA rr k9 h.1 h.2).symm]
  .cases h
def sh2s:List D->List D->Bool
 |[],[]=>true
 |x::xs,y::ys=>sh2 x y&&sh2s xs ys
 |_,_=>false
def eq2s(xs ys:List D):List Bool:=List.zipWith eq2 xs ys
def EqE.all{F:Hp}(fh:Same F H):∀{xs ys:List D} {us vs:List V},Reps K F xs us->Reps K F ys vs->sh2s xs ys=true->us.length=vs.length/\(eq2s xs ys).length=us.length/\∀j,j<us.length->EqE K H (us.getD j .non) (vs.getD j .non) ((eq2s xs ys).getD j true):=by
 intro xs;induction xs with
 |nil=>
  intro ys us vs r1 r2 h;cases ys with
  |nil=>
   rw[reps_nil.mp r1,reps_nil.mp r2];exact#[rfl,rfl,λj h=>absurd h (F8 j)]
  |cons y ys=>exact absurd h Fk
 |cons x xs ih=>
  intro ys us vs r1 r2 h;cases ys with
  |nil=>exact absurd h Fk
  |cons y ys=>
   obtain⟨u,ur,rfl,a1,a2⟩:=reps_cons.mp r1;obtain⟨v,vr,rfl,b1,b2⟩:=reps_cons.mp r2;rw[sh2s,Fv]at h;obtain⟨q1,q2,q3⟩:=ih a2 b2 h.2;refine#[by rw[Fe,Fe,q1],by show(eq2s xs ys).length+1=_;rw[q2,Fe],λj hj=>?_];cases j with
   |zero=>exact EqE.of fh a1 b1 h.1
   |succ j=>exact q3 j (HK hj)
def rdEqN:RD2:=λx y R=>match x,y with
 |.tup xs,.tup ys=>sh2s xs ys=true/\R (.bl ((eq2s xs ys).all id))
 |.lst xs,.lst ys=>sh2s xs ys=true/\R (.bl ((eq2s xs ys).all id))
 |_,_=>False
def Al:aY K (rEqN K) rdEqN:=by
 intro x y u v F H R Q fh h rx ry q;unfold rdEqN at h;split at h
 .obtain⟨a,us,rfl,hq,rr⟩:=rep_tup_mp rx;obtain⟨b,vs,rfl,j9,k9⟩:=rep_tup_mp ry;obtain⟨q1,q2,q3⟩:=EqE.all fh rr k9 h.1;exact#[a,b,us,vs,_,rfl,rfl,.inl #[fh.tup hq,fh.tup j9],q1,q2,q3,q _ _ F H (Grow.refl fh) h.2 (rep_bl.mpr rfl)]
 .obtain⟨a,us,rfl,hq,rr⟩:=rep_lst.mp rx;obtain⟨b,vs,rfl,j9,k9⟩:=rep_lst.mp ry;obtain⟨q1,q2,q3⟩:=EqE.all fh rr k9 h.1;exact#[a,b,us,vs,_,rfl,rfl,.inr #[SqL.of (fh _ _ hq),SqL.of (fh _ _ j9)],q1,q2,q3,q _ _ F H (Grow.refl fh) h.2 (rep_bl.mpr rfl)]
 .exact h.elim
def gC[Jx](hu:X.A.units+1<RJ)(ha:WDE X a ta)(hb:WDE X b tb):WDE X (.Compare a [.Eq] [b] pos) (dOp rdEqN ta tb):=#[have ha:=ha.out;have hb:=hb.out;jt (Ak hu) Al ha hb (nomark _)]
def Am(i:Nat)(t:TDA):TSD:=λE z=>t z λds=>match ds with
 |[.lst xs]=>E.nx (z.set i (be (.own xs)))
 |[.tup xs]=>E.nx (z.set i (be (.own xs)))
 |_=>False
def An[Jx](i:Nat){x:t6}{c_:QT}{t:TDA}(hm:X.mg "list"=m_)(hN:X.N.Nodup)(ha:WDA X [e] t)(hi:autoParam (X.N[i]?=be x) zA0)(hx:autoParam (Loc X.env.scope x) zA4)(hg:autoParam (Gl X "list") zA0)(he:autoParam (zSE X e []) zA0)(hs:autoParam (Q1 (.Call (.Name "list" p) [e] [] p2) (be (.Name x c_)) pos.line X.env=pure false) zA0)
  (hf:autoParam (zFN X x) zA3):WDS X (.Assign [.Name x c_] (.Call (.Name "list" p) [e] [] p2) pos) (Am i t):=⟨have ha:=ha.out;(fL hN hi hx (jl qA hg hm PyProof.Rows.boot_list ha y8 y8 he) hs hf).anti λE s H q=>by
 obtain⟨B,F0,F,z,k,rs,ED,h,e⟩:=q;refine#[B,F,z,k.kf,rs,_,h,λds vs F1 H1 g hd rd=>?_];have k1:=k.grow g;have r1:=rs.grow g;have d8:∀{xs:List D} {us:List V},Reps X.K F1 xs us->ED.nx (z.set i (be (.own xs)))->∀l,H1 l=m_->E.nx (s.set i (be (.ref l))) (upd H1 l (.lst us)):=λ{xs us} rr hn p hp=>by
  have hB:B p=none:=k1.bh.free hp;have hF:F1 p=none:=k1.fh.free hp;refine e.nx _ _ F1 _ #[k1.bh.trans (aO hp _),k1.fh.trans (aO hp _),k1.f0,k1.out,k1.eb,k1.jf,k1.jo] hn (r1.setOwn hB hF rr λj dj hj e1 e2=>?_);obtain⟨a,us,q1,q2,_⟩:=r1.own j dj e1;rw[e2]at q1;cases q1;rw[hp]at q2;cases q2
 split at hd
 .obtain⟨v,r,rfl,h1,h2⟩:=reps_cons.mp rd;rw[reps_nil.mp h2];obtain⟨a,us,rfl,hq,rr⟩:=rep_lst.mp h1;exact#[a,us,rfl,.inl (g.fh.seq (SqL.of hq)),d8 rr hd]
 .obtain⟨v,r,rfl,h1,h2⟩:=reps_cons.mp rd;rw[reps_nil.mp h2];obtain⟨a,us,rfl,hq,rr⟩:=rep_tup_mp h1;exact#[a,us,rfl,.inr (g.fh.tup hq),d8 rr hd]
 .exact hd.elim⟩
def Ao(is:List Nat)(ti:TDI)(tb:TSD):TSD:=λE z=>ti z λds=>∃W:Nat->SD->Prop,W 0 z/\(∀(k:Nat) x z,ds[k]?=be x->W k z->∃dd,x=.tup dd/\dd.length=is.length/\tb {E with nx:=W (k+1),ct:=W (k+1),bk:=E.nx} (aP is dd z))/\∀z,W ds.length z->E.nx z
def Ap{es:List QG}{x1:Nat}{tp:QT}{tb:TSD}(hp:Q2 (QJ X.prog X.w) X.A X.env X.xe)(hc:X.calm=true)(he:WDE X e te)(hG:DGs X es is)(hb:WDSs X body tb)
  (hn:autoParam ((QO es X.env).length=is.length) zA0) (i8:autoParam ((QO es X.env).findIdx? (·.1)=none) zA0) (hs:autoParam (∀y,zFS X e y) zA2):
  WDS X (.For (.Tuple es x1 tp) e body [] pos) (Ao is (dItL te) tb):=by
 obtain⟨ug,Jg,kk⟩:=hG;refine#[(cK hp hc (fM he.out) (eX hc Jg hn i8) hb.out hs).anti λE s H q=>?_];obtain⟨B,F0,F,z,kp,rs,ED,h,e⟩:=q;refine#[B,F,z,kp.kf,rs,_,h,λd v F1 H1 g1 hd rd=>?_];have key:∀(ds:List D) (p:KF) (vs:List V),SqL X.K F1 p vs->Reps X.K F1 ds vs->(∃W:Nat->SD->Prop,W 0 z/\(∀(k:Nat) x z,ds[k]?=be x->W k z->∃dd,x=.tup dd/\dd.length=is.length/\tb {ED with nx:=W (k+1),ct:=W (k+1),bk:=ED.nx} (aP is dd z))/\∀z,W ds.length z->ED.nx z)->∃W:Nat->Nat->L2.St->Hp->Prop,(∃m,W 0 m s H1)/\∀i m σ H,W i m σ H->
   ((Itl X.K p).stop i H/\E.nx σ H)\/((Itl X.K p).go i H/\∃N:L2.St->Hp->Prop,(∀σ' H',N σ' H'->∃m',m'<m/\W (i+1) m' σ' H')/\∀x H',(Itl X.K p).yld i H x H'->gTup X.K is.length ug x σ H' λσ2 H2=>lS X.K tb {E with nx:=N,ct:=N,bk:=E.nx} σ2 H2):=λds p vs hq rr hd=>by
  obtain⟨W,w0,b_,out⟩:=hd;refine jd (K:=X.K) (a:=p) (xs:=vs) (g:=gTup X.K is.length ug) (tb:=lS X.K tb) (D:=E) (λk s' H'=>∃F' z',Kept B F0 F' H'/\Same F1 F'/\RepS X.K B F' H' z' s'/\W k z') #[F1,z,kp.grow g1,Same.refl F1,rs.grow g1,w0] (λk s' H' _ ⟨F',z',k',g',r',w'⟩=>k'.fh.seq (g'.seq hq)) ?_ ?_
  .rintro k y s' H' hk⟨F',z',k',g',r',w'⟩;obtain⟨d,hd,ry⟩:=rr.get' hk;obtain⟨dd,rfl,hl,tt⟩:=b_ k d z' hd w';obtain⟨T,us,rfl,hT,ru⟩:=rep_tup_mp (ry.mono g');refine#[T,us,rfl,k'.fh.tup hT,by rw[ru.length];exact hl,kk dd us z' s' B F' H' _ hl ru r' λs2 ID=>?_];refine#[B,F',F',_,#[k'.bh,k'.fh,Same.refl F',λb h1 _=>h1,k'.eb,k'.jf.trans k'.f0,λb h1 h2=>k'.out b (k'.jo b h1 h2) h2],ID,_,tt,?_];have up:∀{F2 H2:Hp},Kept B F' F2 H2->Kept B F0 F2 H2:=λk2=>#[k2.bh,k2.fh,k'.f0.trans k2.f0,λb h1 h2=>k2.out b (k'.out b h1 h2) h2,k'.eb,k'.jf,k'.jo];exact#[λz3 s3 F3 H3 k3 h3 r3=>#[F3,z3,up k3,g'.trans k3.f0,r3,h3],λd v F3 H3 k3=>e.rt d v F3 H3 (up k3),λz3 s3 F3 H3 k3=>e.nx z3 s3 F3 H3 (up k3),λz3 s3 F3 H3 k3 h3 r3=>#[F3,z3,up k3,g'.trans k3.f0,r3,h3]]
  .rintro s' H'⟨F',z',k',g',r',w'⟩;exact e.nx z' s' F' H' k' (out z' (by rw[<-rr.length];exact w')) r'
 split at hd
 .obtain⟨p,vs,rfl,hq,rr⟩:=rep_lst.mp rd;exact#[p,rfl,#[vs,g1.fh.seq (SqL.of hq)],key _ p vs (SqL.of hq) rr hd]
 .obtain⟨p,vs,rfl,hq,rr⟩:=rep_rol.mp rd;exact#[p,rfl,#[vs,g1.fh.seq hq],key _ p vs hq rr hd]
 .exact hd.elim
end
mutual
def noL:D->Bool
 |.non=>true|.bl _=>true|.int _=>true|.str _=>true|.ptr _=>true|.dti _=>true
 |.tup ds=>noLs ds
 |.obj _ fs=>noLF fs
 |_=>false
def noLs:List D->Bool
 |[]=>true
 |d::ds=>noL d&&noLs ds
def noLF:List (t6×D)->Bool
 |[]=>true
 |(_,d)::ds=>noL d&&noLF ds
end
def nlF(F:Hp):Hp:=λb=>match F b with|some (.lst _)=>m_|o=>o
def jU{F:Hp}{b:KF}{o:HO}(e:F b=be o)(h:∀vs,o≠.lst vs):nlF F b=be o:=by
 unfold nlF;rw[e];cases o with
 |lst vs=>exact absurd rfl (h vs)
 |_=>rfl
mutual
def Rep.nl{K:Ex}{F:Hp}:∀(d:D) (v:V),noL d=true->Rep K F d v->Rep K (nlF F) d v
 |.non,v,_,h=>by unfold Rep at h ⊢;exact h
 |.bl b,v,_,h=>by unfold Rep at h ⊢;exact h
 |.int b,v,_,h=>by unfold Rep at h ⊢;exact h
 |.str b,v,_,h=>by unfold Rep at h ⊢;exact h
 |.ptr b,v,_,h=>by unfold Rep at h ⊢;exact h
 |.dti a8,v,_,h=>by
  unfold Rep at h ⊢;obtain⟨a,e,q⟩:=h;exact#[a,e,jU q λ_ z=>nomatch z]
 |.tup ds,v,n,h=>by
  unfold Rep at h ⊢;obtain⟨a,vs,e,q,r⟩:=h;exact#[a,vs,e,jU q (λ_ z=>nomatch z),Reps.nl ds vs (by unfold noL at n;exact n) r]
 |.obj x fs,v,n,h=>by
  unfold Rep at h ⊢;obtain⟨a,C,dx,vs,e,n1,q,r⟩:=h;exact#[a,C,dx,vs,e,n1,jU q (λ_ z=>nomatch z),RepF.nl fs vs (by unfold noL at n;exact n) r]
 |.lst _,_,n,_=>by unfold noL at n;cases n
 |.rol _,_,n,_=>by unfold noL at n;cases n
 |.exc _ _,_,n,_=>by unfold noL at n;cases n
 |.own _,_,n,_=>by unfold noL at n;cases n
def RepF.nl{K:Ex}{F:Hp}:∀(ds:List (t6×D)) (vs:List (t6×V)),noLF ds=true->RepF K F ds vs->RepF K (nlF F) ds vs
 |[],vs,_,h=>by unfold RepF at h ⊢;exact h
 |(f,d)::ds,vs,n,h=>by
  unfold noLF at n;rw[Fv]at n;unfold RepF at h ⊢;obtain⟨v,r,e,q1,q2⟩:=h;exact#[v,r,e,Rep.nl d v n.1 q1,RepF.nl ds r n.2 q2]
def Reps.nl{K:Ex}{F:Hp}:∀(ds:List D) (vs:List V),noLs ds=true->Reps K F ds vs->Reps K (nlF F) ds vs
 |[],vs,_,h=>by unfold Reps at h ⊢;exact h
 |d::ds,vs,n,h=>by
  unfold noLs at n;rw[Fv]at n;unfold Reps at h ⊢;obtain⟨v,r,e,q1,q2⟩:=h;exact#[v,r,e,Rep.nl d v n.1 q1,Reps.nl ds r n.2 q2]
end
end My
end
section
namespace My
open PySem PySem.Spec PyProof.Rows L2
variable{w:Int}
def b64B(h:0<w)(h':w<=33554432):-(2^64)<w/\w<2^64:=t8
variable{s:Int}
def s64B(h:0<=s)(h':s<w)(Qm:w<=33554432):-(2^64)<s/\s<2^64:=t8
def d30B(h:0<w)(h':w<=33554432):0<w/\w<1073741824:=t8
variable{x y:Int}
def ab24(h:x.natAbs<=12)(h':y.natAbs<=12):(x+y).natAbs<=24:=t8
def sq0(a:Int):0<=a*a:=(HL 0 a).elim (λq=>Hb q q) (λq=>Int.mul_nonneg_of_nonpos_of_nonpos q q)
def u64(h:w=1\/w=-1\/w=0):-(2^64)<w/\w<2^64:=t8
def n64{k:Nat}(h:w.natAbs<=k)(hk:autoParam (k<=1073741823) zA1):-(2^64)<w/\w<2^64:=t8
variable{a b:Int}
def i64(h:a<=w)(h':w<=b)(ha:autoParam ( -1000000000001<=a) zA1)(hb:autoParam (b<=1000000000001) zA1):-(2^64)<w/\w<2^64:=t8
def fdm(a b:Int)(hb:b≠0):(a-a.fdiv b*b).natAbs<b.natAbs/\(a.fdiv b).natAbs<=a.natAbs+1:=by
 have e:=Int.fmod_def a b;have e2:a-a.fdiv b*b=a.fmod b:=by rw[e,Fs]
 rw[e2];have r:(a.fmod b).natAbs<b.natAbs:=by
  rcases(t8:0<b\/b<0)with h|h
  .have h1:=HM a h;have h2:=HN a h;lia
  .have h1:=HM (-a) (show 0< -b by lia);have h2:=HN (-a) (show 0< -b by lia);rw[Int.neg_fmod_neg]at h1 h2;lia
 refine#[r,?_];have e3:(b*a.fdiv b).natAbs=b.natAbs*(a.fdiv b).natAbs:=F9 _ _;have e4:=Int.mul_fdiv_self a b;rcases Gk (a.natAbs+1) (a.fdiv b).natAbs with c|c
 .have h1:b.natAbs*(a.natAbs+2)<=b.natAbs*(a.fdiv b).natAbs:=Nat.mul_le_mul_left _ c;have h2:b.natAbs*(a.natAbs+2)=b.natAbs*a.natAbs+2*b.natAbs:=by rw[Nat.mul_add,Nat.mul_comm _ 2]
  have h3:1*a.natAbs<=b.natAbs*a.natAbs:=HP _ t8;lia
 .exact c
def Uni(a b c d p0 p1 q0 q1:Int):Prop:=∃m n k l:Int,(m*l-n*k=1\/m*l-n*k=-1)/\p0=m*a+n*c/\p1=m*b+n*d/\q0=k*a+l*c/\q1=k*b+l*d
def Uni.refl(a b c d:Int):Uni a b c d a b c d:=#[1,0,0,1,.inl y8,t8,t8,t8,t8]
variable{c d p0 p1 q0 q1:Int}
def Uni.step(t:Int)(h:Uni a b c d p0 p1 q0 q1):Uni a b c d q0 q1 (p0-t*q0) (p1-t*q1):=by
 obtain⟨m,n,k,l,hd,rfl,rfl,rfl,rfl⟩:=h;refine#[k,l,m-t*k,n-t*l,?_,rfl,rfl,J9,J9];rcases hd with h|h
 .right;grind
 .left;grind
def Uni.neg(h:Uni a b c d p0 p1 q0 q1):Uni a b c d (-p0) (-p1) q0 q1:=by
 obtain⟨m,n,k,l,hd,rfl,rfl,rfl,rfl⟩:=h;refine#[-m,-n,k,l,?_,J9,J9,rfl,rfl];rcases hd with h|h
 .right;grind
 .left;grind
def Uni.inv(h:Uni a b c d p0 p1 q0 q1):Uni p0 p1 q0 q1 a b c d:=by
 obtain⟨m,n,k,l,hd,rfl,rfl,rfl,rfl⟩:=h;rcases hd with h|h
 .exact#[l,-n,-k,m,.inl J9,J9,J9,J9,J9]
 .exact#[-l,n,k,-m,.inr J9,J9,J9,J9,J9]
def Uni.det(h:Uni a b c d p0 p1 q0 q1):p0*q1-p1*q0=a*d-b*c\/p0*q1-p1*q0=-(a*d-b*c):=by
 obtain⟨m,n,k,l,hd,rfl,rfl,rfl,rfl⟩:=h;rcases hd with h|h
 .left;grind
 .right;grind
def Lev(a b c d p0 p1 q0:Int):Prop:=0<=p1/\Uni a b c d p0 p1 q0 0
def FamOf(a b c d w h s:Int):Prop:=0<w/\0<h/\0<=s/\s<w/\Uni a b c d w 0 s h
def Aq(x:Int):(if x<0 then -x else x)=x\/(if x<0 then -x else x)=-x:=by
 split<;>simp
def Ar(h:x≠0):0<(if x<0 then -x else x):=by split<;>lia
def fu(hn:¬a*d=b*c)(h:Lev a b c d p0 p1 q0):FamOf a b c d (if q0<0 then -q0 else q0) p1 (p0%(if q0<0 then -q0 else q0)):=by
 obtain⟨hp,hu⟩:=h;have dt:=hu.det;have Pf:q0≠0:=by
  rintro rfl;simp at dt;lia
 have Qn:p1≠0:=by
  rintro rfl;simp at dt;lia
 have hw:=Ar Pf;have hs:=Aq q0;generalize (if q0<0 then -q0 else q0)=w at hw hs;refine#[hw,t8,FF _ t8,FG _ hw,?_];have em:=FJ p0 w;generalize p0%w=s at em;generalize p0/w=t at em;obtain⟨m,n,k,l,hd,e1,e2,e3,e4⟩:=hu;rcases hs with e|e
 .refine#[k,l,m-t*k,n-t*l,?_,J9,J9,J9,J9];rcases hd with h|h
  .right;grind
  .left;grind
 .refine#[-k,-l,m+t*k,n+t*l,?_,J9,J9,J9,J9];rcases hd with h|h
  .left;grind
  .right;grind
variable{h i j:Int}
def in_fam(hh:0<h)(ex:x=i*w+j*s)(ey:y=j*h):y%h=0/\(x-y/h*s)%w=0:=by
 subst ex ey;rw[FI _ t8];refine#[GM _ _,?_];have e:i*w+j*s-j*s=i*w:=t8
 rw[e];exact GM _ _
def FamOf.first(f:FamOf a b c d w h s):b%h=0/\(a-b/h*s)%w=0:=by
 obtain⟨hw,hh,_,_,hu⟩:=f;obtain⟨m,n,k,l,_,e1,e2,e3,e4⟩:=hu.inv;exact in_fam (i:=m) (j:=n) hh e1 t8
def FamOf.second(f:FamOf a b c d w h s):d%h=0/\(c-d/h*s)%w=0:=by
 obtain⟨hw,hh,_,_,hu⟩:=f;obtain⟨m,n,k,l,_,e1,e2,e3,e4⟩:=hu.inv;exact in_fam (i:=k) (j:=l) hh e3 t8
variable{u v:Int}
def sH(eu:u=i*a+j*c)(ev:v=i*b+j*d):(u*d-v*c).fmod (a*d-b*c)=0/\(a*v-b*u).fmod (a*d-b*c)=0:=by
 subst eu ev;refine#[Hc #[i,J9],Hc #[j,J9]]
def FamOf.cells(f:FamOf a b c d w h s):w*h=a*d-b*c\/w*h=-(a*d-b*c):=by
 have:=f.2.2.2.2.det;simpa using this
def bO{A B:Nat}(h1:a.natAbs<=A)(h2:d.natAbs<=B):(a*d).natAbs<=A*B:=by
 rw[F9];exact GN h1 h2
variable{g:Int}
def As{gap:Int}{N:Nat}(hg:0<g)(c0:0<=c)(cg:c<=g)(h:gap.natAbs<=N):(c*gap/g).natAbs<=N:=by
 have h1:(c*gap).natAbs<=g.natAbs*N:=by rw[F9];exact GN IU h
 have e:((g.natAbs*N:Nat):Int)=N*g:=by rw[Hd,Int.natAbs_of_nonneg IU,Fs]
 have l1:=Int.le_ediv_of_mul_le (a:=-(N:Int)) (b:=c*gap) hg (by rw[Ga];omega);have l2:=Int.ediv_le_of_le_mul (a:=c*gap) (b:=(N:Int)) hg IU;omega
def bU(hw:0<w)(hh:0<h):w<=w*h/\h<=w*h:=by
 have h1:=GO (show 1<=h by lia) (show 0<=w by lia);have h2:=Fp (show 1<=w by lia) (show 0<=h by lia);lia
def FamOf.bd(f:FamOf a b c d w h s){N:Nat}(hN:(a*d-b*c).natAbs<=N):w<=N/\h<=N/\s<N:=by
 obtain⟨h1,h2⟩:=bU f.1 f.2.1;have h3:=f.cells;have h4:=f.2.2.2.1;lia
def Meas(x y g u:Int):Prop:=0<=g/\(∃i,x=i*g)/\(∃j,y=j*g)/\∃n,g=u*x+n*y
variable{q:Int}
def sI(h:0<=g/\∃m n k l:Int,(m*l-n*k=1\/m*l-n*k=-1)/\u=m*1+n*0/\g=m*x+n*y/\q=k*1+l*0/\0=k*x+l*y):Meas x y g u:=by
 obtain⟨h0,m,n,k,l,hd,e1,e2,e3,e4⟩:=h;refine#[h0,?_,?_,n,J9]
 .rcases hd with h|h
  .exact#[l,J9]
  .exact#[-l,J9]
 .rcases hd with h|h
  .exact#[-k,J9]
  .exact#[k,J9]
def Meas.pos(h:Meas x y g u)(hx:0<x):0<g:=by
 obtain⟨h0,⟨i,hi⟩,_⟩:=h;rcases(t8:g=0\/0<g)with e|e
 .subst e;simp at hi;lia
 .exact e
def Meas.le(h:Meas x y g u)(hx:0<x):g<=x:=by
 have hg:=h.pos hx;obtain⟨h0,⟨i,hi⟩,_⟩:=h;have Qo:0<i:=by
  rcases(t8:i<=0\/0<i)with e|e
  .have:=Gb e h0;lia
  .exact e
 have:=Fp (show 1<=i by lia) h0;lia
structure MetR(w1 h1 s1 w2 h2 s2 w h s A:Int):Prop where
 w0:0<w
 h0:0<h
 s0:0<=s
 sw:s<w
 in1:∃i,w=i*w1
 in2:∃i,w=i*w2
 up1:∃i j,s=i*w1+j*s1/\h=j*h1
 up2:∃i j,s=i*w2+j*s2/\h=j*h2
 A0:0<A
 cells:w*h*A=w1*h1*w2*h2
 d11:A∣w1*h1
 d12:A∣w1*h2
 d21:A∣w2*h1
 d22:A∣w2*h2
 ds:A∣s1*h2-h1*s2
 all:∀x y:Int,(∃i j,x=i*w1+j*s1/\y=j*h1)->(∃i j,x=i*w2+j*s2/\y=j*h2)->∃i j,x=i*w+j*s/\y=j*h
 comb:∀G:Int,G∣w1*h1->G∣w1*h2->G∣w2*h1->G∣w2*h2->G∣s1*h2-h1*s2->G∣A
def dA(h:0<x*y)(hy:0<y):0<x:=by
 rcases(t8:x<=0\/0<x)with e|e
 .have:=Gb e (show 0<=y by lia);lia
 .exact e
def jV(ha:0<a)(h:a*b=a*c):b=c:=Hf t8 h
def r1(k j c:Int):k*(j*c)=j*(c*k):=J9
def r2(j u c n d:Int):j*(u*c+n*d)=u*(j*c)+n*d*j:=J9
def r3(u j d n j1:Int):u*(j*d)+n*d*j1=d*(u*j+n*j1):=J9
def r4(j u c n d:Int):j*(u*c+n*d)=u*c*j+n*(j*d):=J9
def r5(u c j n j1:Int):u*c*j+n*(j1*c)=c*(u*j+n*j1):=J9
def r6(g e i1 a i2 b d T s1 c s2:Int)(q:i1*(a*(e*g))+d*T*s1=i2*(b*(e*g))+c*T*s2):g*(e*(i1*a-i2*b))=T*(c*s2-d*s1):=J9
def r7(g T f:Int):g*(T*f)=T*(f*g):=J9
def r8(T v e q f:Int):T*(v*e+q*f)=v*T*e+q*(T*f):=J9
def r9(v T e q m:Int):v*T*e+q*(e*m)=e*(v*T+q*m):=J9
def r10(e r f:Int):e*r*f=e*(r*f):=J9
def r11(i u a n b:Int):i*(u*a+n*b)=u*(i*a)+n*b*i:=J9
def r12(u r f i2 b n i1:Int):u*(r*f+i2*b)+n*b*i1=u*(r*f)+b*(u*i2+n*i1):=J9
def r13(u r f b M a e g d s1 t:Int):(u*(r*f)+b*M)*(a*(e*g))+d*(e*r)*s1=(M+r*t)*(a*b*(e*g))+r*(e*(d*s1)+f*u*(a*(e*g))-a*b*(e*g)*t):=J9
def r14(d e r c k:Int):d*(e*r)*(c*k)=r*(c*d*k*e):=J9
variable{k e f gg u' s1 s2:Int}
def Au{n n' t i1 j1 i2 j2:Int}(hk:0<k)(D':0<gg)(he:0<e)
  (p6:u*a+n*b=1) (m8:u'*c+n'*d=1) (gap:c*s2-d*s1=f*gg) (p7:v*e+q*f=1)
  (hs:s=e*(d*s1)+f*u*(a*(e*gg))-a*b*(e*gg)*t) (x1:x=i1*(a*(e*gg))+j1*s1) (y1:y=j1*(c*k)) (x2:x=i2*(b*(e*gg))+j2*s2) (y2:y=j2*(d*k)):
  ∃i j,x=i*(a*b*(e*gg))+j*s/\y=j*(c*d*k*e):=by
 have h1:j1*c=j2*d:=jV hk (by rw[r1 k j1 c,r1 k j2 d,<-y1,<-y2]);have K5:j1=d*(u'*j2+n'*j1):=by
  have p:=r2 j1 u' c n' d;rw[m8,h1,r3]at p;lia
 have NZ:j2=c*(u'*j2+n'*j1):=by
  have p:=r4 j2 u' c n' d;rw[m8,<-h1,r5]at p;lia
 generalize u'*j2+n'*j1=T at K5 NZ;have q1:i1*(a*(e*gg))+d*T*s1=i2*(b*(e*gg))+c*T*s2:=by rw[<-K5,<-NZ,<-x1,<-x2]
 have h2:e*(i1*a-i2*b)=T*f:=jV D' (by rw[r6 gg e i1 a i2 b d T s1 c s2 q1,r7,gap]);have eT:T=e*(v*T+q*(i1*a-i2*b)):=by
  have p:=r8 T v e q f;rw[p7,<-h2,r9]at p;lia
 generalize hr:v*T+q*(i1*a-i2*b)=r at eT;have h3:i1*a-i2*b=r*f:=jV he (by rw[h2,eT,r10]);have h4:i1=u*(r*f)+b*(u*i2+n*i1):=by
  have p:=r11 i1 u a n b;have q3:i1*a=r*f+i2*b:=t8
  rw[p6,q3,r12]at p;lia
 generalize u*i2+n*i1=M at h4;refine#[M+r*t,r,?_,?_]
 .rw[hs,x1,K5,eT,<-r13,<-h4]
 .rw[y1,K5,eT,r14]
def Av{n n' t:Int}(ha:0<a)(hb:0<b)(hc:0<c)(hd:0<d)(he:0<e)(hk:0<k)(D':0<gg)
  (p6:u*a+n*b=1) (m8:u'*c+n'*d=1) (gap:c*s2-d*s1=f*gg) (p7:v*e+q*f=1)
  (hs:s=e*(d*s1)+f*u*(a*(e*gg))-a*b*(e*gg)*t) (m1:0<=s) (m2:s<a*b*(e*gg)):
  MetR (a*(e*gg)) (c*k) s1 (b*(e*gg)) (d*k) s2 (a*b*(e*gg)) (c*d*k*e) s (k*gg):=by
 have hg:0<e*gg:=Fl he D';have hW:0<a*b*(e*gg):=Fl (Fl ha hb) hg;have LW:d*s1=c*s2-f*gg:=t8
 have ua:u*a=1-n*b:=t8
 refine#[hW,Fl (Fl (Fl hc hd) hk) he,m1,m2,#[b,?_],#[a,?_],#[f*u-t*b,d*e,?_,?_],#[-(f*n)-t*a,c*e,?_,?_],Fl hk D',?_,#[a*e*c,?_],#[a*e*d,?_],#[b*e*c,?_],#[b*e*d,?_],#[-f,?_],?_,?_]
 .grind
 .grind
 .grind
 .grind
 .rw[hs,LW];have x2:f*u*(a*(e*gg))=f*(u*a)*(e*gg):=by grind
  rw[x2,ua];grind
 .grind
 .grind
 .grind
 .grind
 .grind
 .grind
 .have:s1*(d*k)-c*k*s2=-(k*(c*s2-d*s1)):=by grind
  rw[this,gap];grind
 .rintro x y⟨i1,j1,x1,z1⟩ ⟨i2,j2,x2,z2⟩;exact Au hk D' he p6 m8 gap p7 hs x1 z1 x2 z2
 .rintro G⟨y1,z1⟩ ⟨y2,z2⟩ ⟨y3,z3⟩ ⟨y4,z4⟩ ⟨y5,z5⟩;refine#[v*(u'*u*y1+n'*u*y2+u'*n*y3+n'*n*y4)-q*y5,?_];have k1:k*(e*gg)=G*(u'*u*y1+n'*u*y2+u'*n*y3+n'*n*y4):=by
   have p1:k*(e*gg)=(u'*c+n'*d)*(u*a+n*b)*(k*(e*gg)):=by rw[p6,m8];grind
   have p2:(u'*c+n'*d)*(u*a+n*b)*(k*(e*gg))=u'*u*(a*(e*gg)*(c*k))+n'*u*(a*(e*gg)*(d*k))+u'*n*(b*(e*gg)*(c*k))+n'*n*(b*(e*gg)*(d*k)):=J9
   rw[p1,p2,z1,z2,z3,z4];grind
  have k2:k*(f*gg)=-(G*y5):=by
   rw[<-z5,<-gap];grind
  have k3:k*gg=(v*e+q*f)*(k*gg):=by rw[p7];grind
  have k4:(v*e+q*f)*(k*gg)=v*(k*(e*gg))+q*(k*(f*gg)):=J9
  rw[k3,k4,k1,k2];grind
variable{w1 h1 w2 h2:Int}
def jW{p_:Int}(K6:0<w1)(Ki:0<w2)(N0:0<h1)(x8:0<h2)
  (M1:Meas w1 w2 g u) (M2:Meas h1 h2 k u')
  (M3:Meas g (h1*h2/k/h2*s2-h1*h2/k/h1*s1) gg p_):
  MetR w1 h1 s1 w2 h2 s2 (w1*w2/g) (h1*h2/k*(g/gg)) ((g/gg*(h1*h2/k/h1*s1)+g/gg*(h1*h2/k/h2*s2-h1*h2/k/h1*s1)/g*u*w1)%(w1*w2/g)) (k*gg):=by
 have hg:=M1.pos K6;have hk:=M2.pos N0;have D':=M3.pos hg;obtain⟨_,⟨a,ea⟩,⟨b,eb⟩,n,en⟩:=M1;obtain⟨_,⟨c,ec⟩,⟨d,ed⟩,n',Qp⟩:=M2;have ha:0<a:=dA (ea ▸ K6) hg;have hb:0<b:=dA (eb ▸ Ki) hg;have hc:0<c:=dA (ec ▸ N0) hk;have hd:0<d:=dA (ed ▸ x8) hk;have p6:u*a+n*b=1:=by
  have p:(u*a+n*b)*g=1*g:=by
   have:(u*a+n*b)*g=u*(a*g)+n*(b*g):=by grind
   rw[this,<-ea,<-eb];lia
  exact Go t8 p
 have m8:u'*c+n'*d=1:=by
  have p:(u'*c+n'*d)*k=1*k:=by
   have:(u'*c+n'*d)*k=u'*(c*k)+n'*(d*k):=by grind
   rw[this,<-ec,<-ed];lia
  exact Go t8 p
 have eW:w1*w2/g=a*b*g:=by
  have:w1*w2=(a*b*g)*g:=by rw[ea,eb];grind
  rw[this];exact FI _ t8
 have eR:h1*h2/k=c*d*k:=by
  have:h1*h2=(c*d*k)*k:=by rw[ec,ed];grind
  rw[this];exact FI _ t8
 have Pg:h1*h2/k/h1=d:=by
  rw[eR];have:c*d*k=d*h1:=by rw[ec];grind
  rw[this];exact FI _ t8
 have Ph:h1*h2/k/h2=c:=by
  rw[eR];have:c*d*k=c*h2:=by rw[ed];grind
  rw[this];exact FI _ t8
 rw[Pg,Ph]at M3 ⊢;obtain⟨_,⟨e,ee⟩,⟨f,ef⟩,q,eq⟩:=M3;have he:0<e:=dA (ee ▸ hg) D';have p7:p_*e+q*f=1:=by
  have p:(p_*e+q*f)*gg=1*gg:=by
   have:(p_*e+q*f)*gg=p_*(e*gg)+q*(f*gg):=by grind
   rw[this,<-ee,<-ef];lia
  exact Go t8 p
 have eC:g/gg=e:=by rw[ee];exact FI _ t8
 have eS:e*(c*s2-d*s1)/g=f:=by
  have:e*(c*s2-d*s1)=f*g:=by rw[ef,ee];grind
  rw[this];exact FI _ t8
 rw[eC,eS,eW,eR];have hW:0<a*b*g:=Fl (Fl ha hb) hg;have em:=FJ (e*(d*s1)+f*u*w1) (a*b*g);have m1:=FF (e*(d*s1)+f*u*w1) (show a*b*g≠0 by lia);have m2:=FG (e*(d*s1)+f*u*w1) hW;generalize (e*(d*s1)+f*u*w1)%(a*b*g)=s at em m1 m2 ⊢;generalize (e*(d*s1)+f*u*w1)/(a*b*g)=t at em;subst ea eb ec ed;subst ee;exact Av ha hb hc hd he hk D' p6 m8 ef p7 em m1 m2
def jX(hx:0<x)(hy:0<y)(M:Meas x y g u):0<x*y/g/\x*y/g<=x*y/\x*y/g/x*1<=y/\0<=x*y/g/x/\x*y/g/y<=x/\0<=x*y/g/y:=by
 have hg:=M.pos hx;obtain⟨_,⟨a,ea⟩,⟨b,eb⟩,_⟩:=M;have ha:0<a:=dA (ea ▸ hx) hg;have hb:0<b:=dA (eb ▸ hy) hg;have e1:x*y/g=a*b*g:=by
  have:x*y=(a*b*g)*g:=by rw[ea,eb];grind
  rw[this];exact FI _ t8
 have e2:a*b*g/x=b:=by
  have:a*b*g=b*x:=by rw[ea];grind
  rw[this];exact FI _ t8
 have e3:a*b*g/y=a:=by
  have:a*b*g=a*y:=by rw[eb];grind
  rw[this];exact FI _ t8
 have p1:0<a*b*g:=Fl (Fl ha hb) hg;have q1:=(bU (w:=b) (h:=g) hb hg).1;have q2:=(bU (w:=a) (h:=g) ha hg).1;have q3:x*y=a*b*g*g:=by rw[ea,eb];grind
 have q4:=(bU (w:=a*b*g) (h:=g) p1 hg).1;rw[e1,e2,e3];lia
def cell(ns:List Int)(k:Int):Int:=ns.getD k.toNat 0
variable{ns:List Int}
def sJ(h0:0<=k)(h1:k<(ns.length:Int)):atI (ns.map D.int) k=be (.int (cell ns k)):=by
 obtain⟨j,rfl⟩:∃j:Nat,k=(j:Int):=#[k.toNat,t8];have hk:j<ns.length:=t8
 refine bI ?_;rw[Fg,Fo hk];simp[cell,FL,Fo hk]
def Aw(h1:(ns.length:Int)<=k):cell ns k=0:=by
 have hk:ns.length<=k.toNat:=t8
 simp[cell,FL,FQ hk]
def E3(k:Int):∃m,atI [D.int 12,D.int 720] (k%2)=be (.int m)/\(m=12\/m=720):=by
 rcases(t8:k%2=0\/k%2=1)with e|e
 .rw[e];exact#[12,rfl,.inl rfl]
 .rw[e];exact#[720,rfl,.inr rfl]
def bu(h:0<b):0<=a%b:=FF a t8
def bv(h:0<b):a%b<b:=FG a h
def Ax:SpD:=λds R=>∃(ns:List Int) (k:Int),ds=[.rol (ns.map D.int),.int k]/\0<=k/\R (.int (cell ns k))
def Ay:SpD:=λds R=>∃i:Int,ds=[.int i]/\R (.bl true)
def Az:SpD:=λds R=>∃w h s x y:Int,ds=[.tup [.int w,.int h,.int s],.int x,.int y]/\0<w/\0<h/\h<1073741824/\0<=s/\s<1073741824/\
 R (.bl (decide (y%h=0/\(x-y/h*s)%w=0)))
def AA:SpD:=λds R=>∃a b c d u v:Int,ds=[.tup [.int a,.int b],.tup [.int c,.int d],.int u,.int v]/\a.natAbs<1073741824/\b.natAbs<1073741824/\c.natAbs<1073741824/\d.natAbs<1073741824/\
 ¬a*d=b*c/\R (.bl (decide ((u*d-v*c).fmod (a*d-b*c)=0/\(a*v-b*u).fmod (a*d-b*c)=0)))
def AB:SpD:=λds R=>∃x y:Int,ds=[.int x,.int y]/\∀g:Int,0<=g->g∣x->g∣y->(∀e,e∣x->e∣y->e∣g)->R (.int g)
def sK:e∣(if x<0 then -x else x)↔e∣x:=by
 split
 .exact Int.dvd_neg
 .exact Iff.rfl
def sL(hb:e∣b):e∣a%b↔e∣a:=by
 have e1:=FJ a b;rw[e1];constructor
 .intro h;have:=Hg h (HQ (c:=a/b) hb);simpa using this
 .intro h;exact Int.dvd_sub h (HQ hb)
def AC:SpD:=λds R=>∃w h s x y:Int,ds=[.tup [.int w,.int h,.int s],.int x,.int y]/\0<w/\0<h/\h<1073741824/\0<=s/\s<1073741824/\
 R (.tup [.int ((x-y/h*s)%w),.int (y%h)])
def AD:SpD:=λds R=>∃a b c d:Int,ds=[.tup [.int a,.int b],.tup [.int c,.int d]]/\b.natAbs<4611686018427387904/\d.natAbs<4611686018427387904/\
 ∀p0 p1 q0,Lev a b c d p0 p1 q0->R (.tup [.tup [.int p0,.int p1],.tup [.int q0,.int 0]])
def AE:SpD:=λds R=>∃a b c d:Int,ds=[.tup [.int a,.int b],.tup [.int c,.int d]]/\a.natAbs<4611686018427387904/\b.natAbs<4611686018427387904/\c.natAbs<4611686018427387904/\d.natAbs<4611686018427387904/\
 (a*d=b*c->R .non)/\(¬a*d=b*c->∀w h s,FamOf a b c d w h s->R (.tup [.int w,.int h,.int s]))
def AF:SpD:=λds R=>∃w h s:Int,ds=[.tup [.int w,.int h,.int s]]/\0<w/\R (.tup [.int w,.int h,.int (-s%w)])
def AG:SpD:=λds R=>∃w h s:Int,ds=[.tup [.int w,.int h,.int s]]/\0<w/\0<h/\w<4611686018427387904/\h<4611686018427387904/\0<=s/\s<4611686018427387904/\
 ∀w' h' s',FamOf 0 w (-h) s w' h' s'->R (.tup [.int w',.int h',.int s'])
def AH:SpD:=λds R=>∃x y:Int,ds=[.int x,.int y]/\x.natAbs<4611686018427387904/\y.natAbs<4611686018427387904/\∀g u,Meas x y g u->R (.tup [.int g,.int u])
def AI:SpD:=λds R=>∃w1 h1 s1 w2 h2 s2:Int,ds=[.tup [.int w1,.int h1,.int s1],.tup [.int w2,.int h2,.int s2]]/\0<w1/\w1<=33554432/\0<h1/\h1<=33554432/\0<=s1/\s1<w1/\0<w2/\w2<=33554432/\0<h2/\h2<=33554432/\0<=s2/\s2<w2/\
 ∀w h s A,MetR w1 h1 s1 w2 h2 s2 w h s A->R (.tup [.int w,.int h,.int s])
def Drawn(xs:List Int):Prop:=∀x∈xs,0<=x/\x<5040
variable{xs:List Int}
def Drawn.at(h:Drawn xs)(k:Int):0<=cell xs k/\cell xs k<5040:=by
 by_cases hk:k.toNat<xs.length
 .have:cell xs k=xs[k.toNat]:=by simp[cell,FL,Fo hk]
  rw[this];exact h _ (FC hk)
 .have:cell xs k=0:=by simp[cell,FL,FQ (Gw hk)]
  lia
def cB(h0:0<=k)(h:k.toNat<xs.length):atI (xs.map D.int) k=be (.int (cell xs k)):=sJ h0 t8
def sM:xs.map D.int++[D.int v]=(xs++[v]).map D.int:=IV
def sN(h:Drawn xs)(h1:0<=v)(h2:v<5040):Drawn (xs++[v]):=by
 intro x hx;rcases Fy.mp hx with q|q
 .exact h x q
 .rw[E6.mp q];exact#[h1,h2]
def AJ:SpD:=λds R=>∃(ns:List Int) (k:Int) (n:Nat),ds=[.rol (ns.map D.int),.int k,.int n]/\0<=k/\n<=100/\∀xs:List Int,xs.length=n->Drawn xs->R (.lst (xs.map D.int))
def AK:SpD:=λds R=>∃xs:List Int,ds=[.lst (xs.map D.int)]/\8<=xs.length/\Drawn xs/\
 ∀a b c d:Int,(-12<=a/\a<=12)->(-12<=b/\b<=12)->(-12<=c/\c<=12)->(-12<=d/\d<=12)->¬a*d=b*c->R (.lst [.tup [.int a,.int b],.tup [.int c,.int d]])
abbrev cs(x:t6):List Nat:=x.cps.toList
def bj(x:t6):(cs x).length=x.length:=by simp[Str.length]
def sO:cs ""=[]:=rfl
def bw(x y:t6):cs (x++y)=cs x++cs y:=by
 show((x++y:t6)).cps.toList=_;rw[show(x++y:t6).cps=x.cps++y.cps from rfl,Array.toList_append]
def aD(x y:t6):(x++y).length=x.length+y.length:=by rw[<-bj,bw,Fn,bj,bj]
def aQ(c:Nat):Prop:=c=46\/(49<=c/\c<=54)
def gD:∀(L:List t6),cH (L.map D.str)=be L
 |[]=>rfl
 |x::L=>by simp[cH,gD L]
def dW(x:t6):Prop:=0<x.length/\x.length<=7/\∀c∈cs x,aQ c
def AL{x:t6}(h:dW x)(v:Int):∃c,(x.length<=1000000/\atI (cs x) (v%(x.length:Int))=be c)/\aQ c:=by
 have h1:=bu (a:=v) (show 0<(x.length:Int)by have:=h.1;lia);have h2:=bv (a:=v) (show 0<(x.length:Int)by have:=h.1;lia);obtain⟨j,ej⟩:∃j:Nat,v%(x.length:Int)=(j:Int):=#[(v%(x.length:Int)).toNat,t8];have hj:j<(cs x).length:=by rw[bj];lia
 refine#[(cs x)[j],#[by have:=h.2.1;lia,?_],h.2.2 _ (FC hj)];rw[ej];exact bI (Fo hj)
def AM:dW "1.23456":=#[IA,IA,by unfold aQ;decide+kernel]
def AN:dW "12":=#[IA,IA,by unfold aQ;decide+kernel]
def AO:dW "1.":=#[IA,IA,by unfold aQ;decide+kernel]
def AQ:dW "...2":=#[IA,IA,by unfold aQ;decide+kernel]
def AR(k:Int):∃x,atI [D.str "1.23456",D.str "12",D.str "1.",D.str "...2"] (k%4)=be (.str x)/\dW x:=by
 rcases(t8:k%4=0\/k%4=1\/k%4=2\/k%4=3)with e|e|e|e<;>rw[e]
 .exact#[_,rfl,AM]
 .exact#[_,rfl,AN]
 .exact#[_,rfl,AO]
 .exact#[_,rfl,AQ]
def AS(k:Int):∃m,atI [D.int 1,D.int 70] (k%2)=be (.int m)/\(m=1\/m=70):=by
 rcases(t8:k%2=0\/k%2=1)with e|e<;>rw[e]
 .exact#[1,rfl,.inl rfl]
 .exact#[70,rfl,.inr rfl]
structure Rows(L:List Str):Prop where
 many:1<=L.length/\L.length<=8
 wide:∃w,(1<=w/\w<=8)/\∀l∈L,l.length=w/\∀c∈cs l,aQ c
variable{L:List t6}
def Rows.of{w t:Nat}(h1:1<=t)(h2:t<=8)(hl:L.length=t)(w1:1<=w)(w2:w<=8)(h:∀l∈L,l.length=w/\∀c∈cs l,aQ c):Rows L:=#[t8,w,#[w1,w2],h]
def AT{x:t6}{c:Nat}{i:Nat}(h1:x.length=i)(h2:∀c∈cs x,aQ c)(hc:aQ c):(x++#[[c].toArray]:t6).length=i+1/\∀c'∈cs (x++#[[c].toArray]),aQ c':=by
 refine#[by rw[aD,h1];rfl,λc' q=>?_];rw[bw]at q;rcases Fy.mp q with q|q
 .exact h2 _ q
 .have:c'=c:=by simpa[cs]using q
  rw[this];exact hc
def AU{x:t6}:L.map D.str++[D.str x]=(L++[x]).map D.str:=IV
def cO(L:List t6)(a b c d:Int):Str:=("["++Txt.join "/" L)++((((((((";":t6)++(toString a:String))++",")++(toString b:String))++";")++(toString c:String))++",")++(toString d:String))++"]"
def bE(h:-12<=a/\a<=12):((toString a:String):t6).length<=3:=by
 have key:∀k:Fin 25,((toString (((k.val:Nat):Int)-12):String):t6).length<=3:=IA
 have:=key #[(a+12).toNat,t8];have e:(((a+12).toNat:Nat):Int)-12=a:=t8
 rw[e]at this;exact this
def B12(a:Int):Prop:=-12<=a/\a<=12
def B12.lt(h:B12 a):a.natAbs<1073741824:=by unfold B12 at h;lia
def jY{w:Nat}(h:∀l∈L,l.length=w):(L.map (·.length)).sum=L.length*w:=by
 induction L with
 |nil=>simp
 |cons x L ih=>
  rw[Fi,List.sum_cons,ih (λl hl=>h l (Fc _ hl)),h x Fd,Fe,GA,Nat.add_comm]
def sP(h:Rows L):(L.map (·.length)).sum+L.length*("/":t6).length<=72:=by
 obtain⟨h1,w,hw,h2⟩:=h;rw[jY (λl hl=>(h2 l hl).1)];have e:("/":t6).length=1:=rfl;rw[e];have:=GN h1.2 hw.2;lia
def AV:SpD:=λds R=>∃xs:List Int,ds=[.lst (xs.map D.int)]/\40<=xs.length/\Drawn xs/\∀L:List t6,Rows L->R (.lst (L.map D.str))
def AW:SpD:=λds R=>∃(L:List t6) (a b c d:Int),ds=[.lst (L.map D.str),.tup [.int a,.int b],.tup [.int c,.int d]]/\Rows L/\B12 a/\B12 b/\B12 c/\B12 d/\R (.str (cO L a b c d))
structure Leaf where
 rows:List t6
 a:Int
 b:Int
 c:Int
 d:Int
 w0:Int
 w1:Int
 w2:Int
 w3:Int
 w4:Int
 w5:Int
 hues:List Int
def Leaf.D(l:Leaf):My.D:=.tup [.lst (l.rows.map D.str),.tup [.int l.a,.int l.b],.tup [.int l.c,.int l.d],.tup [.int l.w0,.int l.w1,.int l.w2,.int l.w3,.int l.w4,.int l.w5],.lst (l.hues.map D.int)]
structure Leaf.Ok(l:Leaf):Prop where
 rows:Rows l.rows
 a:B12 l.a
 b:B12 l.b
 c:B12 l.c
 d:B12 l.d
 ne:¬l.a*l.d=l.b*l.c
 w0:l.w0.natAbs<=1
 w1:l.w1.natAbs<=1
 w2:l.w2.natAbs<=1
 w3:l.w3.natAbs<=1
 w4:l.w4.natAbs<=1000
 w5:l.w5.natAbs<=1000
 many:l.hues.length=7
 hue:∀h∈l.hues,0<=h/\h<=6
def onB(a b c d u v:Int):Bool:=decide ((u*d-v*c).fmod (a*d-b*c)=0/\(a*v-b*u).fmod (a*d-b*c)=0)
def scanRow(f:Int->Bool):Nat->List Nat->Option Nat
 |_,[]=>m_
 |i,c::r=>if c≠46/\f i=true then be c else scanRow f (i+1) r
def bP(f:Int->Int->Bool):Nat->List t6->Option Nat
 |_,[]=>m_
 |j,l::r=>match scanRow (λi=>f i j) 0 (cs l)with|some c=>be c|none=>bP f (j+1) r
def Leaf.hit(l:Leaf)(x y:Int):Option Nat:=bP (λi j=>onB l.a l.b l.c l.d (l.w0*x+l.w1*y+l.w4-i) (l.w2*x+l.w3*y+l.w5-j)) 0 l.rows
def Leaf.shows(l:Leaf)(x y:Int):Int:=match l.hit x y with|some c=>cell l.hues ((c:Int)-48)|none=>0
def one_sign{c:Nat}:(#[[c].toArray]:t6)="."↔c=46:=by
 constructor
 .intro h;have:([c].toArray:Array Nat)=(".":t6).cps:=congrArg Str.cps h;have e:([c].toArray:Array Nat).toList=(".":t6).cps.toList:=by rw[this]
  have e2:(".":t6).cps.toList=[46]:=rfl;rw[e2]at e;simpa using e
 .rintro rfl;rfl
def digit_of{c:Nat}(h:49<=c/\c<=54):PySem.intText? (#[[c].toArray]:t6)=be ((c:Int)-48):=by
 rcases(t8:c=49\/c=50\/c=51\/c=52\/c=53\/c=54)with e|e|e|e|e|e<;>subst e<;>decide+kernel
def at_str{j:Nat}{x:t6}(h:L[j]?=be x):atI (L.map D.str) (j:Int)=be (.str x):=bI (by rw[Fg,h];rfl)
def bF{n:Int}{k:Nat}{x:D}(h:((E7 n.toNat).map λk=>D.int ((k:Nat):Int))[k]?=be x):k<n.toNat/\x=.int (k:Int):=by
 have hk:k<n.toNat:=by simpa using(Fj.mp h).1
 refine#[hk,?_];simp[hk]at h;exact h.symm
def bx{n:Int}:((E7 n.toNat).map λk=>D.int ((k:Nat):Int)).length=n.toNat:=IV
def aS:List Leaf->Int->Int->Int
 |[],_,_=>0
 |l::r,x,y=>if l.shows x y≠0 then l.shows x y else aS r x y
variable{hs:List Int}
def AX(h:∀h∈hs,0<=h/\h<=6)(k:Int):0<=cell hs k/\cell hs k<=6:=by
 by_cases hk:k.toNat<hs.length
 .have:cell hs k=hs[k.toNat]:=by simp[cell,FL,Fo hk]
  rw[this];exact h _ (FC hk)
 .have:cell hs k=0:=by simp[cell,FL,FQ (Gw hk)]
  lia
variable{l:Leaf}
def Leaf.shows_le(h:l.Ok)(x y:Int):0<=l.shows x y/\l.shows x y<=6:=by
 unfold Leaf.shows;split
 .exact AX h.hue _
 .lia
def sQ:∀{ls:List Leaf} (x y:Int),(∀l∈ls,l.Ok)->0<=aS ls x y/\aS ls x y<=6
 |[],_,_,_=>by simp[aS]
 |l::r,x,y,h=>by
  unfold aS;split
  .exact Leaf.shows_le (h l Fd) x y
  .exact sQ x y λl' q=>h l' (Fc _ q)
def bg(L:List t6)(a b c d:Int):Leaf:=#[L,a,b,c,d,1,0,0,1,0,0,[0,1,2,3,4,5,6]]
def AY:SpD:=λds R=>∃(ns:List Int) (k:Int),ds=[.rol (ns.map D.int),.int k]/\0<=k/\
 ∀(L:List t6) (a b c d:Int),Rows L->B12 a->B12 b->B12 c->B12 d->¬a*d=b*c->R (.lst [.str (cO L a b c d),.int 0,.lst [(bg L a b c d).D]])
def AZ:SpD:=λds R=>∃(l:Leaf) (x y:Int),ds=[l.D,.int x,.int y]/\l.Ok/\R (.int (l.shows x y))
def A1:SpD:=λds R=>∃(ls:List Leaf) (x y:Int),ds=[.lst (ls.map Leaf.D),.int x,.int y]/\(∀l∈ls,l.Ok)/\R (.int (aS ls x y))
inductive Pat where
 |mot (L:List Str) (a b c d:Int)
 |over (p q:Pat)
 |sh (a b:Int) (p:Pat)
 |mir (p:Pat)
 |tur (p:Pat)
 |hue (f g:Int) (p:Pat)
def Pat.text:Pat->t6
 |.mot L a b c d=>cO L a b c d
 |.over p q=>(((("(":t6)++p.text)++"|")++q.text)++")"
 |.sh a b p=>((((("s":t6)++(toString a:String))++",")++(toString b:String))++":")++p.text
 |.mir p=>("m":t6)++p.text
 |.tur p=>("t":t6)++p.text
 |.hue f g p=>((("h":t6)++(toString f:String))++(toString g:String))++p.text
def Pat.depth:Pat->Nat
 |.mot ..=>0
 |.over p q=>1+max p.depth q.depth
 |.sh _ _ p=>p.depth+1
 |.mir p=>p.depth+1
 |.tur p=>p.depth+1
 |.hue _ _ p=>p.depth+1
def Leaf.by(l:Leaf)(b0 b1 b2 b3 b4 b5:Int):Leaf:=
 {l with w0:=l.w0*b0+l.w1*b2,w1:=l.w0*b1+l.w1*b3,w2:=l.w2*b0+l.w3*b2,w3:=l.w2*b1+l.w3*b3,w4:=l.w4+l.w0*b4+l.w1*b5,w5:=l.w5+l.w2*b4+l.w3*b5}
def bG(f g h:Int):Int:=if h=f then g else h
def Leaf.dye(l:Leaf)(f g:Int):Leaf:={l with hues:=l.hues.map (bG f g)}
def Pat.leaves:Pat->List Leaf
 |.mot L a b c d=>[bg L a b c d]
 |.over p q=>p.leaves++q.leaves
 |.sh a b p=>p.leaves.map (λl=>l.by 1 0 0 1 (-a) (-b))
 |.mir p=>p.leaves.map (λl=>l.by (-1) 0 0 1 0 0)
 |.tur p=>p.leaves.map (λl=>l.by 0 1 (-1) 0 0 0)
 |.hue f g p=>p.leaves.map (λl=>(l.by 1 0 0 1 0 0).dye f g)
def Pat.show:Pat->Int->Int->Int
 |.mot L a b c d,x,y=>(bg L a b c d).shows x y
 |.over p q,x,y=>if p.show x y≠0 then p.show x y else q.show x y
 |.sh a b p,x,y=>p.show (x-a) (y-b)
 |.mir p,x,y=>p.show (-x) y
 |.tur p,x,y=>p.show y (-x)
 |.hue f g p,x,y=>bG f g (p.show x y)
def Pat.Wf:Pat->Prop
 |.mot L a b c d=>Rows L/\B12 a/\B12 b/\B12 c/\B12 d/\¬a*d=b*c
 |.over p q=>p.Wf/\q.Wf
 |.sh a b p=>B12 a/\B12 b/\p.Wf
 |.mir p=>p.Wf
 |.tur p=>p.Wf
 |.hue f g p=>(1<=f/\f<=6)/\(1<=g/\g<=6)/\p.Wf
def Leaf.by_shows(l:Leaf)(b0 b1 b2 b3 b4 b5 x y:Int):(l.by b0 b1 b2 b3 b4 b5).shows x y=l.shows (b0*x+b1*y+b4) (b2*x+b3*y+b5):=by
 have e1:(l.w0*b0+l.w1*b2)*x+(l.w0*b1+l.w1*b3)*y+(l.w4+l.w0*b4+l.w1*b5)=l.w0*(b0*x+b1*y+b4)+l.w1*(b2*x+b3*y+b5)+l.w4:=J9
 have e2:(l.w2*b0+l.w3*b2)*x+(l.w2*b1+l.w3*b3)*y+(l.w5+l.w2*b4+l.w3*b5)=l.w2*(b0*x+b1*y+b4)+l.w3*(b2*x+b3*y+b5)+l.w5:=J9
 simp only[Leaf.shows,Leaf.hit,Leaf.by,e1,e2]
def fv(b0 b1 b2 b3 b4 b5 x y:Int):∀ls:List Leaf,aS (ls.map (λl=>l.by b0 b1 b2 b3 b4 b5)) x y=aS ls (b0*x+b1*y+b4) (b2*x+b3*y+b5)
 |[]=>rfl
 |l::r=>by
  rw[Fi,aS,aS,Leaf.by_shows,fv b0 b1 b2 b3 b4 b5 x y r]
def scanRow_sign{f:Int->Bool}:∀{cs:List Nat} {i c:Nat},(∀c∈cs,aQ c)->scanRow f i cs=be c->49<=c/\c<=54
 |[],_,_,_,h=>by cases h
 |a::r,i,c,hs,h=>by
  rw[scanRow]at h;split at h
  .rename_i q;cases h;have:=hs a Fd;unfold aQ at this;have:=q.1;lia
  .exact scanRow_sign (λc q=>hs c (Fc _ q)) h
def jZ{f:Int->Int->Bool}:∀{L:List t6} {j c:Nat},(∀l∈L,∀c∈cs l,aQ c)->bP f j L=be c->49<=c/\c<=54
 |[],_,_,_,h=>by cases h
 |a::r,j,c,hs,h=>by
  rw[bP]at h;split at h
  .rename_i q;cases h;exact scanRow_sign (hs a Fd) q
  .exact jZ (λl q=>hs l (Fc _ q)) h
def A2(h:k.toNat<hs.length):cell (hs.map (bG f g)) k=bG f g (cell hs k):=by
 simp[cell,FL,Fg,Fo h]
def Leaf.dye_shows(ok:l.Ok)(hf:1<=f)(x y:Int):(l.dye f g).shows x y=bG f g (l.shows x y):=by
 have e:(l.dye f g).hit x y=l.hit x y:=rfl;unfold Leaf.shows;rw[e];cases h:l.hit x y with
 |none=>simp[bG];lia
 |some c=>
  have hc:49<=c/\c<=54:=jZ (λl' q=>let ⟨_,_,_,h⟩:=ok.rows;(h l' q).2) h;exact A2 (by rw[ok.many];lia)
def sR(hf:1<=f)(hg:1<=g):bG f g h=0↔h=0:=by
 unfold bG;split<;>lia
def sS{f g:Int}(hf:1<=f)(hg:1<=g)(x y:Int):∀ls:List Leaf,(∀l∈ls,l.Ok)->aS (ls.map (λl=>l.dye f g)) x y=bG f g (aS ls x y)
 |[],_=>by simp[aS,bG];lia
 |l::r,h=>by
  rw[Fi,aS,aS,Leaf.dye_shows (h l Fd) hf,sS hf hg x y r λl q=>h l (Fc _ q)];by_cases z:l.shows x y=0
  .rw[if_neg (λq=>q ((sR hf hg).mpr z)),if_neg (λq=>q z)]
  .rw[if_pos (λq=>z ((sR hf hg).mp q)),if_pos z]
def sT(x y:Int):∀(a b:List Leaf),aS (a++b) x y=if aS a x y≠0 then aS a x y else aS b x y
 |[],b=>by simp[aS]
 |l::r,b=>by
  rw[List.cons_append,aS,aS];by_cases z:l.shows x y≠0
  .rw[if_pos z,if_pos z,if_pos z]
  .rw[if_neg z,if_neg z,sT x y r b]
structure Leaf.Near(l:Leaf)(n:Nat):Prop where
 u0:(l.w0.natAbs=1/\l.w1=0/\l.w2=0/\l.w3.natAbs=1)\/(l.w0=0/\l.w1.natAbs=1/\l.w2.natAbs=1/\l.w3=0)
 w4:l.w4.natAbs<=24*n
 w5:l.w5.natAbs<=24*n
variable{n:Nat}
def Leaf.Near.mono{m:Nat}(h:l.Near n)(k:n<=m):l.Near m:=#[h.u0,by have:=h.w4;lia,by have:=h.w5;lia]
def Leaf.Near.unit(h:l.Near n):(l.w0=1\/l.w0=-1\/l.w0=0)/\(l.w1=1\/l.w1=-1\/l.w1=0)/\(l.w2=1\/l.w2=-1\/l.w2=0)/\(l.w3=1\/l.w3=-1\/l.w3=0):=by
 have:=h.u0;lia
def sU(h:e.natAbs<=24*n)(hw:w=1\/w=-1\/w=0)(hv:v=1\/v=-1\/v=0)(ha:B12 a)(hb:B12 b):(e+w* -a+v* -b).natAbs<=24*(n+1):=by
 have m:∀{w a:Int},(w=1\/w=-1\/w=0)->B12 a->(w* -a).natAbs<=12:=λhw ha=>by
  unfold B12 at ha;rcases hw with rfl|rfl|rfl<;>lia
 have:=m hw ha;have:=m hv hb;generalize w* -a=x at*;generalize v* -b=y at*;clear m hw hv ha hb;lia
def A3(h:l.Near n)(ha:B12 a)(hb:B12 b):(l.by 1 0 0 1 (-a) (-b)).Near (n+1):=by
 obtain⟨h0,h1,h2,h3⟩:=h.unit;exact#[by simpa[Leaf.by]using h.u0,sU h.w4 h0 h1 ha hb,sU h.w5 h2 h3 ha hb]
def A5(h:l.Near n):(l.by (-1) 0 0 1 0 0).Near (n+1):=by
 have p:=h.w4;have q:=h.w5;exact#[by simpa[Leaf.by]using h.u0,by simp[Leaf.by];lia,by simp[Leaf.by];lia]
def A6(h:l.Near n):(l.by 0 1 (-1) 0 0 0).Near (n+1):=by
 have p:=h.w4;have q:=h.w5;refine#[?_,by simp[Leaf.by];lia,by simp[Leaf.by];lia];rcases h.u0 with⟨a,b,c,d⟩|⟨a,b,c,d⟩
 .exact .inr (by simp[Leaf.by,a,b,c,d])
 .exact .inl (by simp[Leaf.by,a,b,c,d])
def sV(h:l.Near n):((l.by 1 0 0 1 0 0).dye f g).Near (n+1):=by
 have p:=h.w4;have q:=h.w5;exact#[by simpa[Leaf.by,Leaf.dye]using h.u0,by simp[Leaf.by,Leaf.dye];lia,by simp[Leaf.by,Leaf.dye];lia]
structure Leaf.Good(l:Leaf):Prop where
 rows:Rows l.rows
 a:B12 l.a
 b:B12 l.b
 c:B12 l.c
 d:B12 l.d
 ne:¬l.a*l.d=l.b*l.c
 many:l.hues.length=7
 hue:∀h∈l.hues,0<=h/\h<=6
def Leaf.ok_of(g:l.Good)(h:l.Near n)(hn:n<=40):l.Ok:=by
 have:=h.u0;have:=h.w4;have:=h.w5;exact#[g.rows,g.a,g.b,g.c,g.d,g.ne,t8,t8,t8,t8,t8,t8,g.many,g.hue]
def Pat.leaf_good:∀{p:Pat},p.Wf->∀l∈p.leaves,l.Good/\l.Near p.depth
 |.mot L a b c d,h,l,q=>by
  have:l=bg L a b c d:=by simpa[Pat.leaves]using q
  subst this;obtain⟨h1,h2,h3,h4,h5,h6⟩:=h;exact#[#[h1,h2,h3,h4,h5,h6,rfl,by intro h q;simp[bg]at q;lia],#[by simp[bg],by simp[bg],by simp[bg]]]
 |.over p r,h,l,q=>by
  rcases Fy.mp q with q|q
  .obtain⟨g,n⟩:=Pat.leaf_good h.1 l q;exact#[g,n.mono (by simp only[Pat.depth];lia)]
  .obtain⟨g,n⟩:=Pat.leaf_good h.2 l q;exact#[g,n.mono (by simp only[Pat.depth];lia)]
 |.sh a b p,h,l,q=>by
  obtain⟨l',q',rfl⟩:=FA.mp q;obtain⟨g,n⟩:=Pat.leaf_good h.2.2 l' q';exact#[#[g.rows,g.a,g.b,g.c,g.d,g.ne,g.many,g.hue],A3 n h.1 h.2.1]
 |.mir p,h,l,q=>by
  obtain⟨l',q',rfl⟩:=FA.mp q;obtain⟨g,n⟩:=Pat.leaf_good (p:=p) h l' q';exact#[#[g.rows,g.a,g.b,g.c,g.d,g.ne,g.many,g.hue],A5 n]
 |.tur p,h,l,q=>by
  obtain⟨l',q',rfl⟩:=FA.mp q;obtain⟨g,n⟩:=Pat.leaf_good (p:=p) h l' q';exact#[#[g.rows,g.a,g.b,g.c,g.d,g.ne,g.many,g.hue],A6 n]
 |.hue f k p,h,l,q=>by
  obtain⟨l',q',rfl⟩:=FA.mp q;obtain⟨g,n⟩:=Pat.leaf_good (p:=p) h.2.2 l' q';refine#[#[g.rows,g.a,g.b,g.c,g.d,g.ne,?_,λv hv=>?_],sV n]
  .show(l'.hues.map _).length=7;rw[E9];exact g.many
  .obtain⟨u,hu,rfl⟩:=FA.mp hv;have:=g.hue u hu;have:=h.2.1;unfold bG;split<;>lia
variable{p:Pat}
def Pat.leaf_ok(h:p.Wf)(hd:p.depth<=40):∀l∈p.leaves,l.Ok:=λl q=>Leaf.ok_of (Pat.leaf_good h l q).1 (Pat.leaf_good h l q).2 hd
def Pat.show_leaves:∀{p:Pat},p.Wf->p.depth<=40->∀x y,aS p.leaves x y=p.show x y
 |.mot L a b c d,_,_,x,y=>by
  simp only[Pat.leaves,Pat.show,aS];split
  .rfl
  .lia
 |.over p q,h,hd,x,y=>by
  simp only[Pat.depth]at hd;rw[Pat.leaves,sT,Pat.show_leaves h.1 t8,Pat.show_leaves h.2 t8,Pat.show]
 |.sh a b p,h,hd,x,y=>by
  simp only[Pat.depth]at hd;rw[Pat.leaves,fv,Pat.show_leaves h.2.2 t8,Pat.show];congr 1<;>lia
 |.mir p,h,hd,x,y=>by
  simp only[Pat.depth]at hd;rw[Pat.leaves,fv,Pat.show_leaves (p:=p) h t8,Pat.show];congr 1<;>lia
 |.tur p,h,hd,x,y=>by
  simp only[Pat.depth]at hd;rw[Pat.leaves,fv,Pat.show_leaves (p:=p) h t8,Pat.show];congr 1<;>lia
 |.hue f g p,h,hd,x,y=>by
  simp only[Pat.depth]at hd;have e:p.leaves.map (λl=>(l.by 1 0 0 1 0 0).dye f g)=(p.leaves.map (λl=>l.by 1 0 0 1 0 0)).map (λl=>l.dye f g):=by rw[Hi];rfl
  rw[Pat.leaves,e,sS h.1.1 h.2.1.1,fv,Pat.show_leaves h.2.2 t8,Pat.show]
  .congr 2<;>lia
  .intro l q;obtain⟨l',q',rfl⟩:=FA.mp q;obtain⟨g',n⟩:=Pat.leaf_good h.2.2 l' q';have n':=sV (f:=f) (g:=g) n;have:(l'.by 1 0 0 1 0 0).Near (p.depth+1):=#[n'.u0,n'.w4,n'.w5];exact Leaf.ok_of #[g'.rows,g'.a,g'.b,g'.c,g'.d,g'.ne,g'.many,g'.hue] this t8
def Pat.D(p:Pat):My.D:=.lst [.str p.text,.int p.depth,.lst (p.leaves.map Leaf.D)]
def Leaf.T(dy:Bool)(d6 new b0 b1 b2 b3 b4 b5:Int)(l:Leaf):Leaf:=if dy then(l.by b0 b1 b2 b3 b4 b5).dye d6 new else l.by b0 b1 b2 b3 b4 b5
def dX(h:1<=a/\a<=6):((toString a:String):t6).length<=3:=bE t8
def Wraps(p:Pat)(H:Prop)(R:My.D->Prop):Prop:=(5<=p.depth->R p.D)/\(p.depth<5->R (Pat.mir p).D/\R (Pat.tur p).D/\(∀a b,B12 a->B12 b->R (Pat.sh a b p).D)/\(H->∀f g:Int,(1<=f/\f<=6)->(1<=g/\g<=6)->R (Pat.hue f g p).D))
variable{A:Int}{R:My.D->Prop}
def A7(h:Wraps p (j=3) R)(hd:p.depth<5){k B d6 new:Int}(hA:B12 A)(hB:B12 B)(ho:1<=d6/\d6<=6)(hn:1<=new/\new<=6)(hj:0<=j/\j<4):
  ∃(hs:t6) (b0 b1 b2 b3 b4 b5:Int),atI [D.str "m",D.str "t",D.str ((((("s":t6)++(toString A:String))++",")++(toString B:String))++":"),D.str ((("h":t6)++(toString d6:String))++(toString new:String))] j=be (.str hs)/\
   atI ([D.tup [.int (-1),.int 0,.int 0,.int 1,.int 0,.int 0],D.tup [.int 0,.int 1,.int (-1),.int 0,.int 0,.int 0]]++[D.tup [.int 1,.int 0,.int 0,.int 1,.int (-A),.int (-B)],D.tup [.int 1,.int 0,.int 0,.int 1,.int 0,.int 0]]) j=be (.tup [.int b0,.int b1,.int b2,.int b3,.int b4,.int b5])/\
   (b0.natAbs<=1/\b1.natAbs<=1/\b2.natAbs<=1/\b3.natAbs<=1/\b4.natAbs<=12/\b5.natAbs<=12)/\hs.length<=20/\
   R (.lst [.str (hs++p.text),.int (p.depth+1),.lst ((p.leaves.map (Leaf.T (decide (j=3)) d6 new b0 b1 b2 b3 b4 b5)).map Leaf.D)]):=by
 obtain⟨h1,h2,h3,h4⟩:=h.2 hd;have l1:("s":t6).length=1:=rfl;have l2:(",":t6).length=1:=rfl;have l3:(":":t6).length=1:=rfl;have l4:("h":t6).length=1:=rfl;have lA:=bE hA;have lB:=bE hB;have lo:=dX ho;have ln:=dX hn;have eD:∀n:Nat,D.int ((n+1:Nat):Int)=D.int ((n:Int)+1):=λn=>by congr 1
 unfold B12 at hA hB;rcases(t8:j=0\/j=1\/j=2\/j=3)with rfl|rfl|rfl|rfl
 .exact#[_,_,_,_,_,_,_,rfl,rfl,t8,y8,h1]
 .exact#[_,_,_,_,_,_,_,rfl,rfl,t8,y8,h2]
 .refine#[_,_,_,_,_,_,_,rfl,rfl,t8,?_,h3 A B hA hB]
  repeat rw[aD]
  lia
 .refine#[_,_,_,_,_,_,_,rfl,rfl,t8,?_,h4 rfl d6 new ho hn]
  repeat rw[aD]
  lia
def A8(h d6 new:Int):atI [D.int h,D.int new] (if decide (h=d6)=true then(1:Int)else 0)=be (.int (bG d6 new h)):=by
 unfold bG;by_cases e:h=d6
 .rw[if_pos e,if_pos (by simpa using e)];rfl
 .rw[if_neg e,if_neg (by simpa using e)];rfl
def ke{α:Type}{xs:List α}{k:Nat}{x:α}(h:xs[k]?=be x):xs.take (k+1)=xs.take k++[x]:=by
 have hk:k<xs.length:=(Fj.mp h).1;rw[HG,h];rfl
def Pat.leaves_len:∀(p:Pat),p.leaves.length<=2^p.depth
 |.mot ..=>E5 _
 |.over p q=>by
  have h1:=p.leaves_len;have h2:=q.leaves_len;have m1:2^p.depth<=2^(max p.depth q.depth):=Gp y8 (HR _ _);have m2:2^q.depth<=2^(max p.depth q.depth):=Gp y8 (HS _ _);rw[Pat.leaves,Fn,Pat.depth,HU];lia
 |.sh a b p=>by rw[Pat.leaves,E9,Pat.depth,FY];have:=p.leaves_len;lia
 |.mir p=>by rw[Pat.leaves,E9,Pat.depth,FY];have:=p.leaves_len;lia
 |.tur p=>by rw[Pat.leaves,E9,Pat.depth,FY];have:=p.leaves_len;lia
 |.hue f g p=>by rw[Pat.leaves,E9,Pat.depth,FY];have:=p.leaves_len;lia
def Pat.leaves_32(h:p.depth<=5):p.leaves.length<=32:=Fh p.leaves_len (Gp y8 h)
def A9:SpD:=λds R=>∃(p:Pat) (draw:Int),ds=[p.D,.int draw]/\p.Wf/\p.depth<=5/\p.text.length<=100000/\Wraps p (draw%4=3) R
def sW(hn:¬a*d=b*c)(h:(u*d-v*c).fmod (a*d-b*c)=0/\(a*v-b*u).fmod (a*d-b*c)=0):∃i j,u=i*a+j*c/\v=i*b+j*d:=by
 have hz:a*d-b*c≠0:=IU
 obtain⟨i,ei⟩:(a*d-b*c)∣(u*d-v*c):=#[_,(HV h.1).symm];obtain⟨j,ej⟩:(a*d-b*c)∣(a*v-b*u):=#[_,(HV h.2).symm];refine#[i,j,?_,?_]
 .have:(a*d-b*c)*u=(a*d-b*c)*(i*a+j*c):=by
   have q1:(a*d-b*c)*u=a*(u*d-v*c)+c*(a*v-b*u):=J9
   rw[q1,ei,ej];grind
  exact Hf hz this
 .have:(a*d-b*c)*v=(a*d-b*c)*(i*b+j*d):=by
   have q1:(a*d-b*c)*v=b*(u*d-v*c)+d*(a*v-b*u):=J9
   rw[q1,ei,ej];grind
  exact Hf hz this
def Uni.trans{x0 x1 y0 y1:Int}(h:Uni a b c d p0 p1 q0 q1)(k:Uni p0 p1 q0 q1 x0 x1 y0 y1):Uni a b c d x0 x1 y0 y1:=by
 obtain⟨m,n,k1,l,hd,rfl,rfl,rfl,rfl⟩:=h;obtain⟨m',n',k',l',fI,rfl,rfl,rfl,rfl⟩:=k;have dt:(m'*m+n'*k1)*(k'*n+l'*l)-(m'*n+n'*l)*(k'*m+l'*k1)=(m'*l'-n'*k')*(m*l-n*k1):=J9
 refine#[m'*m+n'*k1,m'*n+n'*l,k'*m+l'*k1,k'*n+l'*l,?_,J9,J9,J9,J9];rw[dt];rcases hd with e|e<;>rcases fI with e'|e'<;>rw[e,e']<;>decide
def dY:∀(n:Nat) (a b c d:Int),d.natAbs<=n->∃p0 p1 q0,Lev a b c d p0 p1 q0
 |n,a,b,c,d,hn=>by
  by_cases hd:d=0
  .subst hd;by_cases hb:0<=b
   .exact#[a,b,c,hb,Uni.refl a b c 0]
   .exact#[-a,-b,c,t8,(Uni.refl a b c 0).neg]
  .match n,hn with
   |0,hn=>exact absurd (t8:d=0) hd
   |n+1,hn=>
    have lt:=(fdm b d hd).1;obtain⟨p0,p1,q0,h0,hu⟩:=dY n c d (a-b.fdiv d*c) (b-b.fdiv d*d) t8;exact#[p0,p1,q0,h0,((Uni.refl a b c d).step (b.fdiv d)).trans hu]
def Ba(hn:¬a*d=b*c)(g0:0<=g)(g1:g∣b)(g2:g∣d)(g3:∀e,e∣b->e∣d->e∣g):
  ∃w s,FamOf a b c d w g s:=by
 obtain⟨p0,p1,q0,hL⟩:=dY d.natAbs a b c d (E5 _);have hF:=fu hn hL;have hp:=hF.2.1;obtain⟨m,n,k,l,_,e1,e2,e3,e4⟩:=hL.2;obtain⟨m',n',k',l',_,f1,f2,f3,f4⟩:=hL.2.inv;have d1:p1∣g:=g3 p1 #[m',by rw[f2];grind] #[k',by rw[f4];grind];have d2:g∣p1:=by
  rw[e2];exact Hg (GP g1) (GP g2)
 have:p1=g:=HW t8 g0 d1 d2;subst this;exact#[_,_,hF]
def FamOf.uniq_lean(f:FamOf a b c d w h s)(e1:x=i*a+j*c)(e2:h=i*b+j*d)(h0:0<=x)(h1:x<=s):x=s:=by
 obtain⟨hw,hh,hs,z9,hu⟩:=f;obtain⟨m,n,k,l,_,f1,f2,f3,f4⟩:=hu.inv;have ex:x=(i*m+j*k)*w+(i*n+j*l)*s:=by rw[e1,f1,f3];grind
 have eh:h=(i*n+j*l)*h:=by
  have:i*b+j*d=(i*n+j*l)*h:=by rw[f2,f4];grind
  rw[<-this];exact e2
 have one:i*n+j*l=1:=by
  have:(i*n+j*l)*h=1*h:=by lia
  exact Go t8 this
 rw[one]at ex;generalize i*m+j*k=t at ex;have:t*w=x-s:=t8
 rcases(t8:t<=-1\/t=0\/1<=t)with z|z|z
 .have:=Fp z (show 0<=w by lia);lia
 .subst z;lia
 .have:=Fp z (show 0<=w by lia);lia
def notT{c:Prop}[Decidable c](h:(!decide c)=true):¬c:=by
 intro q;rw[decide_eq_true q]at h;cases h
def notF{c:Prop}[Decidable c](h:¬(!decide c)=true):c:=by
 rcases Classical.em c with q|q
 .exact q
 .rw[decide_eq_false q]at h;exact absurd rfl h
def Leaf.o0(l:Leaf):Int:=l.w0*l.a+l.w2*l.b
def Leaf.o1(l:Leaf):Int:=l.w1*l.a+l.w3*l.b
def Leaf.t0(l:Leaf):Int:=l.w0*l.c+l.w2*l.d
def Leaf.t1(l:Leaf):Int:=l.w1*l.c+l.w3*l.d
def cP(h:w=1\/w=-1\/w=0)(ha:B12 a):(w*a).natAbs<=12:=by
 unfold B12 at ha;rcases h with e|e|e<;>rw[e]<;>lia
def mul12(ha:B12 a)(hb:B12 b):(a*b).natAbs<=144:=by
 unfold B12 at ha hb;rw[F9];exact Fh (GN (show a.natAbs<=12 by lia) (show b.natAbs<=12 by lia)) y8
def Leaf.sizes(g:l.Good)(h:l.Near n):l.o0.natAbs<=24/\l.o1.natAbs<=24/\l.t0.natAbs<=24/\l.t1.natAbs<=24/\¬l.o0*l.t1=l.o1*l.t0/\(l.o0*l.t1-l.o1*l.t0).natAbs<=288:=by
 obtain⟨h0,h1,h2,h3⟩:=h.unit;have a0:=cP h0 g.a;have a1:=cP h1 g.a;have b2:=cP h2 g.b;have b3:=cP h3 g.b;have c0:=cP h0 g.c;have c1:=cP h1 g.c;have d2:=cP h2 g.d;have d3:=cP h3 g.d;have dt:l.o0*l.t1-l.o1*l.t0=(l.w0*l.w3-l.w1*l.w2)*(l.a*l.d-l.b*l.c):=by unfold Leaf.o0 Leaf.o1 Leaf.t0 Leaf.t1;grind
 have dw:(l.w0*l.w3-l.w1*l.w2).natAbs=1:=by
  rcases h.u0 with⟨p,q,r,t⟩|⟨p,q,r,t⟩
  .rw[q,GB,GQ,F9,p,t]
  .rw[p,GB,Int.zero_sub,Int.natAbs_neg,F9,q,r]
 have da:(l.o0*l.t1-l.o1*l.t0).natAbs=(l.a*l.d-l.b*l.c).natAbs:=by rw[dt,F9,dw,Nat.one_mul]
 refine#[ab24 a0 b2,ab24 a1 b3,ab24 c0 d2,ab24 c1 d3,λz=>g.ne ?_,?_]
 .rw[z,HX]at da;exact Int.sub_eq_zero.mp (HC.mp da.symm)
 .rw[da];have m1:=mul12 g.a g.d;have m2:=mul12 g.b g.c;generalize l.a*l.d=x at*;generalize l.b*l.c=y at*;clear da dw dt d3 d2 c1 c0 b3 b2 a1 a0 h3 h2 h1 h0 h g;lia
def Bb:SpD:=λds R=>∃(l:Leaf) (n:Nat),ds=[l.D]/\l.Good/\l.Near n/\∀w h s:Int,FamOf l.o0 l.o1 l.t0 l.t1 w h s->w*h<=288->R (.tup [.int w,.int h,.int s])
def Bc(h1:y%h=0/\(x-y/h*s)%w=0):∃i j,x=i*w+j*s/\y=j*h:=by
 refine#[(x-y/h*s)/w,y/h,?_,?_]
 .have:=Gq (x-y/h*s) w;rw[h1.2]at this;rw[Fs w]at this;lia
 .have:=Gq y h;rw[h1.1,Fs h]at this;lia
def dZ(x y:Int):∃g u,Meas x y g u:=by
 obtain⟨p0,p1,q0,hL⟩:=dY y.natAbs 1 x 0 y (E5 _);exact#[p1,p0,sI #[hL.1,hL.2]]
def Meas.gcd{G:Int}(h:Meas x y g u)(g0:0<=G)(g1:G∣x)(g2:G∣y)(g3:∀e,e∣x->e∣y->e∣G):G=g:=by
 obtain⟨h0,⟨i,ei⟩,⟨j,ej⟩,n,en⟩:=h;refine HW g0 h0 ?_ (g3 g #[i,by rw[ei,Fs]] #[j,by rw[ej,Fs]]);rw[en];exact Hg (GP g1) (GP g2)
structure Fm(w h s:Int):Prop where
 w0:0<w
 w1:w<=720
 h0:0<h
 h1:h<=720
 s0:0<=s
 sw:s<w
def Bd(f:Fm w1 h1 s1)(k:Fm w2 h2 s2):∃g u w h s A,Meas w1 w2 g u/\w=w1*w2/g/\MetR w1 h1 s1 w2 h2 s2 w h s A:=by
 obtain⟨g,u,M1⟩:=dZ w1 w2;obtain⟨k',u',M2⟩:=dZ h1 h2;obtain⟨gg,p_,M3⟩:=dZ g (h1*h2/k'/h2*s2-h1*h2/k'/h1*s1);exact#[g,u,_,_,_,_,M1,rfl,jW f.w0 k.w0 f.h0 k.h0 M1 M2 M3]
def MetR.high(M:MetR w1 h1 s1 w2 h2 s2 w h s A)(hh:0<h1)(hj:1<=j)(e1:∃i,x=i*w1+j*s1)(e2:∃i k,x=i*w2+k*s2/\j*h1=k*h2):h<=j*h1/\(j*h1=h->0<=x->x<w->x=s):=by
 obtain⟨i,e1⟩:=e1;obtain⟨i',k,e3,e4⟩:=e2;obtain⟨a,b,e5,e6⟩:=M.all x (j*h1) #[i,j,e1,rfl] #[i',k,e3,e4];have hp:0<j*h1:=Fl t8 hh;have hb:1<=b:=by
  rcases(t8:b<=0\/1<=b)with z|z
  .have:=Gb z (show 0<=h by have:=M.h0;lia);lia
  .exact z
 refine#[?_,λe x0 x1=>?_]
 .have:=Fp hb (show 0<=h by have:=M.h0;lia);lia
 .have ob:b=1:=by
   have:b*h=1*h:=by lia
   exact Go (by have:=M.h0;lia) this
  rw[ob]at e5;have s0:=M.s0;have sw:=M.sw;have:a*w=x-s:=t8
  rcases(t8:a<=-1\/a=0\/1<=a)with z|z|z
  .have:=Fp z (show 0<=w by lia);lia
  .subst z;lia
  .have:=Fp z (show 0<=w by lia);lia
def Be:SpD:=λds R=>∃w1 h1 s1 w2 h2 s2:Int,ds=[.tup [.int w1,.int h1,.int s1],.tup [.int w2,.int h2,.int s2]]/\Fm w1 h1 s1/\Fm w2 h2 s2/\
 ∀w h s A,MetR w1 h1 s1 w2 h2 s2 w h s A->(w*h<=720->R (.tup [.int w,.int h,.int s]))/\(720<w*h->R .non)
def Bf{S:Int}(hw:0<w1)(hx:x<w1)(x0:0<=x)(hS:0<=S)(e:S=i*w1+s)(e2:∃i',x=i'*w1+s):∃k,S=x+k*w1/\0<=k:=by
 obtain⟨i',e2⟩:=e2;refine#[i-i',J9,?_];rcases(t8:i-i'<=-1\/0<=i-i')with z|z
 .have:=Fp z (show 0<=w1 by lia);have:(i-i')*w1=S-x:=by grind
  lia
 .exact z
def InF(w h s x y:Int):Prop:=∃i j,x=i*w+j*s/\y=j*h
def Leaf.Lat(l:Leaf)(x y:Int):Prop:=∃i j,x=i*l.o0+j*l.t0/\y=i*l.o1+j*l.t1
def FamOf.lat(f:FamOf a b c d w h s)(x y:Int):InF w h s x y↔∃i j,x=i*a+j*c/\y=i*b+j*d:=by
 obtain⟨_,_,_,_,hu⟩:=f;obtain⟨m,n,k,l,_,e1,e2,e3,e4⟩:=id hu;obtain⟨m',n',k',l',_,f1,f2,f3,f4⟩:=hu.inv;constructor
 .rintro⟨i,j,rfl,rfl⟩;refine#[i*m+j*k,i*n+j*l,by rw[e1,e3];grind,?_];have z:i*0+j*h=(i*m+j*k)*b+(i*n+j*l)*d:=by rw[e2,e4];grind
  lia
 .rintro⟨i,j,rfl,rfl⟩;refine#[i*m'+j*k',i*n'+j*l',by rw[f1,f3];grind,by rw[f2,f4];grind]
def MetR.lat(M:MetR w1 h1 s1 w2 h2 s2 w h s A)(x y:Int):InF w h s x y↔InF w1 h1 s1 x y/\InF w2 h2 s2 x y:=by
 constructor
 .rintro⟨i,j,rfl,rfl⟩;obtain⟨a1,e1⟩:=M.in1;obtain⟨a2,e2⟩:=M.in2;obtain⟨b1,c1,e3,e4⟩:=M.up1;obtain⟨b2,c2,e5,e6⟩:=M.up2;refine#[#[i*a1+j*b1,j*c1,?_,?_],#[i*a2+j*b2,j*c2,?_,?_]]
  .rw[e1,e3];grind
  .rw[e4];grind
  .rw[e2,e5];grind
  .rw[e6];grind
 .rintro⟨h1,h2⟩;exact M.all x y h1 h2
variable{w' h' s':Int}
def InF.le(hw:0<w)(hh:0<h)(LX:0<w')(LY:0<h')(sub:∀x y,InF w' h' s' x y->InF w h s x y):w*h<=w'*h'/\w<=w'/\h<=h':=by
 obtain⟨i,j,e1,e2⟩:=sub w' 0 #[1,0,t8,t8];have j0:j=0:=by
  rcases GR.mp e2.symm with z|z
  .exact z
  .lia
 subst j0;have i1:1<=i:=by
  rcases(t8:i<=0\/1<=i)with z|z
  .have:=Gb z (show 0<=w by lia);lia
  .exact z
 obtain⟨i',j',e3,e4⟩:=sub s' h' #[0,1,t8,t8];have j1:1<=j':=by
  rcases(t8:j'<=0\/1<=j')with z|z
  .have:=Gb z (show 0<=h by lia);lia
  .exact z
 have a1:=Fp i1 (show 0<=w by lia);have a2:=Fp j1 (show 0<=h by lia);have b1:w<=w':=t8
 have b2:h<=h':=t8
 exact#[HY b1 b2 t8 t8,b1,b2]
def InF.uniq(hw:0<w)(hh:0<h)(hs:0<=s)(z9:s<w)(LX:0<w')(LY:0<h')(IB:0<=s')(Pj:s'<w')(e:∀x y,InF w h s x y↔InF w' h' s' x y):w=w'/\h=h'/\s=s':=by
 obtain⟨_,a1,a2⟩:=InF.le hw hh LX LY (λx y q=>(e x y).mpr q);obtain⟨_,b1,b2⟩:=InF.le LX LY hw hh (λx y q=>(e x y).mp q);have ew:w=w':=t8
 have eh:h=h':=t8
 subst ew eh;refine#[rfl,rfl,?_];obtain⟨i,j,e1,e2⟩:=(e s h).mp #[0,1,t8,t8];have j1:j=1:=by
  have:j*h=1*h:=by lia
  exact Go t8 this
 subst j1;have:i*w=s-s':=t8
 rcases(t8:i<=-1\/i=0\/1<=i)with z|z|z
 .have:=Fp z (show 0<=w by lia);lia
 .subst z;lia
 .have:=Fp z (show 0<=w by lia);lia
structure Fam0(w h s:Int):Prop where
 w0:0<w
 h0:0<h
 s0:0<=s
 sw:s<w
def sX(f:Fam0 w1 h1 s1)(k:Fam0 w2 h2 s2):∃w h s,Fam0 w h s/\∀x y,InF w h s x y↔InF w1 h1 s1 x y/\InF w2 h2 s2 x y:=by
 obtain⟨g,u,M1⟩:=dZ w1 w2;obtain⟨k',u',M2⟩:=dZ h1 h2;obtain⟨gg,p_,M3⟩:=dZ g (h1*h2/k'/h2*s2-h1*h2/k'/h1*s1);have M:=jW f.w0 k.w0 f.h0 k.h0 M1 M2 M3;exact#[_,_,_,#[M.w0,M.h0,M.s0,M.sw],M.lat]
def Leaf.fam_ex(g:l.Good)(h:l.Near n):∃w k s,Fam0 w k s/\∀x y,InF w k s x y↔l.Lat x y:=by
 obtain⟨_,_,_,_,ne,_⟩:=Leaf.sizes g h;obtain⟨p0,p1,q0,hL⟩:=dY l.t1.natAbs l.o0 l.o1 l.t0 l.t1 (E5 _);have f:=fu ne hL;exact#[_,_,_,#[f.1,f.2.1,f.2.2.1,f.2.2.2.1],f.lat]
def bQ(ls:List Leaf)(x y:Int):Prop:=∀l∈ls,l.Lat x y
def sY{n:Nat}:∀(ls:List Leaf) (w h s:Int),Fam0 w h s->(∀l∈ls,l.Good/\l.Near n)->∃w' h' s',Fam0 w' h' s'/\∀x y,InF w' h' s' x y↔InF w h s x y/\bQ ls x y
 |[],w,h,s,f,_=>#[w,h,s,f,λx y=>#[λq=>#[q,λl z=>by cases z],λq=>q.1]]
 |l::r,w,h,s,f,g=>by
  obtain⟨w1,h1,s1,f1,e1⟩:=Leaf.fam_ex (g l Fd).1 (g l Fd).2;obtain⟨w2,h2,s2,f2,e2⟩:=sX f f1;obtain⟨w3,h3,s3,f3,e3⟩:=sY r w2 h2 s2 f2 λl' q=>g l' (Fc _ q);refine#[w3,h3,s3,f3,λx y=>?_];rw[e3,e2,e1];constructor
  .rintro⟨⟨a,b⟩,c⟩;exact#[a,λl' q=>(E8.mp q).elim (λz=>z ▸ b) (c l')]
  .rintro⟨a,b⟩;exact#[#[a,b l Fd],λl' q=>b l' (Fc _ q)]
def cut1(d:D)(ds:List D):cutD (d::ds) (be 1) m_=ds:=by
 unfold cutD;have e1:HT.sIx (d::ds).length 0 (be 1)=1:=by simp[HT.sIx]
 have e2:HT.sIx (d::ds).length (d::ds).length m_=(d::ds).length:=by simp[HT.sIx]
 rw[e1,e2,List.drop_one,List.tail_cons,Fe,HZ,GS]
def gE:SpD:=λds R=>∃(ls:List Leaf) (n:Nat),ds=[.lst (ls.map Leaf.D)]/\ls≠[]/\(∀l∈ls,l.Good/\l.Near n)/\
 ∀w h s:Int,Fam0 w h s->(∀x y,InF w h s x y↔bQ ls x y)->(w*h<=720->R (.tup [.int w,.int h,.int s]))/\(720<w*h->R .non)
def Pat.Lat:Pat->Int->Int->Prop
 |.mot _ a b c d,x,y=>∃i j,x=i*a+j*c/\y=i*b+j*d
 |.over p q,x,y=>p.Lat x y/\q.Lat x y
 |.sh _ _ p,x,y=>p.Lat x y
 |.mir p,x,y=>p.Lat (-x) y
 |.tur p,x,y=>p.Lat y (-x)
 |.hue _ _ p,x,y=>p.Lat x y
def Leaf.by_lat(l:Leaf)(b0 b1 b2 b3 b4 b5 x y:Int):(l.by b0 b1 b2 b3 b4 b5).Lat x y↔∃u v,l.Lat u v/\x=b0*u+b2*v/\y=b1*u+b3*v:=by
 have e0:(l.by b0 b1 b2 b3 b4 b5).o0=b0*l.o0+b2*l.o1:=by simp only[Leaf.o0,Leaf.o1,Leaf.by];grind
 have e1:(l.by b0 b1 b2 b3 b4 b5).o1=b1*l.o0+b3*l.o1:=by simp only[Leaf.o0,Leaf.o1,Leaf.by];grind
 have e2:(l.by b0 b1 b2 b3 b4 b5).t0=b0*l.t0+b2*l.t1:=by simp only[Leaf.t0,Leaf.t1,Leaf.by];grind
 have e3:(l.by b0 b1 b2 b3 b4 b5).t1=b1*l.t0+b3*l.t1:=by simp only[Leaf.t0,Leaf.t1,Leaf.by];grind
 unfold Leaf.Lat;rw[e0,e1,e2,e3];generalize l.o0=o0;generalize l.o1=o1;generalize l.t0=t0;generalize l.t1=t1;constructor
 .rintro⟨i,j,rfl,rfl⟩;exact#[_,_,#[i,j,rfl,rfl],J9,J9]
 .rintro⟨_,_,⟨i,j,rfl,rfl⟩,rfl,rfl⟩;exact#[i,j,J9,J9]
def Leaf.dye_lat(l:Leaf)(f g x y:Int):(l.dye f g).Lat x y↔l.Lat x y:=Iff.rfl
def Bg(a b:List Leaf)(x y:Int):bQ (a++b) x y↔bQ a x y/\bQ b x y:=by
 constructor
 .intro h;exact#[λl q=>h l (Gd _ q),λl q=>h l (Fx _ q)]
 .rintro⟨h1,h2⟩ l q;rcases Fy.mp q with q|q
  .exact h1 l q
  .exact h2 l q
def latAll_map{f:Leaf->Leaf}(hf:∀l:Leaf,(f l).Lat x y↔l.Lat u v)(ls:List Leaf):bQ (ls.map f) x y↔bQ ls u v:=by
 constructor
 .intro h l q;exact(hf l).mp (h _ (FA.mpr #[l,q,rfl]))
 .intro h l q;obtain⟨l',q',rfl⟩:=FA.mp q;exact(hf l').mpr (h l' q')
def sZ(l:Leaf)(e f x y:Int):(l.by 1 0 0 1 e f).Lat x y↔l.Lat x y:=by
 rw[Leaf.by_lat];constructor
 .rintro⟨u,v,h,e1,e2⟩;have e1:x=u:=by lia
  have e2:y=v:=t8
  rw[e1,e2];exact h
 .intro h;exact#[x,y,h,t8,t8]
def Pat.lat_leaves:∀(p:Pat) (x y:Int),bQ p.leaves x y↔p.Lat x y
 | .mot L a b c d,x,y=>by
  have e0:(bg L a b c d).o0=a:=by simp[Leaf.o0,bg]
  have e1:(bg L a b c d).o1=b:=by simp[Leaf.o1,bg]
  have e2:(bg L a b c d).t0=c:=by simp[Leaf.t0,bg]
  have e3:(bg L a b c d).t1=d:=by simp[Leaf.t1,bg]
  have e:(bg L a b c d).Lat x y↔(Pat.mot L a b c d).Lat x y:=by
   unfold Leaf.Lat;rw[e0,e1,e2,e3];exact Iff.rfl
  rw[<-e];constructor
  .intro h;exact h _ Fd
  .intro h l q;rw[E6.mp q];exact h
 |.over p q,x,y=>by rw[Pat.leaves,Bg,Pat.lat_leaves p,Pat.lat_leaves q,Pat.Lat]
 |.sh a b p,x,y=>by rw[Pat.leaves,latAll_map (λl=>sZ l _ _ x y),Pat.lat_leaves p,Pat.Lat]
 | .mir p,x,y=>by
  have e:∀l:Leaf,(l.by (-1) 0 0 1 0 0).Lat x y↔l.Lat (-x) y:=λl=>by
   rw[Leaf.by_lat];constructor
   .rintro⟨u,v,h,e1,e2⟩;have e1:-x=u:=by lia
    have e2:y=v:=t8
    rw[e1,e2];exact h
   .intro h;exact#[-x,y,h,t8,t8]
  rw[Pat.leaves,latAll_map e,Pat.lat_leaves p,Pat.Lat]
 | .tur p,x,y=>by
  have e:∀l:Leaf,(l.by 0 1 (-1) 0 0 0).Lat x y↔l.Lat y (-x):=λl=>by
   rw[Leaf.by_lat];constructor
   .rintro⟨u,v,h,e1,e2⟩;have e1:-x=v:=by lia
    have e2:y=u:=t8
    rw[e1,e2];exact h
   .intro h;exact#[y,-x,h,t8,t8]
  rw[Pat.leaves,latAll_map e,Pat.lat_leaves p,Pat.Lat]
 |.hue f g p,x,y=>by
  rw[Pat.leaves,latAll_map (λl=>(Leaf.dye_lat _ f g x y).trans (sZ l _ _ x y)),Pat.lat_leaves p,Pat.Lat]
structure Pat.Fam(p:Pat)(w h s:Int):Prop where
 f:Fam0 w h s
 lat:∀x y,InF w h s x y↔p.Lat x y
def Pat.Fam.uniq(a:p.Fam w h s)(b:p.Fam w' h' s'):w=w'/\h=h'/\s=s':=
 InF.uniq a.f.w0 a.f.h0 a.f.s0 a.f.sw b.f.w0 b.f.h0 b.f.s0 b.f.sw λx y=>(a.lat x y).trans (b.lat x y).symm
def Pat.Fam.mot(k:FamOf a b c d w h s):(Pat.mot L a b c d).Fam w h s:=#[#[k.1,k.2.1,k.2.2.1,k.2.2.2.1],k.lat]
def Pat.Fam.sh(a b:Int)(k:p.Fam w h s):(Pat.sh a b p).Fam w h s:=#[k.f,k.lat]
def Pat.Fam.hue(a b:Int)(k:p.Fam w h s):(Pat.hue a b p).Fam w h s:=#[k.f,k.lat]
def Pat.Fam.mir(k:p.Fam w h s):(Pat.mir p).Fam w h (-s%w):=by
 refine#[#[k.f.w0,k.f.h0,bu k.f.w0,bv k.f.w0],λx y=>?_];show _↔p.Lat (-x) y;rw[<-k.lat];have e:=FJ (-s) w;generalize -s%w=r at e;generalize -s/w=t at e;constructor
 .rintro⟨i,j,rfl,rfl⟩;exact#[j*t-i,j,by rw[e];grind,rfl]
 .rintro⟨i,j,ex,rfl⟩;exact#[j*t-i,j,by rw[e];grind,rfl]
def Pat.Fam.tur(k:p.Fam w h s)(f:FamOf 0 w (-h) s w' h' s'):(Pat.tur p).Fam w' h' s':=by
 refine#[#[f.1,f.2.1,f.2.2.1,f.2.2.2.1],λx y=>?_];show _↔p.Lat y (-x);rw[<-k.lat,f.lat];constructor
 .rintro⟨i,j,rfl,rfl⟩;exact#[i,j,J9,J9]
 .rintro⟨i,j,ex,ey⟩;exact#[i,j,J9,J9]
def Pat.Fam.over{q:Pat}(k1:p.Fam w1 h1 s1)(k2:q.Fam w2 h2 s2)(M:MetR w1 h1 s1 w2 h2 s2 w h s A):(Pat.over p q).Fam w h s:=by
 refine#[#[M.w0,M.h0,M.s0,M.sw],λx y=>?_];rw[M.lat,k1.lat,k2.lat];exact Iff.rfl
def gG(hw:0<w)(hh:0<h):∃w' h' s',FamOf 0 w (-h) s w' h' s'/\w'*h'=w*h:=by
 have hp:0<w*h:=Fl hw hh;have hn:¬0*s=w* -h:=by rw[FZ];lia
 obtain⟨p0,p1,q0,hL⟩:=dY s.natAbs 0 w (-h) s (E5 _);have f:=fu hn hL;refine#[_,_,_,f,?_];have LH:=Fl f.1 f.2.1;have c:=f.cells;rw[FZ]at c;lia
def tf(hn:¬a*d=b*c):∃w h s,FamOf a b c d w h s/\(Pat.mot L a b c d).Fam w h s:=by
 obtain⟨p0,p1,q0,hL⟩:=dY d.natAbs a b c d (E5 _);have f:=fu hn hL;exact#[_,_,_,f,.mot f]
def Pat.fam_ex:∀{p:Pat},p.Wf->∃w h s,p.Fam w h s
 |.mot L a b c d,h=>by
  obtain⟨w,k,s,_,f⟩:=tf (L:=L) h.2.2.2.2.2;exact#[w,k,s,f]
 |.over p q,h=>by
  obtain⟨w1,h1,s1,f1⟩:=Pat.fam_ex h.1;obtain⟨w2,h2,s2,f2⟩:=Pat.fam_ex h.2;obtain⟨w,k,s,f,e⟩:=sX f1.f f2.f;refine#[w,k,s,f,λx y=>?_];rw[e,f1.lat,f2.lat];exact Iff.rfl
 |.sh a b p,h=>by
  obtain⟨w,k,s,f⟩:=Pat.fam_ex h.2.2;exact#[w,k,s,f.sh a b]
 |.mir p,h=>by
  obtain⟨w,k,s,f⟩:=Pat.fam_ex (p:=p) h;exact#[w,k,_,f.mir]
 |.tur p,h=>by
  obtain⟨w,k,s,f⟩:=Pat.fam_ex (p:=p) h;obtain⟨w',k',s',f',_⟩:=gG (s:=s) f.f.w0 f.f.h0;exact#[w',k',s',f.tur f']
 |.hue a b p,h=>by
  obtain⟨w,k,s,f⟩:=Pat.fam_ex h.2.2;exact#[w,k,s,f.hue a b]
def Pat.Fits(p:Pat):Prop:=∃w h s,p.Fam w h s/\w*h<=720
def Pat.fits_mot(ha:B12 a)(hb:B12 b)(hc:B12 c)(hd:B12 d)(hn:¬a*d=b*c):(Pat.mot L a b c d).Fits:=by
 obtain⟨w,h,s,k,f⟩:=tf (L:=L) hn;refine#[w,h,s,f,?_];have kc:=k.cells;unfold B12 at*;have m1:=bO (a:=a) (d:=d) (A:=12) (B:=12) t8 t8;have m2:=bO (a:=b) (d:=c) (A:=12) (B:=12) t8 t8;lia
def Pat.Fits.sh(a b:Int)(k:p.Fits):(Pat.sh a b p).Fits:=by
 obtain⟨w,h,s,f,q⟩:=k;exact#[w,h,s,f.sh a b,q]
def Pat.Fits.hue(a b:Int)(k:p.Fits):(Pat.hue a b p).Fits:=by
 obtain⟨w,h,s,f,q⟩:=k;exact#[w,h,s,f.hue a b,q]
def Pat.Fits.mir(k:p.Fits):(Pat.mir p).Fits:=by
 obtain⟨w,h,s,f,q⟩:=k;exact#[w,h,_,f.mir,q]
def Pat.Fits.tur(k:p.Fits):(Pat.tur p).Fits:=by
 obtain⟨w,h,s,f,q⟩:=k;obtain⟨w',k',s',f',e⟩:=gG (s:=s) f.f.w0 f.f.h0;exact#[w',k',s',f.tur f',t8]
def Bh(hL:Rows L)(ha:B12 a)(hb:B12 b)(hc:B12 c)(hd:B12 d):(cO L a b c d).length<=100:=by
 have la:=bE ha;have lb:=bE hb;have lc:=bE hc;have ld:=bE hd;have l1:(";":t6).length=1:=rfl;have l2:(",":t6).length=1:=rfl;have l3:("[":t6).length=1:=rfl;have l4:("]":t6).length=1:=rfl;have ls:=sP hL;have lj:=StrLaws.join_length_le "/" L;have lg:(Txt.join "/" L).length<=72:=by
  have e:Txt.join "/" L=Str.join "/" L:=StrLaws.glued_eq_join _ _;rw[e];exact Fh lj ls
 unfold cO
 repeat rw[aD]
 lia
def Pat.text_len:∀{p:Pat},p.Wf->p.text.length+10<=110*2^p.depth
 |.mot L a b c d,h=>by
  have:=Bh h.1 h.2.1 h.2.2.1 h.2.2.2.1 h.2.2.2.2.1;show(cO L a b c d).length+10<=110*2^0;lia
 |.over p q,h=>by
  have h1:=Pat.text_len h.1;have h2:=Pat.text_len h.2;have m1:2^p.depth<=2^(max p.depth q.depth):=Gp y8 (HR _ _);have m2:2^q.depth<=2^(max p.depth q.depth):=Gp y8 (HS _ _);have l1:("(":t6).length=1:=rfl;have l2:("|":t6).length=1:=rfl;have l3:(")":t6).length=1:=rfl;rw[Pat.text,Pat.depth,HU]
  repeat rw[aD]
  lia
 |.sh a b p,h=>by
  have h1:=Pat.text_len h.2.2;have la:=bE h.1;have lb:=bE h.2.1;have l1:("s":t6).length=1:=rfl;have l2:(",":t6).length=1:=rfl;have l3:(":":t6).length=1:=rfl;have:0<2^p.depth:=GT y8;rw[Pat.text,Pat.depth,FY]
  repeat rw[aD]
  lia
 |.mir p,h=>by
  have h1:=Pat.text_len (p:=p) h;have l1:("m":t6).length=1:=rfl;have:0<2^p.depth:=GT y8;rw[Pat.text,Pat.depth,FY,aD];lia
 |.tur p,h=>by
  have h1:=Pat.text_len (p:=p) h;have l1:("t":t6).length=1:=rfl;have:0<2^p.depth:=GT y8;rw[Pat.text,Pat.depth,FY,aD];lia
 |.hue f g p,h=>by
  have h1:=Pat.text_len h.2.2;have la:=dX h.1;have lb:=dX h.2.1;have l1:("h":t6).length=1:=rfl;have:0<2^p.depth:=GT y8;rw[Pat.text,Pat.depth,FY]
  repeat rw[aD]
  lia
def Pat.leaves_pos:∀p:Pat,0<p.leaves.length
 |.mot ..=>Nat.zero_lt_one
 |.over p q=>by rw[Pat.leaves,Fn];have:=p.leaves_pos;lia
 |.sh _ _ p=>by rw[Pat.leaves,E9];exact p.leaves_pos
 |.mir p=>by rw[Pat.leaves,E9];exact p.leaves_pos
 |.tur p=>by rw[Pat.leaves,E9];exact p.leaves_pos
 |.hue _ _ p=>by rw[Pat.leaves,E9];exact p.leaves_pos
def Pat.text_short(h:p.Wf)(hd:p.depth<=5):p.text.length<=3510:=by
 have h1:=Pat.text_len h;have h2:2^p.depth<=2^5:=Gp y8 hd;lia
structure Pat.Ok(p:Pat):Prop where
 wf:p.Wf
 deep:p.depth<=5
 fits:p.Fits
def Wraps.of{H:Prop}(h:p.Ok)(hR:∀q:Pat,q.Ok->R q.D):Wraps p H R:=by
 refine#[λ_=>hR p h,λhd=>#[hR _ #[h.wf,?_,h.fits.mir],hR _ #[h.wf,?_,h.fits.tur],λa b ha hb=>hR _ #[#[ha,hb,h.wf],?_,h.fits.sh a b],λ_ f g hf hg=>hR _ #[#[hf,hg,h.wf],?_,h.fits.hue f g]]]<;>(simp only[Pat.depth];lia)
def tm:SpD:=λds R=>∃p q:Pat,ds=[p.D,q.D]/\p.Wf/\q.Wf/\p.depth<=5/\q.depth<=5/\R p.D/\(p.depth<5->q.depth<5->(Pat.over p q).Fits->R (Pat.over p q).D)
def Bi:SpD:=λds R=>∃(ns:List Int) (k:Int),ds=[.rol (ns.map D.int),.int k]/\0<=k/\∀p:Pat,p.Ok->R p.D
end My
end
section
open PySem PySem.Spec PyProof.Rows L2
namespace My
def Bj:TMS:=λ_ _ _=>False
def gH{X:Cx}[Jm]{st:P3}:MSt X st Bj:=⟨ps_never.anti λE s H q=>by
 obtain⟨F0,F,z,M,k,rs,ED,h,e⟩:=q;exact h.elim⟩
end My
end
section
namespace My
open PySem PySem.Spec PyProof.Rows L2
abbrev isSg(c:Nat):Bool:=c==46||(49<=c&&c<=54)
def numL(a:Int):List Nat:=cs (toString a:String)
variable{a:Int}{P:Int->Prop}
def tw(h:B12 a)(hP:∀k:Fin 25,P (((k.val:Nat):Int)-12)):P a:=by
 unfold B12 at h;have:=hP #[(a+12).toNat,t8];have e:(((a+12).toNat:Nat):Int)-12=a:=t8
 rw[e]at this;exact this
def isNumL(l:List Nat):Prop:=(∃c,(48<=c/\c<=57)/\l=[c])\/(∃c,(48<=c/\c<=50)/\l=[49,c])\/(∃c,(49<=c/\c<=57)/\l=[45,c])\/∃c,(48<=c/\c<=50)/\l=[45,49,c]
def numL_is(h:B12 a):isNumL (numL a):=by
 have key:∀k:Fin 25,(numL (((k.val:Nat):Int)-12))∈([[45,49,50],[45,49,49],[45,49,48],[45,57],[45,56],[45,55],[45,54],[45,53],[45,52],[45,51],[45,50],[45,49],[48],[49],[50],[51],[52],[53],[54],[55],[56],[57],[49,48],[49,49],[49,50]]:List (List Nat)):=IA
 have h1:=tw (P:=λa=>numL a∈([[45,49,50],[45,49,49],[45,49,48],[45,57],[45,56],[45,55],[45,54],[45,53],[45,52],[45,51],[45,50],[45,49],[48],[49],[50],[51],[52],[53],[54],[55],[56],[57],[49,48],[49,49],[49,50]]:List (List Nat))) h key;revert h1;generalize numL a=l;intro h1;unfold isNumL;simp only[E8,F4,or_false]at h1;rcases h1 with e|e|e|e|e|e|e|e|e|e|e|e|e|e|e|e|e|e|e|e|e|e|e|e|e<;>subst e
 all_goals first
  |exact .inl ⟨_,y8,rfl⟩
  |exact .inr (.inl ⟨_,y8,rfl⟩)
  |exact .inr (.inr (.inl ⟨_,y8,rfl⟩))
  |exact .inr (.inr (.inr ⟨_,y8,rfl⟩))
def endS(c:Nat):Prop:=c=44\/c=59\/c=58\/c=93
def rowsL:List (List Nat)->List Nat
 |[]=>[]
 |[x]=>x
 |x::y::r=>x++47::rowsL (y::r)
variable{c:Nat}
def Bk(h:aQ c):isSg c=true:=by
 unfold aQ at h;unfold isSg;rcases h with h|h
 .subst h;rfl
 .have:(decide (49<=c)&&decide (c<=54))=true:=by simp[h]
  rw[this,GH]
def Bl(h:isSg c=true):aQ c:=by
 unfold isSg at h;unfold aQ;simp at h;lia
def motL(L:List (List Nat))(a b c d:Int):List Nat:=91::(rowsL L++59::(numL a++44::(numL b++59::(numL c++44::(numL d++[93])))))
def Pat.tl:Pat->List Nat
 |.mot L a b c d=>motL (L.map cs) a b c d
 |.over p q=>40::(p.tl++124::(q.tl++[41]))
 |.sh a b p=>115::(numL a++44::(numL b++58::p.tl))
 |.mir p=>109::p.tl
 |.tur p=>116::p.tl
 |.hue f g p=>104::(numL f++(numL g++p.tl))
def tz:∀L:List t6,cs (Str.join "/" L)=rowsL (L.map cs)
 |[]=>rfl
 |[x]=>rfl
 |x::y::L=>by
  show cs (x++"/"++Str.join "/" (y::L))=cs x++47::rowsL ((y::L).map cs);rw[bw,bw,tz (y::L),FR];rfl
def cf:∀p:Pat,cs p.text=p.tl
 |.mot L a b c d=>by
  show cs (cO L a b c d)=motL (L.map cs) a b c d;unfold cO motL;have e:Txt.join "/" L=Str.join "/" L:=StrLaws.glued_eq_join _ _;rw[e]
  repeat rw[bw]
  rw[tz];simp only[FR];rfl
 |.over p q=>by
  rw[Pat.text,Pat.tl]
  repeat rw[bw]
  rw[cf p,cf q];simp only[FR];rfl
 |.sh a b p=>by
  rw[Pat.text,Pat.tl]
  repeat rw[bw]
  rw[cf p];simp only[FR];rfl
 |.mir p=>by
  rw[Pat.text,Pat.tl,bw,cf p];rfl
 |.tur p=>by
  rw[Pat.text,Pat.tl,bw,cf p];rfl
 |.hue f g p=>by
  rw[Pat.text,Pat.tl]
  repeat rw[bw]
  rw[cf p];simp only[FR];rfl
def hueL{f:Int}(h:1<=f/\f<=6):numL f=[(48+f).toNat]:=by
 have key:∀k:Fin 6,numL (((k.val:Nat):Int)+1)=[49+k.val]:=IA
 have:=key #[(f-1).toNat,t8];have e:(((f-1).toNat:Nat):Int)+1=f:=t8
 rw[e]at this;rw[this];congr 1;show 49+(f-1).toNat=(48+f).toNat;lia
def rowsT(L:List (List Nat)):List Nat:=L.flatMap λy=>47::y
def tD:∀(x:List Nat) (L:List (List Nat)),rowsL (x::L)=x++rowsT L
 |x,[]=>by simp[rowsL,rowsT]
 |x,y::L=>by
  rw[rowsL,tD y L];simp[rowsT]
def fz{x y:t6}(h:cs x=cs y):x=y:=by
 obtain⟨a⟩:=x;obtain⟨b⟩:=y;have:a=b:=H4.mp h;rw[this]
variable{x:Int}
def numS(h:B12 x):numL x=[48]\/∃pre c y,(pre=[]\/pre=[45])/\(49<=c/\c<=57)/\numL x=pre++c::y/\(y=[]\/(c=49/\∃d,(48<=d/\d<=50)/\y=[d])):=by
 rcases numL_is h with⟨c,hc,e⟩|⟨c,hc,e⟩|⟨c,hc,e⟩|⟨c,hc,e⟩
 .by_cases z:c=48
  .exact .inl (by rw[e,z])
  .exact .inr #[[],c,[],.inl rfl,t8,e,.inl rfl]
 .exact .inr #[[],49,[c],.inl rfl,y8,e,.inr #[rfl,c,hc,rfl]]
 .exact .inr #[[45],c,[],.inr rfl,hc,e,.inl rfl]
 .exact .inr #[[45],49,[c],.inr rfl,y8,e,.inr #[rfl,c,hc,rfl]]
variable{A B:Prop}
def ifT{c:Prop}[Decidable c](h:c)(a:A):if c then A else B:=by rw[if_pos h];exact a
def ifdT{p:Prop}[Decidable p](h:p)(a:A):if decide p=true then A else B:=by rw[if_pos (decide_eq_true h)];exact a
def ifdF{p:Prop}[Decidable p](h:¬p)(b:B):if decide p=true then A else B:=by rw[if_neg (by simpa using h)];exact b
def rdF(t:t6)(k:Nat):List (t6×D):=[("text",.str t),("place",.int k)]
def RdM(a:KF)(t:t6)(k:Nat):MS:=[(a,.ins "Reading" (rdF t k))]
variable{o:MO}
def dB{a:KF}:mget [(a,o)] a=be o:=by unfold mget;rw[if_pos rfl]
def gI{a:KF}{o':MO}:mput [(a,o)] a o'=[(a,o')]:=by unfold mput;rw[if_pos rfl]
variable{t:t6}
def aT{a:KF}{k:Nat}:mget (RdM a t k) a=be (.ins "Reading" (rdF t k)):=dB
def kg{k:Nat}:(rdF t k).lookup ("text":t6)=be (.str t):=rfl
def eg{k:Nat}:(rdF t k).lookup ("place":t6)=be (.int k):=by
 unfold rdF;rw[Fq,show(("place":t6)==("text":t6))=false by decide+kernel];rfl
def Bm{k:Nat}:putD ("place":t6) (.int ((k:Int)+1)) (rdF t k)=rdF t (k+1):=by
 unfold rdF putD;rw[if_neg IA];unfold putD;rw[if_pos rfl];rfl
def cQ{k:Nat}:(rdF t k).lookup ("may_take":t6)=none:=by
 unfold rdF;rw[Fq,show(("may_take":t6)==("text":t6))=false by decide+kernel,Fq,show(("may_take":t6)==("place":t6))=false by decide+kernel];rfl
def ci{k:Nat}:(rdF t k).lookup ("take":t6)=none:=by
 unfold rdF;rw[Fq,show(("take":t6)==("text":t6))=false by decide+kernel,Fq,show(("take":t6)==("place":t6))=false by decide+kernel];rfl
structure At(t:Str)(k:Nat)(l:List Nat):Prop where
 eq:(cs t).drop k=l
 le:k<=t.length
 sz:t.length<=100000
def At.nil{k:Nat}(h:At t k []):k=t.length:=by
 have h1:=congrArg Gu h.eq;rw[Gh,bj]at h1;have:=h.le;simp at h1;lia
variable{l:List Nat}
def At.lt{k:Nat}(h:At t k (c::l)):k<t.length:=by
 have h1:=congrArg Gu h.eq;rw[Gh,bj]at h1;simp at h1;lia
def At.get{k:Nat}(h:At t k (c::l)):(cs t)[k]?=be c:=by
 have h1:=congrArg (·[0]?) h.eq;simpa using h1
def At.next{k:Nat}(h:At t k (c::l)):At t (k+1) l:=by
 refine#[?_,h.lt,h.sz];have h1:=congrArg (Gy 1) h.eq;rw[List.drop_drop]at h1;simpa using h1
def At.app{t:t6}:∀{x l:List Nat} {k:Nat},At t k (x++l)->At t (k+x.length) l
 |[],_,_,h=>h
 |c::x,l,k,h=>by
  have h1:At t (k+1+x.length) l:=At.app (At.next h);have e:k+1+x.length=k+(c::x).length:=by rw[Fe];lia
  rw[e]at h1;exact h1
variable{al:t6}
def tE:(!(!(Builtin.Str.occurrences al #[[c].toArray] 0 al.length 1).isEmpty))=!decide (c∈cs al):=by
 rw[StrLaws.found_one]
def mayS(al:t6):List Nat->t6|c::_=>if c∈cs al then#[[c].toArray]else ""|[]=>""
def mayN(al:t6):List Nat->Nat|c::_=>if c∈cs al then 1 else 0|[]=>0
def eA(h:c∈cs al):mayS al (c::l)=#[[c].toArray]:=if_pos h
def eB(h:c∈cs al):mayN al (c::l)=1:=if_pos h
def dD(h:c∉cs al):mayS al (c::l)="":=if_neg h
def dE(h:c∉cs al):mayN al (c::l)=0:=if_neg h
def Bn:SiD:=λds R=>∃t:t6,ds=[.str t]/\R (rdF t 0)
def Bo:SpM:=λds M R RX=>∃(a:KF) (t:t6) (k:Nat) (l:List Nat) (al:t6),ds=[.ptr a,.str al]/\M=RdM a t k/\At t k l/\R (.str (mayS al l)) (RdM a t (k+mayN al l))
def Bp:SpM:=λds M R _=>∃(a:KF) (t:t6) (k c:Nat) (l:List Nat) (al:t6),ds=[.ptr a,.str al]/\M=RdM a t k/\At t k (c::l)/\c∈cs al/\R (.str #[[c].toArray]) (RdM a t (k+1))
def Bq(h:B12 x):PySem.intText? #[(numL x).toArray]=be x:=
 tw (P:=λx=>PySem.intText? #[(numL x).toArray]=be x) h IA
def fA(x y:List Nat):((#[x.toArray]:t6)++#[y.toArray]:t6)=#[(x++y).toArray]:=by
 apply fz;rw[bw]
def digits19:c∈cs "123456789"↔49<=c/\c<=57:=by
 have e:cs "123456789"=[49,50,51,52,53,54,55,56,57]:=rfl;rw[e];simp;lia
def digits02:c∈cs "012"↔48<=c/\c<=50:=by
 have e:cs "012"=[48,49,50]:=rfl;rw[e];simp;lia
def Br(w:List Nat)(c:Nat):Txt.endswith #[(w++[c]).toArray] "1"=decide (c=49):=by
 unfold Txt.endswith;have e1:("1":t6).length=1:=rfl;have e2:(#[(w++[c]).toArray]:t6).length=w.length+1:=by simp[Str.length]
 rw[e1,e2];have e3:decide (0+1<=w.length+1)=true:=IV
 rw[e3,Bool.true_and,HZ];unfold Builtin.Str.subAt;have e4:(#[(w++[c]).toArray]:t6).cps.extract w.length (w.length+("1":t6).length)=[c].toArray:=by
  apply H4.mp;simp[Array.toList_extract,e1]
 rw[e4];have e5:("1":t6).cps=[49].toArray:=rfl;rw[e5];by_cases h:c=49
 .subst h;rfl
 .simp[h]
def Bs:SpM:=λds M R _=>∃(a:KF) (t:t6) (k:Nat) (x:Int) (e:Nat) (l:List Nat),ds=[.ptr a]/\M=RdM a t k/\B12 x/\endS e/\At t k (numL x++e::l)/\R (.int x) (RdM a t (k+(numL x).length))
def Bt:SpM:=λds M R _=>∃(a:KF) (t:t6) (k:Nat) (x y:Int) (e:Nat) (l:List Nat),ds=[.ptr a]/\M=RdM a t k/\B12 x/\B12 y/\endS e/\At t k (numL x++44::(numL y++e::l))/\R (.tup [.int x,.int y]) (RdM a t (k+(numL x).length+1+(numL y).length))
def signs_is:c∈cs ".123456"↔isSg c=true:=by
 have e:cs ".123456"=[46,49,50,51,52,53,54]:=rfl;rw[e];simp;lia
def eE(x:List Nat):(#[x.toArray]:t6).length=x.length:=by simp[Str.length]
def tF(h:isSg c=false):c∉cs ".123456":=λz=>by rw[signs_is.mp z]at h;cases h
def S_line_from:SpM:=λds M R _=>∃(a:KF) (t:t6) (k n m:Nat) (x l:List Nat),ds=[.ptr a,.int n,.int m]/\M=RdM a t k/\At t k (x++l)/\(∀c∈x,aQ c)/\n<=x.length/\x.length<=m/\m<=8/\(x.length=m\/∃c l',l=c::l'/\isSg c=false)/\R (.str #[x.toArray]) (RdM a t (k+x.length))
def Bu{p a:KF}{k:Nat}(h:p≠a):mget ((p,o)::RdM a t k) a=be (.ins "Reading" (rdF t k)):=by
 unfold mget;rw[if_neg h];exact dB
variable{M:MS}
def cI{p:KF}:mget ((p,o)::M) p=be o:=by unfold mget;rw[if_pos rfl]
def tG{p:KF}{o':MO}:mput ((p,o)::M) p o'=(p,o')::M:=by unfold mput;rw[if_pos rfl]
def kh{p:KF}:mdel ((p,o)::M) p=M:=by unfold mdel;rw[if_pos rfl]
structure RowsL(L:List (List Nat))(w:Nat):Prop where
 many:1<=L.length/\L.length<=8
 w1:1<=w
 w8:w<=8
 each:∀x∈L,x.length=w/\∀c∈x,aQ c
def lstD(L:List (List Nat)):List D:=L.map λx=>D.str #[x.toArray]
def Bv:SpM:=λds M R _=>∃(a:KF) (t:t6) (k:Nat) (L:List (List Nat)) (w:Nat) (l:List Nat),ds=[.ptr a]/\M=RdM a t k/\RowsL L w/\At t k (rowsL L++59::l)/\R (.lst (lstD L)) (RdM a t (k+(rowsL L).length))
def hmX(w h s:Int)(i j:Int):Int:=(i-j/h*s)%w
def hRow(w h s:Int)(j:Nat):Nat->List Nat->List ((Int×Int)×Int)->List ((Int×Int)×Int)
 |_,[],kv=>kv
 |i,c::r,kv=>hRow w h s j (i+1) r (if c=46 then kv else sdD kv (hmX w h s i j) ((j:Int)%h) ((c:Int)-48))
def hAll(w h s:Int):Nat->List (List Nat)->List ((Int×Int)×Int)->List ((Int×Int)×Int)
 |_,[],kv=>kv
 |j,x::r,kv=>hAll w h s (j+1) r (hRow w h s j 0 x kv)
def tH(kv:List ((Int×Int)×Int))(x y v:Int):(sdD kv x y v).length<=kv.length+1:=by
 unfold sdD;split
 .lia
 .rw[Fn];simp
def Bw(h:49<=c/\c<=54):∃i rest,Builtin.Str.occurrences ".123456" #[[c].toArray] 0 (".123456":t6).length 1=i::rest/\((i:Nat):Int)=(c:Int)-48:=by
 rcases(t8:c=49\/c=50\/c=51\/c=52\/c=53\/c=54)with e|e|e|e|e|e<;>subst e
 .exact#[1,[],IA,y8]
 .exact#[2,[],IA,y8]
 .exact#[3,[],IA,y8]
 .exact#[4,[],IA,y8]
 .exact#[5,[],IA,y8]
 .exact#[6,[],IA,y8]
def By{x:List Nat}(h:∀c∈x,aQ c):(#[x.toArray]:t6).cps.all (·<128)=true:=by
 rw[<-HF,FP];intro c hc;have:=h c hc;unfold aQ at this;simp;lia
def Bz{L:List (List Nat)}{j:Nat}{d:D}(h:(lstD L)[j]?=be d):∃x,L[j]?=be x/\d=.str #[x.toArray]:=by
 unfold lstD at h;rw[Fg]at h;cases e:L[j]? with
 |none=>rw[e]at h;cases h
 |some x=>rw[e]at h;cases h;exact#[x,rfl,rfl]
def BA{x:List Nat}{i:Nat}{d:D}(h:(dv #[x.toArray])[i]?=be d):∃c,x[i]?=be c/\d=.str #[[c].toArray]:=by
 unfold dv at h;rw[Fg]at h;cases e:x[i]? with
 |none=>simp[e]at h
 |some c=>simp[e]at h;exact#[c,rfl,h.symm]
def tI{α:Type}{l:List α}{i:Nat}{x:α}(h:l[i]?=be x):l.drop i=x::l.drop (i+1):=by
 have hi:i<l.length:=(Fj.mp h).1;rw[Gr hi];congr 1;rw[Fo hi]at h;exact Option.some.inj h
def BB:SpM:=λds M R RX=>∃(L:List (List Nat)) (wd:Nat) (w h s:Int),ds=[.lst (lstD L),.tup [.int w,.int h,.int s]]/\RowsL L wd/\0<w/\0<h/\h<1073741824/\0<=s/\s<1073741824/\R (.dti (hAll w h s 0 L [])) M
def moF(k:Nat)(sh:D)(hu:List ((Int×Int)×Int)):List (t6×D):=[("place",.int k),("shifts",sh),("hues",.dti hu)]
def BC:SiD:=λds R=>∃(k:Nat) (L:List (List Nat)) (wd:Nat) (a b c d:Int),ds=[.int k,.lst (lstD L),.tup [.int a,.int b],.tup [.int c,.int d]]/\RowsL L wd/\B12 a/\B12 b/\B12 c/\B12 d/\¬a*d=b*c/\
 ∀w h s,FamOf a b c d w h s->R (moF k (.tup [.int w,.int h,.int s]) (hAll w h s 0 L []))
variable{v:My.D}
def BD:putD ("place":t6) v []=([("place",v)]:List (t6×D)):=rfl
variable{u:My.D}
def BE:putD ("shifts":t6) v [("place",u)]=([("place",u),("shifts",v)]:List (t6×D)):=by
 unfold putD;rw[if_neg IA];rfl
def BF{t:D}:putD ("hues":t6) v [("place",t),("shifts",u)]=([("place",t),("shifts",u),("hues",v)]:List (t6×D)):=by
 unfold putD;rw[if_neg IA];unfold putD;rw[if_neg IA];rfl
def tJ:([("place",u),("shifts",v)]:List (t6×D)).lookup ("shifts":t6)=be v:=by
 rw[Fq,show(("shifts":t6)==("place":t6))=false by decide+kernel];rfl
def BG:SiD:=λds R=>∃(x y:t6) (fs gs:List (t6×D)),ds=[.obj x fs,.obj y gs]/\R [("above",.obj x fs),("below",.obj y gs)]
def BH:SiD:=λds R=>∃(x:t6) (fs:List (t6×D)) (a b:Int),ds=[.obj x fs,.int a,.int b]/\R [("form",.obj x fs),("x",.int a),("y",.int b)]
def BI:SiD:=λds R=>∃(x:t6) (fs:List (t6×D)),ds=[.obj x fs]/\R [("form",.obj x fs)]
def BJ:SiD:=λds R=>∃(x:t6) (fs:List (t6×D)),ds=[.obj x fs]/\R [("form",.obj x fs)]
def BK:SiD:=λds R=>∃(x:t6) (fs:List (t6×D)) (a b:Int),ds=[.obj x fs,.int a,.int b]/\R [("form",.obj x fs),("old",.int a),("new",.int b)]
def FormOf:Pat->D->Prop
 |.mot L a b c d,v=>∃(k:Nat) (w h s:Int),v=.obj "Motif" (moF k (.tup [.int w,.int h,.int s]) (hAll w h s 0 (L.map cs) []))/\FamOf a b c d w h s
 |.over p q,v=>∃u u',v=.obj "Over" [("above",u),("below",u')]/\FormOf p u/\FormOf q u'
 |.sh a b p,v=>∃u,v=.obj "Shifted" [("form",u),("x",.int a),("y",.int b)]/\FormOf p u
 |.mir p,v=>∃u,v=.obj "Mirror" [("form",u)]/\FormOf p u
 |.tur p,v=>∃u,v=.obj "Turn" [("form",u)]/\FormOf p u
 |.hue f g p,v=>∃u,v=.obj "Rehue" [("form",u),("old",.int f),("new",.int g)]/\FormOf p u
def Pat.cls:Pat->t6
 |.mot ..=>"Motif"|.over ..=>"Over"|.sh ..=>"Shifted"|.mir ..=>"Mirror"|.tur ..=>"Turn"|.hue ..=>"Rehue"
variable{f g:t6}{r:List (t6×My.D)}
def bR(h:(f==g)=false)(hr:r.lookup f=m_):(((g,v)::r:List (t6×D))).lookup f=none:=by
 rw[Fq,h];exact hr
structure ObjM(p:Pat)(fs:List (Str×D)):Prop where
 nl:noLF fs=true
 fam:fs.lookup ("family":t6)=m_
 shw:fs.lookup ("shows":t6)=m_
variable{p:Pat}
def FormOf.objm:∀{v:D},FormOf p v->∃fs,v=.obj p.cls fs/\ObjM p fs:=by
 have n1 {g:t6} {u:D} {f:t6} (h:(f==g)=false):([(g,u)]:List (t6×D)).lookup f=none:=bR h rfl;have nn {fs:List (t6×D)} {x:t6} (h:noLF fs=true):noL (.obj x fs)=true:=by simp[noL,h]
 induction p with
 |mot L a b c d=>
  rintro _⟨k,w,h,s,rfl,_⟩;exact#[_,rfl,by simp[noL,noLF,noLs,moF],bR IA (bR IA (n1 IA)),bR IA (bR IA (n1 IA))]
 |over p q i j=>
  rintro _⟨u,u',rfl,h1,h2⟩;obtain⟨fs,rfl,o1⟩:=i h1;obtain⟨gs,rfl,o2⟩:=j h2;exact#[_,rfl,by simp[noLF,nn o1.nl,nn o2.nl],bR IA (n1 IA),bR IA (n1 IA)]
 |sh a b p i=>
  rintro _⟨u,rfl,h1⟩;obtain⟨fs,rfl,o1⟩:=i h1;exact#[_,rfl,by simp[noL,noLF,o1.nl],bR IA (bR IA (n1 IA)),bR IA (bR IA (n1 IA))]
 |mir p i=>
  rintro _⟨u,rfl,h1⟩;obtain⟨fs,rfl,o1⟩:=i h1;exact#[_,rfl,by simp[noLF,nn o1.nl],n1 IA,n1 IA]
 |tur p i=>
  rintro _⟨u,rfl,h1⟩;obtain⟨fs,rfl,o1⟩:=i h1;exact#[_,rfl,by simp[noLF,nn o1.nl],n1 IA,n1 IA]
 |hue f g p i=>
  rintro _⟨u,rfl,h1⟩;obtain⟨fs,rfl,o1⟩:=i h1;exact#[_,rfl,by simp[noL,noLF,o1.nl],bR IA (bR IA (n1 IA)),bR IA (bR IA (n1 IA))]
variable{L:List t6}
def BL(h:Rows L):∃w,RowsL (L.map cs) w:=by
 obtain⟨h1,w,h2,h3⟩:=h;refine#[w,by rw[E9];exact h1,h2.1,h2.2,λx hx=>?_];obtain⟨l,hl,rfl⟩:=FA.mp hx;rw[bj];exact h3 l hl
def tK{f:Int}(h:1<=f/\f<=6):(48+f).toNat∈cs "123456":=by
 have e:cs "123456"=[49,50,51,52,53,54]:=rfl;rw[e];simp;lia
def BM:SpM:=λds M R _=>∃(g:KF) (t:t6) (k:Nat) (L:List t6) (a b c d:Int) (l:List Nat),ds=[.ptr g]/\M=RdM g t k/\At t k (motL (L.map cs) a b c d++l)/\(Pat.mot L a b c d).Wf/\∀v,FormOf (.mot L a b c d) v->R v (RdM g t (k+(motL (L.map cs) a b c d).length))
def cR(j:Nat):SpM:=λds M R _=>∃(a:KF) (t:t6) (k:Nat) (p:Pat) (l:List Nat) (d:Nat),ds=[.ptr a,.int d]/\M=RdM a t k/\At t k (p.tl++l)/\d+j=6/\1<=j/\p.Wf/\p.depth+d<=5/\∀v,FormOf p v->R v (RdM a t (k+p.tl.length))
variable{ds:List My.D}{R:My.D->MS->Prop}{RX:XDM}
def BN:¬cR 0 ds M R RX:=by
 rintro⟨_,_,_,_,_,_,_,_,_,_,h,_⟩;exact absurd h y8
def tL(j:Nat):SpM:=λds M R _=>∃(a:KF) (t:t6) (k:Nat) (p q:Pat) (l:List Nat) (d:Nat),ds=[.ptr a,.int d]/\M=RdM a t k/\At t k (p.tl++124::(q.tl++41::l))/\d+j=6/\1<=j/\p.Wf/\q.Wf/\p.depth+d<=5/\q.depth+d<=5/\∀u u',FormOf p u->FormOf q u'->R (.obj "Over" [("above",u),("below",u')]) (RdM a t (k+p.tl.length+1+q.tl.length+1))
def tM(j:Nat):SpM:=λds M R _=>∃(a:KF) (t:t6) (k:Nat) (x y:Int) (p:Pat) (l:List Nat) (d:Nat),ds=[.ptr a,.int d]/\M=RdM a t k/\At t k (numL x++44::(numL y++58::(p.tl++l)))/\d+j=6/\1<=j/\B12 x/\B12 y/\p.Wf/\p.depth+d<=5/\∀u,FormOf p u->R (.obj "Shifted" [("form",u),("x",.int x),("y",.int y)]) (RdM a t (k+(numL x).length+1+(numL y).length+1+p.tl.length))
def tN(j:Nat):SpM:=λds M R _=>∃(a:KF) (t:t6) (k:Nat) (f g:Int) (p:Pat) (l:List Nat) (d:Nat),ds=[.ptr a,.int d]/\M=RdM a t k/\At t k ((48+f).toNat::(48+g).toNat::(p.tl++l))/\d+j=6/\1<=j/\(1<=f/\f<=6)/\(1<=g/\g<=6)/\p.Wf/\p.depth+d<=5/\∀u,FormOf p u->R (.obj "Rehue" [("form",u),("old",.int f),("new",.int g)]) (RdM a t (k+2+p.tl.length))
def Pat.cls_mem(p:Pat):p.cls∈(["Motif","Over","Shifted","Mirror","Turn","Rehue"]:List t6):=by
 cases p<;>simp[Pat.cls]
variable{hu:List ((Int×Int)×Int)}
def mo_shifts{k:Nat}{sh:D}:(moF k sh hu).lookup ("shifts":t6)=be sh:=by
 unfold moF;rw[Fq,show(("shifts":t6)==("place":t6))=false by decide+kernel];rfl
def BO{k:Nat}{sh:D}:(moF k sh hu).lookup ("hues":t6)=be (.dti hu):=by
 unfold moF;rw[Fq,show(("hues":t6)==("place":t6))=false by decide+kernel,Fq,show(("hues":t6)==("shifts":t6))=false by decide+kernel];rfl
def eF(h:(g==f)=false):(((f,u)::(g,v)::r:List (t6×D))).lookup g=be v:=by
 rw[Fq,h,Fq,beq_self_eq_true]
def ki{e:t6}{t:D}(h1:(g==e)=false)(h2:(g==f)=false):(((e,t)::(f,u)::(g,v)::r:List (t6×D))).lookup g=be v:=by
 rw[Fq,h1];exact eF h2
variable{w s:Int}
def Pat.Fits.small(h:p.Fits){k:Int}(f:p.Fam w k s):0<w/\w<=720/\0<k/\k<=720/\0<=s/\s<w:=by
 obtain⟨w',k',s',f',hb⟩:=h;obtain⟨rfl,rfl,rfl⟩:=f.uniq f';obtain⟨h1,h2⟩:=bU f.f.w0 f.f.h0;exact#[f.f.w0,t8,f.f.h0,t8,f.f.s0,f.f.sw]
variable{q:Pat}
def Pat.Fits.over_parts(hp:p.Wf)(hq:q.Wf)(h:(Pat.over p q).Fits):p.Fits/\q.Fits:=by
 obtain⟨w,k,s,f,hb⟩:=h;obtain⟨w1,k1,s1,f1⟩:=Pat.fam_ex hp;obtain⟨w2,k2,s2,f2⟩:=Pat.fam_ex hq;have l1:=(InF.le f1.f.w0 f1.f.h0 f.f.w0 f.f.h0 (λx y z=>(f1.lat x y).mpr ((f.lat x y).mp z).1)).1;have l2:=(InF.le f2.f.w0 f2.f.h0 f.f.w0 f.f.h0 (λx y z=>(f2.lat x y).mpr ((f.lat x y).mp z).2)).1;exact#[#[w1,k1,s1,f1,t8],#[w2,k2,s2,f2,t8]]
variable{b:Int}
def Pat.Fits.of_sh(h:(Pat.sh a b p).Fits):p.Fits:=by
 obtain⟨w,k,s,f,hb⟩:=h;exact#[w,k,s,#[f.f,f.lat],hb]
def Pat.Fits.of_hue(h:(Pat.hue a b p).Fits):p.Fits:=by
 obtain⟨w,k,s,f,hb⟩:=h;exact#[w,k,s,#[f.f,f.lat],hb]
def Pat.Fits.of_mir(hp:p.Wf)(h:(Pat.mir p).Fits):p.Fits:=by
 obtain⟨w,k,s,f,hb⟩:=h;obtain⟨w1,k1,s1,f1⟩:=Pat.fam_ex hp;obtain⟨rfl,rfl,_⟩:=f.uniq f1.mir;exact#[_,_,_,f1,hb]
def Pat.Fits.of_tur(hp:p.Wf)(h:(Pat.tur p).Fits):p.Fits:=by
 obtain⟨w,k,s,f,hb⟩:=h;obtain⟨w1,k1,s1,f1⟩:=Pat.fam_ex hp;obtain⟨w',k',s',f',e⟩:=gG (s:=s1) f1.f.w0 f1.f.h0;obtain⟨rfl,rfl,_⟩:=f.uniq (f1.tur f');exact#[_,_,_,f1,t8]
def bV(j:Nat)(x:t6):SpX:=λds R _=>∃(p:Pat) (v:D),ds=[v]/\FormOf p v/\p.Wf/\p.depth<j/\p.cls=x/\p.Fits/\∀w h s,p.Fam w h s->R (.tup [.int w,.int h,.int s])
def eI{x:t6}:¬ofX (bV 0 x) ds M R RX:=by
 rintro⟨_,_,_,_,_,h,_⟩;exact absurd h (F8 _)
def lookD_app(x y v X Y:Int):∀kv:List ((Int×Int)×Int),lookD (kv++[((x,y),v)]) X Y=match lookD kv X Y with|some u=>be u|none=>if x=X/\y=Y then be v else m_
 |[]=>rfl
 |((a,b),h)::r=>by
  show lookD (((a,b),h)::(r++[((x,y),v)])) X Y=_;unfold lookD;by_cases e:a=X/\b=Y
  .rw[if_pos e,if_pos e]
  .rw[if_neg e,if_neg e];exact lookD_app x y v X Y r
def BP(kv:List ((Int×Int)×Int))(x y v X Y:Int):lookD (sdD kv x y v) X Y=match lookD kv X Y with|some u=>be u|none=>if x=X/\y=Y then be v else none:=by
 unfold sdD;split
 .rename_i hs;cases e:lookD kv X Y with
  |some u=>rfl
  |none=>
   show m_=_;rw[if_neg];rintro⟨rfl,rfl⟩;rw[e]at hs;cases hs
 .exact lookD_app x y v X Y kv
def look_row(w h s:Int)(j:Nat)(X Y:Int):∀(x:List Nat) (i:Nat) (kv:List ((Int×Int)×Int)),lookD (hRow w h s j i x kv) X Y=match lookD kv X Y with|some u=>be u|none=>(scanRow (λi=>decide (hmX w h s i j=X/\(j:Int)%h=Y)) i x).map λc=>(c:Int)-48
 |[],i,kv=>by
  rw[hRow,scanRow];cases lookD kv X Y<;>rfl
 |c::r,i,kv=>by
  rw[hRow,look_row w h s j X Y r (i+1),scanRow];by_cases q8:c=46
  .rw[if_pos q8,if_neg (c:=c≠46/\_) (λz=>z.1 q8)]
  .rw[if_neg q8,BP];cases lookD kv X Y with
   |some u=>rfl
   |none=>
    by_cases e:hmX w h s i j=X/\(j:Int)%h=Y
    .rw[if_pos (c:=c≠46/\_) #[q8,decide_eq_true e]];show(match (if hmX w h s i j=X/\(j:Int)%h=Y then be ((c:Int)-48)else m_)with|some u=>be u|none=>_)=_;rw[if_pos e];rfl
    .rw[if_neg (c:=c≠46/\_) (λz=>e (of_decide_eq_true z.2))];show(match (if hmX w h s i j=X/\(j:Int)%h=Y then be ((c:Int)-48)else m_)with|some u=>be u|none=>_)=_;rw[if_neg e]
def tO(w h s X Y:Int):∀(L:List t6) (j:Nat) (kv:List ((Int×Int)×Int)),lookD (hAll w h s j (L.map cs) kv) X Y=match lookD kv X Y with|some u=>be u|none=>(bP (λi j=>decide (hmX w h s i j=X/\j%h=Y)) j L).map λc=>(c:Int)-48
 |[],j,kv=>by
  rw[FW,hAll,bP];cases lookD kv X Y<;>rfl
 |x::r,j,kv=>by
  rw[Fi,hAll,tO w h s X Y r (j+1),look_row,bP];cases lookD kv X Y with
  |some u=>rfl
  |none=>
   show(match (scanRow (λi=>decide (hmX w h s i j=X/\(j:Int)%h=Y)) 0 (cs x)).map (λc=>(c:Int)-48)with|some u=>be u|none=>_)=_;cases scanRow (λi=>decide (hmX w h s i j=X/\(j:Int)%h=Y)) 0 (cs x)<;>rfl
variable{h:Int}
def BQ{c d:Int}(F:FamOf a b c d w h s)(hn:¬a*d=b*c)(x y i j:Int):decide (hmX w h s i j=hmX w h s x y/\j%h=y%h)=onB a b c d (x-i) (y-j):=by
 have hw:=F.1;have hh:=F.2.1;have key:(hmX w h s i j=hmX w h s x y/\j%h=y%h)↔InF w h s (x-i) (y-j):=by
  unfold hmX;constructor
  .rintro⟨e1,e2⟩;have dy:=Gq y h;have dj:=Gq j h;have m1:=Gq (x-y/h*s) w;have m2:=Gq (i-j/h*s) w;refine#[(x-y/h*s)/w-(i-j/h*s)/w,y/h-j/h,?_,?_]
   .rw[GU,GU,Fs ((x-y/h*s)/w) w,Fs ((i-j/h*s)/w) w];lia
   .rw[GU,Fs (y/h) h,Fs (j/h) h];lia
  .rintro⟨m,q,ex,ey⟩;have Pk:y=j+q*h:=by lia
   have Nl:x=i+(m*w+q*s):=t8
   subst Nl Pk;rw[H8,Int.add_mul_ediv_right _ _ t8];refine#[?_,rfl];have e:i+(m*w+q*s)-(j/h+q)*s=i-j/h*s+m*w:=by rw[GV];lia
   rw[e,H8]
 unfold onB;congr 1;apply propext;rw[key,F.lat];constructor
 .rintro⟨m,q,eu,ev⟩;exact sH eu ev
 .exact λz=>sW hn z
def BR(h:49<=c/\c<=54):cell [0,1,2,3,4,5,6] ((c:Int)-48)=(c:Int)-48:=by
 rcases(t8:c=49\/c=50\/c=51\/c=52\/c=53\/c=54)with e|e|e|e|e|e<;>subst e<;>rfl
def motif_shows{c d:Int}(hL:Rows L)(F:FamOf a b c d w h s)(hn:¬a*d=b*c)(x y:Int):(lookD (hAll w h s 0 (L.map cs) []) (hmX w h s x y) (y%h)).getD 0=(bg L a b c d).shows x y:=by
 rw[tO];show((bP (λi j=>decide (hmX w h s i j=hmX w h s x y/\j%h=y%h)) 0 L).map λc=>(c:Int)-48).getD 0=_;have e:(λi j=>decide (hmX w h s i j=hmX w h s x y/\j%h=y%h))=λi j=>onB a b c d (1*x+0*y+0-i) (0*x+1*y+0-j):=by
  funext i j;rw[BQ F hn];congr 1<;>lia
 rw[e];show _=match bP (λi j=>onB a b c d (1*x+0*y+0-i) (0*x+1*y+0-j)) 0 L with|some c=>cell [0,1,2,3,4,5,6] ((c:Int)-48)|none=>0
 cases q:bP (λi j=>onB a b c d (1*x+0*y+0-i) (0*x+1*y+0-j)) 0 L with
 |none=>rfl
 |some c=>
  have hc:49<=c/\c<=54:=jZ (λl' q=>let ⟨_,_,_,h⟩:=hL;(h l' q).2) q;exact(BR hc).symm
def bW(j:Nat)(x:t6):SpX:=λds R _=>∃(p:Pat) (v:D) (X Y:Int),ds=[v,.int X,.int Y]/\FormOf p v/\p.Wf/\p.depth<j/\p.cls=x/\R (.int (p.show X Y))
def eJ{x:t6}:¬ofX (bW 0 x) ds M R RX:=by
 rintro⟨_,_,_,_,_,_,_,h,_⟩;exact absurd h (F8 _)
structure PatOf(p:Pat)(w h s:Int)(fs:List (Str×D)):Prop extends Pat.Fam p w h s where
 form:∃v,fs.lookup ("form":t6)=be v/\FormOf p v
 nl:noLF fs=true
def aR(p:Pat)(d:D):Prop:=∃w h s fs,d=.obj "Pattern" fs/\fs.lookup ("text":t6)=be (.str p.text)/\fs.lookup ("shifts":t6)=be (.tup [.int w,.int h,.int s])/\PatOf p w h s fs
def bt(x:Int):Prop:=-1000000000000<=x/\x<=1000000000000
def Pat.show_le(h:p.Wf)(hd:p.depth<=40)(x y:Int):0<=p.show x y/\p.show x y<=6:=by
 rw[<-Pat.show_leaves h hd];exact sQ x y (Pat.leaf_ok h hd)
def bX(h:Int):Nat:=if h=0 then 46 else(48+h).toNat
def aB(p:Pat)(x y:Int)(n:Nat):Str:=#[((E7 n).map λ(k:Nat)=>bX (p.show (x+(k:Int)) y)).toArray]
def tP(p:Pat)(x y:Int)(n:Nat):(aB p x y n).length=n:=by simp[aB,Str.length]
def tQ(h0:0<=h)(h6:h<=6):atI (cs ".123456") h=be (bX h):=by
 rcases(t8:h=0\/h=1\/h=2\/h=3\/h=4\/h=5\/h=6)with e|e|e|e|e|e|e<;>subst e<;>decide+kernel
variable{j i:Int}
def range2_int{k:Nat}{x:D}(h:((E7 (j-i).toNat).map λk=>D.int (i+((k:Nat):Int)))[k]?=be x):k<(j-i).toNat/\x=.int (i+(k:Int)):=by
 have hk:k<(j-i).toNat:=by simpa using(Fj.mp h).1
 refine#[hk,?_];simp[hk]at h;exact h.symm
def tR:∀L:List t6,cs (Str.join "" L)=L.flatMap cs
 |[]=>rfl
 |[x]=>by simp[Str.join]
 |x::y::r=>by
  show cs (x++""++Str.join "" (y::r))=_;rw[bw,bw,tR (y::r),sO];simp
def tS(f:Nat->Nat)(n:Nat):Str.join "" ((E7 n).map λi=>(#[[f i].toArray]:t6))=#[((E7 n).map f).toArray]:=by
 apply fz;rw[tR,List.flatMap_map];show(E7 n).flatMap (λi=>[f i])=(E7 n).map f;rw[List.map_eq_flatMap]
def BS:SiD:=λds R=>∃(t:t6) (w h s:Int) (x:t6) (fs:List (t6×D)),ds=[.str t,.tup [.int w,.int h,.int s],.obj x fs]/\R [("text",.str t),("shifts",.tup [.int w,.int h,.int s]),("form",.obj x fs)]
def tT:SpX:=λds R _=>∃p:Pat,ds=[.str p.text]/\p.Ok/\∀d,aR p d->R d
def tU{R:D->Prop}(ok:p.Ok)(h:∀d,aR p d->R d):rO tT [.str p.text] R:=#[p,rfl,ok,h]
def BT:SpX:=λds R RX=>∃x y:Int,ds=[.int x,.int y]/\(bt x/\bt y->R .non)/\(¬(bt x/\bt y)->RX "TooFar" [])
def BU:SpX:=λds R RX=>∃(p:Pat) (d:D) (x y:Int),ds=[d,.int x,.int y]/\aR p d/\p.Ok/\(bt x/\bt y->R (.int (p.show x y)))/\(¬(bt x/\bt y)->RX "TooFar" [])
def BV:SpD:=λds R=>∃(p:Pat) (d:D) (x y:Int) (n:Nat),ds=[d,.int x,.int y,.int n]/\aR p d/\p.Ok/\n<=1000/\bt x/\bt (x+n-1)/\bt y/\R (.str (aB p x y n))
def rowD(p:Pat)(x y:Int)(n:Nat):List D:=(E7 n).map λ(i:Nat)=>D.str #[[bX (p.show (x+(i:Int)) y)].toArray]
def BW(p:Pat)(x y:Int)(k:Nat):rowD p x y k++[D.str #[[bX (p.show (x+(k:Int)) y)].toArray]]=rowD p x y (k+1):=by
 unfold rowD;rw[Gm,FD];rfl
variable{n:Nat}
def BX(p:Pat)(x y:Int)(hn:n<=1000):∃ys,cH (rowD p x y n)=be ys/\(ys.map (·.length)).sum+ys.length*("":t6).length<=1000000/\Txt.join "" ys=aB p x y n:=by
 have e1:rowD p x y n=((E7 n).map λ(i:Nat)=>(#[[bX (p.show (x+(i:Int)) y)].toArray]:t6)).map D.str:=by unfold rowD;rw[Hi];rfl
 rw[e1];refine#[_,gD _,?_,(StrLaws.glued_eq_join _ _).trans (tS (λi=>bX (p.show (x+(i:Int)) y)) n)];rw[jY (w:=1) (λl hl=>by obtain⟨i,_,rfl⟩:=FA.mp hl;rfl),E9,Hj,show("":t6).length=0 from rfl];lia
def BY{n:Int}:x.fmod n=0↔n∣x:=#[Int.dvd_of_fmod_eq_zero,Hc]
def BZ(a b c d u v i j:Int):onB a b c d (u+(i*a+j*c)) (v+(i*b+j*d))=onB a b c d u v:=by
 unfold onB;have e1:(u+(i*a+j*c))*d-(v+(i*b+j*d))*c=(u*d-v*c)+(a*d-b*c)*i:=J9
 have e2:a*(v+(i*b+j*d))-b*(u+(i*a+j*c))=(a*v-b*u)+(a*d-b*c)*j:=J9
 rw[e1,e2];simp only[BY];have h1:(a*d-b*c∣u*d-v*c+(a*d-b*c)*i)↔a*d-b*c∣u*d-v*c:=H9 (Ia _ _);have h2:(a*d-b*c∣a*v-b*u+(a*d-b*c)*j)↔a*d-b*c∣a*v-b*u:=H9 (Ia _ _);simp only[h1,h2]
def Pat.Keeps(p:Pat)(X Y:Int):Prop:=∀x y,p.show (x+X) (y+Y)=p.show x y
def Pat.lat_keeps:∀{p:Pat} {X Y:Int},p.Lat X Y->p.Keeps X Y
 | .mot L a b c d,_,_,⟨i,j,rfl,rfl⟩,x,y=>by
  have e:∀u v:Int,onB a b c d (1*(x+(i*a+j*c))+0*(y+(i*b+j*d))+0-u) (0*(x+(i*a+j*c))+1*(y+(i*b+j*d))+0-v)=onB a b c d (1*x+0*y+0-u) (0*x+1*y+0-v):=λu v=>by
   rw[<-BZ a b c d (1*x+0*y+0-u) (0*x+1*y+0-v) i j];congr 1<;>lia
  show Leaf.shows _ _ _=Leaf.shows _ _ _;unfold Leaf.shows Leaf.hit;simp only[bg,e]
 |.over p q,X,Y,h,x,y=>by
  simp only[Pat.show];rw[Pat.lat_keeps h.1 x y,Pat.lat_keeps h.2 x y]
 |.sh a b p,X,Y,h,x,y=>by
  have:=Pat.lat_keeps (p:=p) h (x-a) (y-b);simp only[Pat.show];rw[<-this];congr 1<;>lia
 |.mir p,X,Y,h,x,y=>by
  have:=Pat.lat_keeps (p:=p) h (-x) y;simp only[Pat.show];rw[<-this];congr 1;lia
 |.tur p,X,Y,h,x,y=>by
  have:=Pat.lat_keeps (p:=p) h y (-x);simp only[Pat.show];rw[<-this];congr 1;lia
 |.hue f g p,X,Y,h,x,y=>by
  simp only[Pat.show];rw[Pat.lat_keeps (p:=p) h x y]
namespace Pat.Keeps
variable {p:Pat}{X Y U V:Int}
def zero:p.Keeps 0 0:=λx y=>by rw[GW,GW]
def add(h:p.Keeps X Y)(k:p.Keeps U V):p.Keeps (X+U) (Y+V):=λx y=>by
 rw[<-Ib,<-Ib,k,h]
def neg(h:p.Keeps X Y):p.Keeps (-X) (-Y):=λx y=>by
 have:=h (x+-X) (y+-Y);rw[<-this];congr 1<;>lia
def sub(h:p.Keeps X Y)(k:p.Keeps U V):p.Keeps (X-U) (Y-V):=by
 have:=h.add k.neg;rwa [<-Ic,<-Ic]at this
def nat(h:p.Keeps X Y):∀n:Nat,p.Keeps ((n:Int)*X) ((n:Int)*Y)
 |0=>by simpa using zero
 |n+1=>by
  have:=(nat h n).add h;have e:∀z:Int,((n+1:Nat):Int)*z=(n:Int)*z+z:=λz=>by rw[Ie,GV];simp
  rw[e,e];exact this
def mul(h:p.Keeps X Y)(n:Int):p.Keeps (n*X) (n*Y):=by
 rcases HL 0 n with q|q
 .have:=h.nat n.toNat;rwa [FE q]at this
 .have:=(h.nat (-n).toNat).neg;rw[FE t8]at this;simpa[Ga]using this
end Pat.Keeps
variable{y:Int}
def InF.keeps(a:p.Keeps w 0)(b:p.Keeps s h)(q:InF w h s x y):p.Keeps x y:=by
 obtain⟨i,j,rfl,rfl⟩:=q;have:=(a.mul i).add (b.mul j);rwa [GX,Hk]at this
def InF.one(w h s:Int):InF w h s w 0:=#[1,0,t8,t8]
def InF.two(w h s:Int):InF w h s s h:=#[0,1,t8,t8]
def Pat.Fam.keeps(f:p.Fam w h s)(q:InF w h s x y):p.Keeps x y:=Pat.lat_keeps ((f.lat x y).mp q)
structure Pat.Kfam(p:Pat)(w h s:Int):Prop where
 f:Fam0 w h s
 keeps:∀{x y},InF w h s x y->p.Keeps x y
def Pat.Fam.k(F:p.Fam w h s):p.Kfam w h s:=#[F.f,F.keeps]
structure Pat.Least(p:Pat)(w h s:Int):Prop where
 f:Fam0 w h s
 lat:∀x y,InF w h s x y↔p.Keeps x y
variable{w' h' s':Int}
def Pat.Least.uniq(a:p.Least w h s)(b:p.Least w' h' s'):w=w'/\h=h'/\s=s':=
 InF.uniq a.f.w0 a.f.h0 a.f.s0 a.f.sw b.f.w0 b.f.h0 b.f.s0 b.f.sw λx y=>(a.lat x y).trans (b.lat x y).symm
def B0{P:Nat->Prop}(h:∃n,P n):∃n,P n/\∀m,P m->n<=m:=by
 obtain⟨n,hn⟩:=h;induction n using Nat.strongRecOn with
 |ind n ih=>
  by_cases q:∃m,m<n/\P m
  .obtain⟨m,hm,pm⟩:=q;exact ih m hm pm
  .exact#[n,hn,λm pm=>Gw λz=>q #[m,z,pm]]
def tV(hw:0<w)(h:P w):∃n:Int,0<n/\P n/\∀m,0<m->P m->n<=m:=by
 obtain⟨n,⟨a,b⟩,c⟩:=B0 (P:=λn=>0<n/\P (n:Int)) #[w.toNat,t8,by rw[FE t8];exact h];exact#[n,t8,b,λm hm pm=>by have:=c m.toNat #[t8,by rw[FE t8];exact pm];lia]
def tW{n:Int}(hn:0<n)(pn:P n)(l:∀m,0<m->P m->n<=m)(cl:∀x q,P x->P (x-q*n))(hx:P x):n∣x:=by
 have e:=FJ x n;have a:=FF x (t8:n≠0);have b:=FG x hn;have c:=cl x (x/n) hx;have d:x-x/n*n=x%n:=by rw[e,Fs]
 rw[d]at c;by_cases z:x%n=0
 .exact Int.dvd_of_emod_eq_zero z
 .have:=l _ t8 c;lia
def Pat.least_ex(F:p.Kfam w h s):∃w' h' s',p.Least w' h' s'/\w'∣w/\h'∣h/\w'*h'<=w*h/\w'<=w/\h'<=h:=by
 obtain⟨m,m0,mk,ml⟩:=tV (P:=λx=>p.Keeps x 0) F.f.w0 (F.keeps (InF.one w h s));have md:∀{x},p.Keeps x 0->m∣x:=λ{x} q=>tW (P:=λx=>p.Keeps x 0) m0 mk ml (λx q hx=>by
  have:=hx.sub (mk.mul q);rwa [GX,GQ]at this) q
 obtain⟨k,k0,⟨t,kk⟩,kl⟩:=tV (P:=λy=>∃x,p.Keeps x y) F.f.h0 #[s,F.keeps (InF.two w h s)];have kd:∀{x y},p.Keeps x y->k∣y:=λ{x y} q=>tW (P:=λy=>∃x,p.Keeps x y) k0 #[t,kk] kl (λy q ⟨x,hx⟩=>#[x-q*t,hx.sub (kk.mul q)]) #[x,q];have e:=FJ t m;have sk:p.Keeps (t%m) k:=by
  have:=kk.sub (mk.mul (t/m));rw[GX,GQ]at this;rw[e,Fs];exact this
 have L:p.Least m k (t%m):=by
  refine#[#[m0,k0,FF t t8,FG t m0],λx y=>#[λq=>q.keeps mk sk,λq=>?_]];obtain⟨j,rfl⟩:=kd q;have:=q.sub (sk.mul j);rw[Fs k j,HX]at this;obtain⟨i,hi⟩:=md this;exact#[i,j,by rw[Fs i m,<-hi];lia,Fs _ _]
 obtain⟨a,b,c⟩:=InF.le m0 k0 F.f.w0 F.f.h0 (λx y q=>(L.lat x y).mpr (F.keeps q));exact#[m,k,_,L,md (F.keeps (InF.one w h s)),kd (F.keeps (InF.two w h s)),a,b,c]
def tX(hw:0<w)(hh:0<h)(x y:Int):InF w h s (x-hmX w h s x y) (y-y%h):=by
 have e1:=FJ y h;have e2:=FJ (x-y/h*s) w;refine#[(x-y/h*s)/w,y/h,?_,by rw[e1,Fs];lia];unfold hmX;rw[e2,Fs w];lia
def Pat.show_home(hw:0<w)(hh:0<h)(k:∀x y,InF w h s x y->p.Keeps x y)(x y:Int):p.show (hmX w h s x y) (y%h)=p.show x y:=by
 have:=k _ _ (tX (s:=s) hw hh x y) (hmX w h s x y) (y%h);rw[<-this];congr 1<;>lia
def B1(f:Nat->Nat){w:Nat}(h:c<w):((E7 w).map f).drop c++((E7 w).map f).take c=(E7 w).map λk=>f ((c+k)%w):=by
 apply GJ;intro i;by_cases h1:i<w-c
 .rw[FK (by simp;exact h1),List.getElem?_drop,Fg,Fg,FS t8,FS t8];simp[Ig (show c+i<w by lia)]
 .rw[FV Nw];simp only[Gh,E9,Hj];by_cases h2:i<w
  .rw[Ht t8,Fg,Fg,FS t8,FS t8];have e:(c+i)%w=i-(w-c):=by
    rw[show c+i=(i-(w-c))+w by lia,Nat.add_mod_right,Ig t8]
   simp[e]
  .rw[FQ Nw,FQ Nw]
def gJ(l:List Nat):cs (#[l.toArray]:t6)=l:=IV
def B2{c:Int}(ht:cs t=l)(c0:0<=c)(cl:c<l.length):Txt.slice t (be c) m_++Txt.slice t m_ (be c)=(#[(l.drop c.toNat++l.take c.toNat).toArray]:t6):=by
 have hl:t.length=l.length:=by rw[<-ht,bj]
 apply fz;rw[bw,slice_cps,slice_cps,gJ,gJ,gJ,show t.cps.toList=l from ht,hl];have e1:HT.sIx l.length 0 (be c)=c.toNat:=by show(if c<0 then _ else min c.toNat l.length)=_;rw[if_neg t8];lia
 have e2:HT.sIx l.length l.length m_=l.length:=rfl;have e3:HT.sIx l.length 0 m_=0:=rfl;have e4:HT.sIx l.length l.length (be c)=c.toNat:=by show(if c<0 then _ else min c.toNat l.length)=_;rw[if_neg t8];lia
 rw[e1,e2,e3,e4,Ih,Gn IV];rfl
def cS(p:Pat)(x y:Int)(n:Nat):cs (aB p x y n)=(E7 n).map λ(k:Nat)=>bX (p.show (x+(k:Int)) y):=gJ _
def tY(hw:0<w)(hh:0<h)(k:∀x y,InF w h s x y->p.Keeps x y)(x y:Int):
  Txt.slice (aB p 0 (y%h) w.toNat) (be (hmX w h s x y)) m_++Txt.slice (aB p 0 (y%h) w.toNat) m_ (be (hmX w h s x y))=aB p x y w.toNat:=by
 have c0:0<=hmX w h s x y:=FF _ t8;have c1:hmX w h s x y<w:=FG _ hw;rw[B2 (cS p 0 (y%h) w.toNat) c0 Nw,B1 _ t8];unfold aB;congr 2;apply Ha;intro i _;have e:=Pat.show_home hw hh k (x+(i:Int)) y;rw[<-e];congr 2;have q:hmX w h s (x+(i:Int)) y=(hmX w h s x y+i)%w:=by
  unfold hmX;rw[Int.emod_add_emod];congr 1;lia
 rw[q,Hk,Int.natCast_emod,Ie,FE c0,FE t8]
def aX(p:Pat)(w h:Int):D:=.lst ((E7 h.toNat).map λ(y:Nat)=>D.str (aB p 0 (y:Int) w.toNat))
def B3:SpD:=λds R=>∃(p:Pat) (d:D),ds=[d]/\aR p d/\p.Ok/\∀w h s,p.Fam w h s->w*h<=720->w<=720->h<=720->R (aX p w h)
def B4:SpD:=λds R=>∃(p:Pat) (w h s x y:Int),ds=[.tup [.int w,.int h,.int s],aX p w h,.int x,.int y]/\p.Fam w h s/\w<=720/\h<=720/\R (.str (aB p x y w.toNat))
def tZ(a0:0<=a)(a6:a<=6)(b0:0<=b)(b6:b<=6)(e:bX a=bX b):a=b:=by
 unfold bX at e;split at e<;>split at e<;>lia
def B5{u v:Int}(hp:p.Ok)(hq:q.Ok)(e:aB p x y n=aB q u v n){k:Nat}(hk:k<n):p.show (x+k) y=q.show (u+k) v:=by
 have e2:cs (aB p x y n)=cs (aB q u v n):=by rw[e]
 rw[cS,cS]at e2;have e3:=congrArg (λl=>l[k]?) e2;simp[hk]at e3;have a:=Pat.show_le hp.wf (by have:=hp.deep;lia) (x+k) y;have b:=Pat.show_le hq.wf (by have:=hq.deep;lia) (u+k) v;exact tZ a.1 a.2 b.1 b.2 e3
def rowText_eq{u v:Int}(e:∀k:Nat,k<n->p.show (x+k) y=q.show (u+k) v):aB p x y n=aB q u v n:=by
 apply fz;rw[cS,cS];exact Ha λk hk=>by rw[e k (by simpa using hk)]
def gK(ok:p.Ok)(F:p.Kfam w h s)(x y:Int):(∀j:Nat,j<h.toNat->aB p x (y+j) w.toNat=aB p 0 j w.toNat)↔p.Keeps x y:=by
 have hw:=F.f.w0;have hh:=F.f.h0;constructor
 .intro e a b;have c0:0<=hmX w h s a b:=FF _ t8;have c1:hmX w h s a b<w:=FG _ hw;have d0:0<=b%h:=FF _ t8;have d1:b%h<h:=FG _ hh;have k:=F.keeps (tX (s:=s) hw hh a b);have q:=B5 ok ok (e (b%h).toNat t8) (k:=(hmX w h s a b).toNat) t8;rw[FE c0,FE d0]at q;have q1:=k (x+hmX w h s a b) (y+b%h);have q2:=k (0+hmX w h s a b) (b%h);rw[show x+hmX w h s a b+(a-hmX w h s a b)=a+x by lia,show y+b%h+(b-b%h)=b+y by lia]at q1;rw[show 0+hmX w h s a b+(a-hmX w h s a b)=a by lia,show b%h+(b-b%h)=b by lia]at q2;rw[q1,q2,q]
 .intro k j _;exact rowText_eq λi _=>by
   have:=k (0+i) j;rw[<-this];congr 1<;>lia
def B6:SpD:=λds R=>∃n:Int,ds=[.int n]/\0<n/\n<=1000/\∀ns:List Int,ns.length<=1000->(∀m,m∈ns↔1<=m/\m<=n/\n%m=0)->R (.lst (ns.map D.int))
def B7:SpD:=λds R=>∃(p:Pat) (w h s x y:Int),ds=[.tup [.int w,.int h,.int s],aX p w h,.int x,.int y]/\p.Ok/\p.Fam w h s/\w<=720/\h<=720/\∀b,(b=true↔p.Keeps x y)->R (.bl b)
structure Pat.LeastW(p:Pat)(w m:Int):Prop where
 lo:1<=m
 hi:m<=w
 md:w%m=0
 k:p.Keeps m 0
 l:∀d,1<=d->d<=w->w%d=0->p.Keeps d 0->m<=d
def Pat.LeastW.eq{m:Int}(F:p.Fam w h s)(L:p.Least w' h' s')(a:p.LeastW w m):m=w':=by
 have w0:=L.f.w0;have k:p.Keeps w' 0:=(L.lat _ _).mp (InF.one _ _ _);obtain⟨i,j,e1,e2⟩:=(L.lat m 0).mpr a.k;have h0:=L.f.h0;have j0:j=0:=by
  rcases Gs j 0 with q|q|q
  .have:=GY q h0;lia
  .exact q
  .have:=Fl q h0;lia
 subst j0;rw[GB,GW]at e1;have lo:=a.lo;have i0:0<i:=by
  rcases Gs i 0 with q|q|q
  .have:=GY q w0;lia
  .subst q;lia
  .exact q
 have h1:w'<=m:=by
  rw[e1];have:=Fp (show 1<=i by lia) (show 0<=w' by lia);lia
 obtain⟨i2,j2,f1,f2⟩:=(L.lat w 0).mpr (F.keeps (InF.one w h s));have Pl:j2=0:=by
  rcases Gs j2 0 with q|q|q
  .have:=GY q h0;lia
  .exact q
  .have:=Fl q h0;lia
 subst Pl;have h2:=a.l w' t8 (by have:=a.hi;lia) (by rw[f1,GB,GW];exact GM _ _) k;lia
def B8:SpD:=λds R=>∃(p:Pat) (w h s:Int),ds=[.tup [.int w,.int h,.int s],aX p w h]/\p.Ok/\p.Fam w h s/\w<=720/\h<=720/\∀m,p.LeastW w m->R (.int m)
def B9:SpD:=λds R=>∃(p:Pat) (w h s m y:Int),ds=[.tup [.int w,.int h,.int s],aX p w h,.int m,.int y]/\p.Ok/\p.Fam w h s/\w<=720/\h<=720/\0<=m/\m<=720/\(∀t,0<=t->t<m->p.Keeps t y->(∀u,0<=u->u<t->¬p.Keeps u y)->R (.int t))/\((∀t,0<=t->t<m->¬p.Keeps t y)->R .non)
def Ca(h0:0<h)(e:h=j*h):j=1:=by
 have:(j-1)*h=0:=by rw[GU,<-e];lia
 rcases GR.mp this with q|q<;>lia
def small_mul(w0:0<w)(a:-w<i*w)(b:i*w<w):i=0:=by
 rcases Gs i 0 with q|q|q
 .have:=Fp (show i<=-1 by lia) (show 0<=w by lia);lia
 .exact q
 .have:=Fp (show 1<=i by lia) (show 0<=w by lia);lia
def Pat.Least.slant{t:Int}(L:p.Least w h s)(a:0<=t)(b:t<w)(k:p.Keeps t h):t=s:=by
 obtain⟨i,j,e1,e2⟩:=(L.lat t h).mpr k;have j1:=Ca L.f.h0 e2;subst j1;have s0:=L.f.s0;have sw:=L.f.sw;have:=small_mul (i:=i) L.f.w0 t8 t8;subst this;lia
def Pat.Least.row(L:p.Least w h s)(k:p.Keeps x y):p.Keeps (x%w) y:=by
 have e:=FJ x w;have:=k.sub (((L.lat _ _).mp (InF.one w h s)).mul (x/w));rw[GX,GQ]at this;rw[e,Fs];exact this
def Pat.Least.down(L:p.Least w h s)(k:p.Keeps x y)(y0:0<y):h<=y/\y%h=0:=by
 obtain⟨i,j,e1,e2⟩:=(L.lat x y).mpr k;have h0:=L.f.h0;have j0:0<j:=by
  rcases Gs j 0 with q|q|q
  .have:=GY q h0;lia
  .subst q;lia
  .exact q
 have:=Fp (show 1<=j by lia) (show 0<=h by lia);exact#[t8,by rw[e2];exact GM _ _]
def Cb:SpD:=λds R=>∃(p:Pat) (d:D),ds=[d]/\aR p d/\p.Ok/\∀w h s,p.Least w h s->w*h<=720->w<=720->h<=720->R (.tup [.int w,.int h,.int s])
def cj(p:Pat)(w h s:Int):D:=.tup [.int w,.int h,.int s,.tup ((E7 h.toNat).map λ(y:Nat)=>D.str (aB p 0 (y:Int) w.toNat))]
def Cd:SpD:=λds R=>∃(p:Pat) (d:D),ds=[d]/\aR p d/\p.Ok/\∀w h s,p.Least w h s->w*h<=720->w<=720->h<=720->R (cj p w h s)
def Ce:SpD:=λds R=>∃xs:List Int,ds=[.tup (xs.map D.int),.tup (xs.map D.int)]/\xs.length<=1000/\R (.bl true)
def Cf{R:D->Prop}(ok:p.Ok)(h:∀w h s,p.Fam w h s->w*h<=720->w<=720->h<=720->R (.tup [.int w,.int h,.int s])):gE [.lst (p.leaves.map Leaf.D)] R:=by
 refine#[p.leaves,p.depth,rfl,λz=>by have:=Pat.leaves_pos p;rw[z]at this;simp at this,λl hl=>Pat.leaf_good ok.wf l hl,λw k s f lat=>?_];have F:p.Fam w k s:=#[f,λx y=>(lat x y).trans (Pat.lat_leaves p x y)];have sm:=ok.fits.small F;have wh:w*k<=720:=by
  obtain⟨w',h',s',f',hb⟩:=ok.fits;obtain⟨rfl,rfl,_⟩:=F.uniq f';exact hb
 exact#[λ_=>h w k s F wh sm.2.1 sm.2.2.2.1,λz=>t8]
def FamD(p:Pat):D->Prop:=λx=>∃w h s:Int,x=.tup [.int w,.int h,.int s]/\p.Fam w h s/\w*h<=720/\w<=720/\h<=720
def ub(ok:p.Ok):gE [.lst (p.leaves.map Leaf.D)] (FamD p):=Cf ok λw h s F a b c=>#[w,h,s,rfl,F,a,b,c]
def Cg(p:Pat):D->Prop:=λx=>∃w h s:Int,x=.tup [.int w,.int h,.int s]/\p.Least w h s/\w*h<=720/\w<=720/\h<=720
def Pat.Least.le(F:p.Fam w h s)(L:p.Least w' h' s'):w'*h'<=w*h:=(InF.le L.f.w0 L.f.h0 F.f.w0 F.f.h0 (λx y q=>(L.lat x y).mpr (F.keeps q))).1
def Ch(p:Pat)(x y:Int)(n:Nat):Txt.join "" ((E7 n).map λ(i:Nat)=>(#[[bX (p.show (x+(i:Int)) y)].toArray]:t6))=aB p x y n:=(StrLaws.glued_eq_join _ _).trans (tS (λi=>bX (p.show (x+(i:Int)) y)) n)
def Ci(f:Nat->Nat)(n:Nat):(((E7 n).map λ(i:Nat)=>(#[[f i].toArray]:t6)).map (·.length)).sum=n:=by
 rw[jY (w:=1) (λl hl=>by obtain⟨i,_,rfl⟩:=FA.mp hl;rfl),E9,Hj,Nat.mul_one]
def kj(f:Nat->t6)(n:Nat):((E7 n).map λ(i:Nat)=>D.str (f i))=((E7 n).map f).map D.str:=by rw[Hi];rfl
def Cj:SpD:=λds R=>∃(p:Pat) (w h s:Int),ds=[.lst (p.leaves.map Leaf.D),.tup [.int w,.int h,.int s]]/\p.Wf/\p.depth<=5/\0<w/\w<=720/\0<h/\h<=720/\R (aX p w h)
def Ck:SpD:=λds R=>∃(p:Pat) (w h s x y:Int),ds=[aX p w h,.tup [.int w,.int h,.int s],.int x,.int y]/\p.Ok/\p.Kfam w h s/\w<=720/\h<=720/\∀b,(b=true↔p.Keeps x y)->R (.bl b)
def Pat.Least.first(L:p.Least w h s)(k:p.Keeps x y)(y0:0<=y)(yh:y<h)(x0:0<=x)(xw:x<w):x=0/\y=0:=by
 obtain⟨i,j,e1,e2⟩:=(L.lat x y).mpr k;have h0:=L.f.h0;have j0:=small_mul (i:=j) h0 t8 t8;subst j0;have i0:=small_mul (i:=i) L.f.w0 t8 t8;subst i0;lia
def Cl:SpD:=λds R=>∃(p:Pat) (w h s:Int),ds=[aX p w h,.tup [.int w,.int h,.int s]]/\p.Ok/\p.Kfam w h s/\w<=720/\h<=720/\∀w' h' s',p.Least w' h' s'->w'*h'<=w*h->w'<=w->h'<=h->R (.tup [.int w',.int h',.int s'])
def uc(X Y:Int):(Pat.mir p).Keeps X Y↔p.Keeps (-X) Y:=by
 constructor<;>intro h x y
 .have:=h (-x) y;simp only[Pat.show,GZ,Ii]at this;exact this
 .have:=h (-x) y;simp only[Pat.show,GZ];exact this
def ud(X Y:Int):(Pat.tur p).Keeps X Y↔p.Keeps Y (-X):=by
 constructor<;>intro h x y
 .have:=h (-y) x;simp only[Pat.show,GZ,Ii]at this;exact this
 .have:=h y (-x);simp only[Pat.show,GZ];exact this
def ue(a b X Y:Int):(Pat.sh a b p).Keeps X Y↔p.Keeps X Y:=by
 constructor<;>intro h x y
 .have:=h (x+a) (y+b);simp only[Pat.show]at this;rw[show x+a+X-a=x+X by lia,show y+b+Y-b=y+Y by lia,show x+a-a=x by lia,show y+b-b=y by lia]at this;exact this
 .have:=h (x-a) (y-b);simp only[Pat.show];rw[show x+X-a=x-a+X by lia,show y+Y-b=y-b+Y by lia];exact this
def Pat.Least.mir(k:p.Least w h s):(Pat.mir p).Least w h (-s%w):=by
 refine#[#[k.f.w0,k.f.h0,bu k.f.w0,bv k.f.w0],λx y=>?_];rw[uc,<-k.lat];have e:=FJ (-s) w;generalize -s%w=r at e;generalize -s/w=t at e;constructor
 .rintro⟨i,j,rfl,rfl⟩;exact#[j*t-i,j,by rw[e];grind,rfl]
 .rintro⟨i,j,ex,rfl⟩;exact#[j*t-i,j,by rw[e];grind,rfl]
def Pat.Least.tur(k:p.Least w h s)(f:FamOf 0 w (-h) s w' h' s'):(Pat.tur p).Least w' h' s':=by
 refine#[#[f.1,f.2.1,f.2.2.1,f.2.2.2.1],λx y=>?_];rw[ud,<-k.lat,f.lat];constructor
 .rintro⟨i,j,rfl,rfl⟩;exact#[i,j,J9,J9]
 .rintro⟨i,j,ex,ey⟩;exact#[i,j,J9,J9]
def Pat.Least.sh(a b:Int)(k:p.Least w h s):(Pat.sh a b p).Least w h s:=#[k.f,λx y=>by rw[ue,k.lat]]
structure Mv(p q:Pat)(b0 b1 b2 b3:Int):Prop where
 keeps:∀X Y,q.Keeps X Y↔p.Keeps (b0*X+b1*Y) (b2*X+b3*Y)
 leaf:∀l ls,p.leaves=l::ls->∃l' ls',q.leaves=l'::ls'/\l'.w0=l.w0*b0+l.w1*b2/\l'.w1=l.w0*b1+l.w1*b3/\l'.w2=l.w2*b0+l.w3*b2/\l'.w3=l.w2*b1+l.w3*b3
 area:∀w h s,p.Least w h s->∃w' h' s',q.Least w' h' s'/\w'*h'=w*h
variable{b0 b1 b2 b3:Int}
def Mv.mir(m:Mv p q b0 b1 b2 b3):Mv p (.mir q) (-b0) b1 (-b2) b3:=by
 refine#[λX Y=>?_,λl ls e=>?_,λw h s L=>?_]
 .rw[uc,m.keeps,FZ,FZ,Ga,Ga]
 .obtain⟨l',ls',e',h0,h1,h2,h3⟩:=m.leaf l ls e;refine#[_,_,by rw[Pat.leaves,e',Fi],?_,?_,?_,?_]<;>simp only[Leaf.by,h0,h1,h2,h3]<;>grind
 .obtain⟨w',h',s',L',e⟩:=m.area w h s L;exact#[_,_,_,L'.mir,e]
def Mv.tur(m:Mv p q b0 b1 b2 b3):Mv p (.tur q) (-b1) b0 (-b3) b2:=by
 refine#[λX Y=>?_,λl ls e=>?_,λw h s L=>?_]
 .rw[ud,m.keeps,FZ,FZ,Ga,Ga,G0 (b0*Y),G0 (b2*Y)]
 .obtain⟨l',ls',e',h0,h1,h2,h3⟩:=m.leaf l ls e;refine#[_,_,by rw[Pat.leaves,e',Fi],?_,?_,?_,?_]<;>simp only[Leaf.by,h0,h1,h2,h3]<;>grind
 .obtain⟨w',h',s',L',e⟩:=m.area w h s L;obtain⟨w2,h2,s2,f,e2⟩:=gG (s:=s') L'.f.w0 L'.f.h0;exact#[_,_,_,L'.tur f,t8]
def Mv.sh(a b:Int)(m:Mv p q b0 b1 b2 b3):Mv p (.sh a b q) b0 b1 b2 b3:=by
 refine#[λX Y=>?_,λl ls e=>?_,λw h s L=>?_]
 .rw[ue,m.keeps]
 .obtain⟨l',ls',e',h0,h1,h2,h3⟩:=m.leaf l ls e;refine#[_,_,by rw[Pat.leaves,e',Fi],?_,?_,?_,?_]<;>simp only[Leaf.by,h0,h1,h2,h3]<;>grind
 .obtain⟨w',h',s',L',e⟩:=m.area w h s L;exact#[_,_,_,L'.sh a b,e]
def E4{k:Int}(a:0<=k)(b:k<h):atI ((E7 h.toNat).map λ(y:Nat)=>D.str (aB p 0 (y:Int) w.toNat)) k=be (.str (aB p 0 k w.toNat)):=by
 have e:k=((k.toNat:Nat):Int):=t8
 rw[e];exact bI (by rw[Fg,FS t8];simp)
def uf(a:0<=i)(b:i<w):atI (cs (aB p 0 j w.toNat)) i=be (bX (p.show i j)):=by
 have e:i=((i.toNat:Nat):Int):=t8
 rw[e];exact bI (by rw[cS,Fg,FS t8];simp)
structure Side(a w:Int)(A t:Nat):Prop where
 n:bt a
 A4:A<=4000000000000
 t1:t<=1000
 e:bt (a+A*w+t-1)
def Side.of{A t:Nat}(n:bt a)(w0:0<w)(hA:(A:Int)<=(1000000000000-a+1)/w)(h:(t<=720/\(t:Int)<=1000000000000-a+1-A*w/\¬(a=-1000000000000/\A=0))\/(a=-1000000000000/\A=0/\1<=t/\t<=720)):Side a w A t:=by
 have h1:=Fp hA (show 0<=w by omega);have h2:=Int.ediv_mul_le (1000000000000-a+1) (show w≠0 by omega);have h3:(A:Int)<=A*w:=by
  have:=GO (show 1<=w by omega) (show 0<=(A:Int)by omega);omega
 unfold bt at n;rcases h with⟨t7,ht,ne⟩|⟨e1,rfl,t0,t7⟩
 .refine#[n,IU,IU,?_,IU];by_cases z:A=0
  .subst z;simp at ne ⊢;omega
  .omega
 .refine#[n,IU,IU,?_,?_]<;>simp<;>omega
end My
end
section
namespace My
local macro_rules | `(tactic| k_memK) => `(tactic| exact⟨rfl, rfl, rfl, by decide +kernel, rfl, by decide +kernel, by decide +kernel⟩)
local macro_rules | `(tactic| k_places) => `(tactic| try simp only[Ft, Fw, My.aP])
open PySem PySem.Spec PyProof.Rows L2
def top(i:Nat):Stmt:=PySem.Challenge.pw_motiffield_k39_whole_one_form.main.body.getD i (.Pass #[0,0,0,0])
abbrev km:P3:=top 59
abbrev ko:List Str:=["_law_script","_law_k"]
def Cm:FnScope ["_law_script","_law_k"] ko (ah km):=I0
abbrev kr:P3:=top 61
abbrev ku:List Str:=["_law_script","_law_k","_law_many"]
def sc__law_draws:FnScope ["_law_script","_law_k","_law_many","_law_left","_law_drawn","_law_turn","_law_seed"] ku (ah kr):=I0
abbrev ky:P3:=top 64
abbrev kz:List Str:=["_law_draws_here"]
def sc__law_lines:FnScope ["_law_draws_here","_law_wide","_law_tall","_law_signs","_law_lines_here","_law_j","_law_line","_law_i","_law_place","_law_value"] kz (ah ky):=I0
abbrev kA:P3:=top 62
abbrev kB:List Str:=["_law_draws_here"]
def sc__law_shift_pair:FnScope ["_law_draws_here","_law_a","_law_b","_law_c","_law_d"] kB (ah kA):=I0
abbrev kC:P3:=top 63
abbrev kD:List Str:=["_law_lines_here","_law_one","_law_two"]
def sc__law_motif_text:FnScope ["_law_lines_here","_law_one","_law_two","_law_tail"] kD (ah kC):=I0
abbrev kE:P3:=top 65
abbrev kF:List Str:=["_law_script","_law_k"]
def sc__law_motif:FnScope ["_law_script","_law_k","_law_draws_here","_law_lines_here","_law_one","_law_two","_law_leaf"] kF (ah kE):=I0
abbrev gL:P3:=top 66
abbrev kG:List Str:=["_law_part","_law_draw"]
def sc__law_wrapped:FnScope ["_law_part","_law_draw","_law_across","_law_down","_law_old","_law_new","_law_shift","_law_head","_law_ways","_law_by","_law_leaves","_law_leaf","_law_a","_law_b","_law_c","_law_d","_law_e","_law_f","_law_way","_law_hues"] kG (ah gL):=I0
abbrev kH:P3:=top 70
abbrev kI:List Str:=["_law_a","_law_b"]
def sc__law_gcd:FnScope ["_law_a","_law_b"] kI (ah kH):=I0
abbrev kJ:P3:=top 67
abbrev kK:List Str:=["_law_one","_law_two","_law_u","_law_v"]
def sc__law_on:FnScope ["_law_one","_law_two","_law_u","_law_v","_law_size"] kK (ah kJ):=I0
abbrev kL:P3:=top 72
abbrev kM:List Str:=["_law_leaf"]
def sc__law_leaf_family:FnScope ["_law_leaf","_law_a","_law_b","_law_c","_law_d","_law_e","_law_f","_law_one","_law_two","_law_high","_law_wide","_law_lean"] kM (ah kL):=I0
abbrev kN:P3:=top 71
abbrev kO:List Str:=["_law_three","_law_x","_law_y"]
def Cn:FnScope ["_law_three","_law_x","_law_y"] kO (ah kN):=I0
abbrev kP:P3:=top 73
abbrev kQ:List Str:=["_law_one","_law_two"]
def sc__law_both:FnScope ["_law_one","_law_two","_law_wide","_law_high","_law_x"] kQ (ah kP):=I0
abbrev kR:P3:=top 74
abbrev kS:List Str:=["_law_leaves"]
def sc__law_family:FnScope ["_law_leaves","_law_both_here","_law_leaf"] kS (ah kR):=I0
abbrev kT:P3:=top 75
abbrev kU:List Str:=["_law_upper","_law_lower"]
def sc__law_over:FnScope ["_law_upper","_law_lower","_law_leaves"] kU (ah kT):=I0
abbrev kW:P3:=top 76
abbrev kX:List Str:=["_law_script","_law_k"]
def sc__law_pattern:FnScope ["_law_script","_law_k","_law_plan","_law_part","_law_turn","_law_step","_law_other"] kX (ah kW):=I0
abbrev kY:P3:=top 87
abbrev kZ:List Str:=["_law_part","_law_value"]
def sc__law_veiled:FnScope ["_law_part","_law_value","_law_one","_law_two","_law_leaf"] kZ (ah kY):=I0
abbrev lf:P3:=top 79
abbrev lh:List Str:=["_law_part","_law_kind"]
def sc__law_shifted_home:FnScope ["_law_part","_law_kind","_law_three","_law_across","_law_down"] lh (ah lf):=I0
abbrev lm:P3:=top 78
abbrev lp:List Str:=["_law_part","_law_place","_law_sign"]
def sc__law_respelled:FnScope ["_law_part","_law_place","_law_sign","_law_first","_law_wide","_law_j","_law_i","_law_lines_here","_law_spot","_law_text"] lp (ah lm):=I0
abbrev lr:P3:=top 80
abbrev lu:List Str:=["_law_part","_law_script","_law_k","_law_draw"]
def sc__law_twin:FnScope ["_law_part","_law_script","_law_k","_law_draw","_law_kind"] lu (ah lr):=I0
abbrev lv:P3:=top 86
abbrev ly:List Str:=["_law_draw"]
def sc__law_bricks:FnScope ["_law_draw","_law_wide","_law_line","_law_pair","_law_lean","_law_leaf"] ly (ah lv):=I0
abbrev lz:P3:=top 85
abbrev lC:List Str:=["_law_draw"]
def sc__law_bound_pair:FnScope ["_law_draw","_law_one","_law_two","_law_same","_law_pair","_law_sign","_law_way","_law_leaf"] lC (ah lz):=I0
abbrev lD:P3:=top 83
abbrev lF:List Str:=["_law_lines_here","_law_three","_law_x","_law_y"]
def sc__law_keeps:FnScope ["_law_lines_here","_law_three","_law_x","_law_y","_law_j","_law_other","_law_begin"] lF (ah lD):=I0
abbrev lG:P3:=top 84
abbrev lH:List Str:=["_law_lines_here","_law_three"]
def sc__law_least:FnScope ["_law_lines_here","_law_three","_law_wide","_law_high","_law_lean"] lH (ah lG):=I0
abbrev lJ:P3:=top 68
abbrev lK:List Str:=["_law_leaf","_law_x","_law_y"]
def sc__law_leaf_shows:FnScope ["_law_leaf","_law_x","_law_y","_law_way","_law_u","_law_v","_law_j","_law_i"] lK (ah lJ):=I0
abbrev lL:P3:=top 69
abbrev lM:List Str:=["_law_leaves","_law_x","_law_y"]
def sc__law_shows:FnScope ["_law_leaves","_law_x","_law_y","_law_leaf","_law_hue"] lM (ah lL):=I0
abbrev gM:P3:=top 82
abbrev lN:List Str:=["_law_leaves","_law_three"]
def sc__law_table:FnScope ["_law_leaves","_law_three","_law_lines_here","_law_y"] lN (ah gM):=I0
abbrev lP:P3:=top 89
abbrev lQ:List Str:=["_law_part"]
def sc__law_own:FnScope ["_law_part","_law_three","_law_found"] lQ (ah lP):=I0
abbrev lR:P3:=top 81
abbrev lU:List Str:=["_law_one","_law_two","_law_three"]
def sc__law_unlike:FnScope ["_law_one","_law_two","_law_three","_law_y","_law_x"] lU (ah lR):=I0
abbrev lV:P3:=bi (top 47) 1
abbrev lW:List Str:=["self","allowed"]
def Co:FnScope ["self","allowed"] lW (ah lV):=I0
abbrev lX:P3:=bi (top 47) 2
abbrev lY:List Str:=["self","allowed"]
def sc_Reading_take:FnScope ["self","allowed","sign"] lY (ah lX):=I0
abbrev lZ:P3:=top 50
abbrev ma:List Str:=["reading","least","most"]
def sc_line_from:FnScope ["reading","least","most","line","column"] ma (ah lZ):=I0
abbrev me:P3:=top 51
abbrev mf:List Str:=["reading"]
def sc_lines_from:FnScope ["reading","lines","width"] mf (ah me):=I0
abbrev mi:P3:=top 48
abbrev mj:List Str:=["reading"]
def sc_number_from:FnScope ["reading","written"] mj (ah mi):=I0
abbrev mm:P3:=top 49
abbrev mn:List Str:=["reading"]
def sc_shift_from:FnScope ["reading","x"] mn (ah mm):=I0
abbrev mo:P3:=top 7
abbrev mq:List Str:=["first","second"]
def sc_levelled:FnScope ["first","second","times","rest"] mq (ah mo):=I0
abbrev mv:P3:=top 9
abbrev mx:List Str:=["first","second"]
def sc_spread:FnScope ["first","second","pair","width"] mx (ah mv):=I0
abbrev mz:P3:=top 10
abbrev mB:List Str:=["family","x","y"]
def sc_home:FnScope ["family","x","y","width","height","slant"] mB (ah mz):=I0
abbrev mC:P3:=top 16
abbrev mD:List Str:=["lines","family"]
def sc_hues_by_home:FnScope ["lines","family","hues","row","line","column","sign"] mD (ah mC):=I0
abbrev mF:P3:=bi (top 17) 0
abbrev mG:List Str:=["self","place","lines","first","second"]
def Cp:FnScope ["self","place","lines","first","second"] mG (ah mF):=I0
abbrev mH:P3:=top 52
abbrev mI:List Str:=["reading"]
def sc_motif_from:FnScope ["reading","place","lines","first","second"] mI (ah mH):=I0
abbrev mJ:P3:=bi (top 20) 0
abbrev mK:List Str:=["self","form"]
def Cq:FnScope ["self","form"] mK (ah mJ):=I0
abbrev mL:P3:=bi (top 21) 0
abbrev mM:List Str:=["self","form"]
def Cr:FnScope ["self","form"] mM (ah mL):=I0
abbrev mN:P3:=bi (top 18) 0
abbrev mO:List Str:=["self","above","below"]
def Cs:FnScope ["self","above","below"] mO (ah mN):=I0
abbrev mQ:P3:=bi (top 19) 0
abbrev mR:List Str:=["self","form","x","y"]
def Ct:FnScope ["self","form","x","y"] mR (ah mQ):=I0
abbrev mU:P3:=bi (top 22) 0
abbrev mV:List Str:=["self","form","old","new"]
def Cu:FnScope ["self","form","old","new"] mV (ah mU):=I0
abbrev gN:P3:=top 53
abbrev fB:List Str:=["reading","around"]
def sc_over_from:FnScope ["reading","around","above","below"] fB (ah gN):=I0
abbrev gO:P3:=top 54
abbrev fC:List Str:=["reading","around"]
def sc_shifted_from:FnScope ["reading","around","shift"] fC (ah gO):=I0
abbrev gP:P3:=top 55
abbrev fD:List Str:=["reading","around"]
def sc_rehue_from:FnScope ["reading","around","old","new"] fD (ah gP):=I0
abbrev gQ:P3:=top 56
abbrev cC:List Str:=["reading","around"]
def sc_form_from:FnScope ["reading","around","sign"] cC (ah gQ):=I0
abbrev mW:P3:=bi (top 47) 0
abbrev mY:List Str:=["self","text"]
def Cw:FnScope ["self","text"] mY (ah mW):=I0
abbrev mZ:P3:=bi (top 46) 0
abbrev ng:List Str:=["self","text","shifts","form"]
def Cy:FnScope ["self","text","shifts","form"] ng (ah mZ):=I0
abbrev nh:P3:=top 8
abbrev nj:List Str:=["one","two"]
def sc_measure:FnScope ["one","two","last"] nj (ah nh):=I0
abbrev nq:P3:=top 11
abbrev nt:List Str:=["one","two"]
def sc_met:FnScope ["one","two","common","width","rise","start","gap","climbs","steps"] nt (ah nq):=I0
abbrev nu:P3:=top 12
abbrev nv:List Str:=["family"]
def Cz:FnScope ["family"] nv (ah nu):=I0
abbrev nw:P3:=top 13
abbrev ny:List Str:=["family"]
def CA:FnScope ["family"] ny (ah nw):=I0
abbrev gR:P3:=bi (top 17) 1
abbrev cv:List Str:=["self"]
def CB:FnScope ["self"] cv (ah gR):=I0
abbrev gS:P3:=bi (top 18) 1
abbrev gT:List Str:=["self"]
def sc_Over_family:FnScope ["self","first"] gT (ah gS):=I0
abbrev gU:P3:=bi (top 19) 1
abbrev gW:List Str:=["self"]
def CC:FnScope ["self"] gW (ah gU):=I0
abbrev gX:P3:=bi (top 20) 1
abbrev gY:List Str:=["self"]
def CD:FnScope ["self"] gY (ah gX):=I0
abbrev gZ:P3:=bi (top 21) 1
abbrev hU:List Str:=["self"]
def CF:FnScope ["self"] hU (ah gZ):=I0
abbrev hV:P3:=bi (top 22) 1
abbrev hZ:List Str:=["self"]
def CG:FnScope ["self"] hZ (ah hV):=I0
abbrev nz:P3:=top 57
abbrev nA:List Str:=["text"]
def sc_read:FnScope ["text","reading","form","family"] nA (ah nz):=I0
abbrev nB:P3:=top 60
abbrev nC:List Str:=["_law_found"]
def CH:FnScope ["_law_found"] nC (ah nB):=I0
abbrev nD:P3:=top 88
abbrev nE:List Str:=["_law_one","_law_two"]
def sc__law_equal:FnScope ["_law_one","_law_two","_law_shape","_law_number","_law_line"] nE (ah nD):=I0
abbrev nF:P3:=top 27
abbrev nG:List Str:=["x","y"]
def CI:FnScope ["x","y"] nG (ah nF):=I0
abbrev ia:P3:=bi (top 17) 2
abbrev cw:List Str:=["self","x","y"]
def CJ:FnScope ["self","x","y"] cw (ah ia):=I0
abbrev ib:P3:=bi (top 18) 2
abbrev ic:List Str:=["self","x","y"]
def sc_Over_shows:FnScope ["self","x","y","hue"] ic (ah ib):=I0
abbrev ie:P3:=bi (top 19) 2
abbrev ig:List Str:=["self","x","y"]
def CK:FnScope ["self","x","y"] ig (ah ie):=I0
abbrev ii:P3:=bi (top 20) 2
abbrev ij:List Str:=["self","x","y"]
def CL:FnScope ["self","x","y"] ij (ah ii):=I0
abbrev ik:P3:=bi (top 21) 2
abbrev il:List Str:=["self","x","y"]
def CM:FnScope ["self","x","y"] il (ah ik):=I0
abbrev im:P3:=bi (top 22) 2
abbrev io:List Str:=["self","x","y"]
def sc_Rehue_shows:FnScope ["self","x","y","hue"] io (ah im):=I0
abbrev nH:P3:=top 28
abbrev nI:List Str:=["pattern","x","y"]
def CN:FnScope ["pattern","x","y"] nI (ah nH):=I0
abbrev ip:P3:=top 29
abbrev nJ:List Str:=["pattern","x","y","many"]
def CO:FnScope ["pattern","x","y","many"] nJ (ah ip):=I0
abbrev iq:P3:=top 30
abbrev nK:List Str:=["pattern"]
def CP:FnScope ["pattern"] nK (ah iq):=I0
abbrev ir:P3:=top 33
abbrev nM:List Str:=["number"]
def CQ:FnScope ["number"] nM (ah ir):=I0
abbrev nN:P3:=top 31
abbrev nO:List Str:=["family","rows","x","y"]
def sc_round_row:FnScope ["family","rows","x","y","cell","row"] nO (ah nN):=I0
abbrev nP:P3:=top 34
abbrev nQ:List Str:=["family","rows","x","y"]
def sc_changes_nothing:FnScope ["family","rows","x","y","step","row"] nQ (ah nP):=I0
abbrev iu:P3:=top 35
abbrev nR:List Str:=["family","rows"]
def CS:FnScope ["family","rows"] nR (ah iu):=I0
abbrev nS:P3:=top 36
abbrev nU:List Str:=["family","rows","width","height"]
def sc_slant_at:FnScope ["family","rows","width","height","slant"] nU (ah nS):=I0
abbrev iy:P3:=top 37
abbrev nV:List Str:=["pattern"]
def sc_least_shifts:FnScope ["pattern","family","rows","width","height"] nV (ah iy):=I0
abbrev iz:P3:=top 38
abbrev nW:List Str:=["pattern"]
def sc_least_form:FnScope ["pattern","family","rows"] nW (ah iz):=I0
abbrev nX:P3:=top 40
abbrev nY:List Str:=["one","two"]
def CT:FnScope ["one","two"] nY (ah nX):=I0
abbrev nZ:P3:=top 41
abbrev oa:List Str:=["one","two"]
def sc_common_field:FnScope ["one","two","family"] oa (ah nZ):=I0
abbrev og:P3:=top 42
abbrev oh:List Str:=["one","two","width","height"]
def sc_first_unlike:FnScope ["one","two","width","height","y","x"] oh (ah og):=I0
abbrev oi:P3:=top 43
abbrev oj:List Str:=["one","two"]
def sc_first_parting:FnScope ["one","two","family"] oj (ah oi):=I0
abbrev ol:P3:=top 90
abbrev om:List Str:=["_law_one","_law_two"]
def sc__law_told:FnScope ["_law_one","_law_two","_law_found"] om (ah ol):=I0
abbrev oq:P3:=top 77
abbrev ot:List Str:=["_law_found","_law_due"]
def sc__law_numbers:FnScope ["_law_found","_law_due","_law_k"] ot (ah oq):=I0
abbrev iA:P3:=top 91
abbrev ou:List Str:=["_law_script"]
def sc_law:FnScope ["_law_script","_law_part","_law_twin_here","_law_own_here","_law_three","_law_same","_law_one","_law_two","_law_equal_here","_law_told_here","_law_found"] ou (ah iA):=I0
variable{c i:Nat}
def atC{t:t6}:StrLaws.At t #[[c].toArray] t.length i↔(cs t)[i]?=be c:=by
 have e:Builtin.Str.subAt t #[[c].toArray] i=(((cs t).drop i).take 1==[c]):=StrLaws.subAt_eq t #[[c].toArray] i;have e2:((cs t).drop i).take 1=[c]↔(cs t)[i]?=be c:=by
  rw[List.take_one,List.head?_drop];cases(cs t)[i]?<;>simp
 unfold StrLaws.At;rw[e,beq_iff_eq,e2];refine#[λh=>h.2,λh=>#[?_,h]];have:=(Fj.mp h).1;rw[bj]at this;exact this
variable{A B:List Nat}
def CU{t:t6}(ht:cs t=A++c::B)(no:c∉A):∃i rest,Builtin.Str.occurrences t #[[c].toArray] 0 t.length 1=i::rest/\i=A.length:=by
 have a0:StrLaws.At t #[[c].toArray] t.length A.length:=atC.mpr (by rw[ht,FV (E5 _),Nat.sub_self];rfl);rcases StrLaws.occ_head t #[[c].toArray] 1 (E5 _)with⟨_,h⟩|⟨i,r,e,h1,h2⟩
 .exact absurd a0 (h _)
 .refine#[i,r,e,?_];rcases Nat.lt_trichotomy i A.length with q|q|q
  .have:=atC.mp h1;rw[ht,FK q]at this;exact absurd (Gg this) no
  .exact q
  .exact absurd a0 (h2 _ q)
def fE(x:List Nat){l:List (List Nat)}(h:l≠[]):rowsL (x::l)=x++47::rowsL l:=by
 cases l with
 |nil=>exact absurd rfl h
 |cons y r=>rfl
def CV{w:Nat}(hi:i<w):∀(L:List (List Nat)) (j:Nat) (h:j<L.length),(∀x∈L,x.length=w)->rowsL (L.set j (L[j].set i c))=(rowsL L).set (j*(w+1)+i) c:=by
 intro L;induction L with
 |nil=>intro j h;exact absurd h (F8 j)
 |cons x L ih=>
  intro j h hw;have xw:=hw x Fd;by_cases e:L=[]
  .subst e;have:j=0:=by simp at h;lia
   subst this;simp[rowsL]
  .cases j with
   |zero=>
    show rowsL (x.set i c::L)=_;rw[fE _ e,fE _ e,Nat.zero_mul,Ij,Ik _ _ t8]
   |succ j=>
    have h':j<L.length:=HK h;show rowsL (x::L.set j (L[j].set i c))=_;rw[fE _ (λz=>e (by have:=congrArg Gu z;simpa using this)),fE _ e,ih j h' (λy hy=>hw y (Fc _ hy))];rw[Il _ _ (by rw[xw,GA];lia),xw,show(j+1)*(w+1)+i-w=(j*(w+1)+i)+1 by rw[GA];lia];rfl
def iB{a:Int}(h:B12 a):91∉numL a:=by
 have hs:=numL_is h;intro hy;unfold isNumL at hs;rcases hs with⟨c,h1,h2⟩|⟨c,h1,h2⟩|⟨c,h1,h2⟩|⟨c,h1,h2⟩<;>rw[h2]at hy<;>simp at hy<;>lia
structure Pat.Re(p:Pat)(A B:List Nat)(l:Leaf)(ls:List Leaf):Prop where
 leaves:p.leaves=l::ls
 no:91∉A
 tl:p.tl=A++91::(rowsL (l.rows.map cs)++B)
 rows:Rows l.rows
 re:∀L':List t6,Rows L'->∃q:Pat,q.leaves={l with rows:=L'}::ls/\q.tl=A++91::(rowsL (L'.map cs)++B)/\q.depth=p.depth/\(∀x y,q.Lat x y↔p.Lat x y)/\q.Wf
def Pat.re_ex:∀{p:Pat},p.Wf->∃A B l ls,p.Re A B l ls:=by
 intro p;induction p with
 |mot L a b c d=>
  intro h;exact#[[],_,_,[],rfl,F4,rfl,h.1,λL' h'=>#[.mot L' a b c d,rfl,rfl,rfl,λx y=>Iff.rfl,h',h.2]]
 |over p q Pm Qq=>
  intro h;obtain⟨A,B,l,ls,r⟩:=Pm h.1;refine#[40::A,B++124::(q.tl++[41]),l,ls++q.leaves,by rw[Pat.leaves,r.leaves];rfl,λz=>?_,by rw[Pat.tl,r.tl];simp,r.rows,λL' h'=>?_]
  .rcases E8.mp z with z|z
   .exact absurd z y8
   .exact r.no z
  .obtain⟨p',e1,e2,e3,e4,e5⟩:=r.re L' h';exact#[.over p' q,by rw[Pat.leaves,e1];rfl,by rw[Pat.tl,e2];simp,by rw[Pat.depth,Pat.depth,e3],λx y=>by simp only[Pat.Lat,e4],e5,h.2]
 |sh a b p ih=>
  intro h;obtain⟨A,B,l,ls,r⟩:=ih h.2.2;refine#[115::(numL a++44::(numL b++58::A)),B,l.by 1 0 0 1 (-a) (-b),ls.map λl=>l.by 1 0 0 1 (-a) (-b),by rw[Pat.leaves,r.leaves];rfl,λz=>?_,by rw[Pat.tl,r.tl];simp[Leaf.by],r.rows,λL' h'=>?_]
  .have n1:=iB h.1;have n2:=iB h.2.1;have n3:=r.no;simp[n1,n2,n3]at z
  .obtain⟨p',e1,e2,e3,e4,e5⟩:=r.re L' h';exact#[.sh a b p',by rw[Pat.leaves,e1];rfl,by rw[Pat.tl,e2];simp,by rw[Pat.depth,Pat.depth,e3],λx y=>by simp only[Pat.Lat,e4],h.1,h.2.1,e5]
 |mir p ih=>
  intro h;obtain⟨A,B,l,ls,r⟩:=ih h;refine#[109::A,B,l.by (-1) 0 0 1 0 0,ls.map λl=>l.by (-1) 0 0 1 0 0,by rw[Pat.leaves,r.leaves];rfl,λz=>?_,by rw[Pat.tl,r.tl];rfl,r.rows,λL' h'=>?_]
  .rcases E8.mp z with z|z
   .exact absurd z y8
   .exact r.no z
  .obtain⟨p',e1,e2,e3,e4,e5⟩:=r.re L' h';exact#[.mir p',by rw[Pat.leaves,e1];rfl,by rw[Pat.tl,e2];rfl,by rw[Pat.depth,Pat.depth,e3],λx y=>by simp only[Pat.Lat,e4],e5]
 |tur p ih=>
  intro h;obtain⟨A,B,l,ls,r⟩:=ih h;refine#[116::A,B,l.by 0 1 (-1) 0 0 0,ls.map λl=>l.by 0 1 (-1) 0 0 0,by rw[Pat.leaves,r.leaves];rfl,λz=>?_,by rw[Pat.tl,r.tl];rfl,r.rows,λL' h'=>?_]
  .rcases E8.mp z with z|z
   .exact absurd z y8
   .exact r.no z
  .obtain⟨p',e1,e2,e3,e4,e5⟩:=r.re L' h';exact#[.tur p',by rw[Pat.leaves,e1];rfl,by rw[Pat.tl,e2];rfl,by rw[Pat.depth,Pat.depth,e3],λx y=>by simp only[Pat.Lat,e4],e5]
 |hue f g p ih=>
  intro h;obtain⟨A,B,l,ls,r⟩:=ih h.2.2;refine#[104::(numL f++(numL g++A)),B,(l.by 1 0 0 1 0 0).dye f g,ls.map λl=>(l.by 1 0 0 1 0 0).dye f g,by rw[Pat.leaves,r.leaves];rfl,λz=>?_,by rw[Pat.tl,r.tl];simp[Leaf.by,Leaf.dye],r.rows,λL' h'=>?_]
  .have h1:1<=f/\f<=6:=h.1;have h2:1<=g/\g<=6:=h.2.1;have n1:=iB (a:=f) #[t8,t8];have n2:=iB (a:=g) #[t8,t8];have n3:=r.no;simp[n1,n2,n3]at z
  .obtain⟨p',e1,e2,e3,e4,e5⟩:=r.re L' h';exact#[.hue f g p',by rw[Pat.leaves,e1];rfl,by rw[Pat.tl,e2];simp,by rw[Pat.depth,Pat.depth,e3],λx y=>by simp only[Pat.Lat,e4],h.1,h.2.1,e5]
def CW{w:Nat}:∀(L:List (List Nat)),L≠[]->(∀x∈L,x.length=w)->(rowsL L).length+1=L.length*(w+1):=by
 intro L;induction L with
 |nil=>intro h;exact absurd rfl h
 |cons x L ih=>
  intro _ hw;have xw:=hw x Fd;by_cases e:L=[]
  .subst e;show x.length+1=1*(w+1);lia
  .have:=ih e λy hy=>hw y (Fc _ hy);rw[fE _ e,Fn,Fe,Fe,GA];lia
def uh{y:t6}{k:Nat}(h:k<y.length):cs ((Txt.slice y m_ (be (k:Int))++#[[c].toArray])++Txt.slice y (be ((k:Int)+1)) m_)=(cs y).set k c:=by
 have e1:HT.sIx y.length y.length (be (k:Int))=k:=by rw[HT.sIx_nat];lia
 have e2:HT.sIx y.length 0 (be ((k:Int)+1))=k+1:=by
  have:=HT.sIx_nat y.length 0 (k+1);rw[show((k:Int)+1)=(((k+1:Nat)):Int)by lia,this];lia
 rw[bw,bw,slice_cps,slice_cps,e1,e2,HT.sIx_none,HT.sIx_none,Nat.sub_zero,Ih,List.set_eq_take_append_cons_drop,if_pos (by rw[bj];exact h)];show((cs y).take k++[c])++(Gy (k+1) (cs y)).take (y.length-(k+1))=_;rw[Gn (l:=Gy (k+1) (cs y)) (by rw[Gh,bj];lia),FR];rfl
variable{p:Pat}
def Pat.Re.put{l:Leaf}{ls:List Leaf}(r:p.Re A B l ls)(ok:p.Ok){w j:Nat}(hw:∀s∈l.rows,s.length=w)(hj:j<l.rows.length)(hi:i<w)(hc:aQ c){s':t6}(hs:cs s'=(cs l.rows[j]).set i c):∃q:Pat,q.Ok/\q.depth=p.depth/\q.leaves={l with rows:=l.rows.set j s'}::ls/\A.length+1+j*(w+1)+i<p.text.length/\∀t':t6,cs t'=(cs p.text).set (A.length+1+j*(w+1)+i) c->t'=q.text:=by
 obtain⟨m,w',w8,hr⟩:=r.rows;have lj:=hr l.rows[j] (FC hj);have hL:Rows (l.rows.set j s'):=by
  refine#[by rw[FX];exact m,w',w8,λs IB=>?_];rcases Im IB with q|q
  .exact hr s q
  .subst q;refine#[by rw[<-bj,hs,FX,bj];exact lj.1,λd hd=>?_];rw[hs]at hd;rcases Im hd with q|q
   .exact lj.2 d q
   .rw[q];exact hc
 obtain⟨q,e1,e2,e3,e4,e5⟩:=r.re _ hL;obtain⟨fw,fh,fs,F,fb⟩:=ok.fits;refine#[q,#[e5,by rw[e3];exact ok.deep,fw,fh,fs,#[F.f,λx y=>(F.lat x y).trans (e4 x y).symm],fb],e3,e1,?_];have lw:∀x∈l.rows.map cs,x.length=w:=λx hx=>by
  obtain⟨s,q1,q2⟩:=FA.mp hx;rw[<-q2,bj];exact hw s q1
 have jm:j<(l.rows.map cs).length:=by rw[E9];exact hj
 have key:=CV (c:=c) hi (l.rows.map cs) j jm lw;have e6:(l.rows.set j s').map cs=(l.rows.map cs).set j ((l.rows.map cs)[j].set i c):=by rw[Io,hs,List.getElem_map]
 have ll:j*(w+1)+i<(rowsL (l.rows.map cs)).length:=by
  have h1:=CW (l.rows.map cs) (λz=>by rw[z]at jm;exact absurd jm (F8 j)) lw;have h2:=HP (w+1) (show j+1<=(l.rows.map cs).length from jm);rw[GA]at h2;lia
 refine#[?_,λt' ht=>?_]
 .rw[<-bj,cf,r.tl,Fn,Fe,Fn];lia
 apply fz;rw[ht,cf,cf,e2,e6,key,r.tl];rw[Il _ _ t8,show A.length+1+j*(w+1)+i-A.length=(j*(w+1)+i)+1 by lia,Ft,Ik _ _ ll]
def ui:∀l1 l2:List t6,eqFs (l1.map D.str) (l2.map D.str)=decide (l1=l2)
 |[],[]=>rfl
 |[],_::_=>rfl
 |_::_,[]=>rfl
 |x::l1,y::l2=>by
  rw[Fi,Fi,eqFs,ui l1 l2];show(x==y&&decide (l1=l2))=decide (x::l1=y::l2);rw[F6];simp
def eK(l:List t6):(l.map D.str).all bo=true:=by
 rw[G7];exact FP.mpr λx _=>rfl
def br(p:Pat)(w h:Int):List Str:=(E7 h.toNat).map λ(y:Nat)=>aB p 0 (y:Int) w.toNat
def eL(p:Pat)(w h s:Int):cj p w h s=.tup [.int w,.int h,.int s,.tup ((br p w h).map D.str)]:=by
 unfold cj br;rw[kj]
variable{w s' h s w' h':Int}{q:Pat}
def ow(d5:p.Ok)(b7:q.Ok)(L:p.Least w h s)(L':q.Least w' h' s'):((eq2s [.int w,.int h,.int s,.tup ((br p w h).map D.str)] [.int w',.int h',.int s',.tup ((br q w' h').map D.str)]).all id=true)↔∀x y,p.show x y=q.show x y:=by
 have e:(eq2s [D.int w,.int h,.int s,.tup ((br p w h).map D.str)] [.int w',.int h',.int s',.tup ((br q w' h').map D.str)]).all id=((w==w')&&((h==h')&&((s==s')&&(eqFs ((br p w h).map D.str) ((br q w' h').map D.str)&&true)))):=rfl;rw[e,ui];simp only[Fv,beq_iff_eq,decide_eq_true_eq,GK];constructor
 .rintro⟨rfl,rfl,rfl,er⟩ x y;have w0:=L.f.w0;have h0:=L.f.h0;rw[<-Pat.show_home w0 h0 (λ_ _ k=>(L.lat _ _).mp k) x y,<-Pat.show_home w0 h0 (λ_ _ k=>(L'.lat _ _).mp k) x y];have a0:=bu (a:=x-y/h*s) w0;have a1:=bv (a:=x-y/h*s) w0;have b0:=bu (a:=y) h0;have b1:=bv (a:=y) h0;have LZ:hmX w h s x y<w:=a1;have L0:0<=hmX w h s x y:=a0;generalize hmX w h s x y=i at L0 LZ;generalize y%h=j at b0 b1;have r1:(br p w h)[j.toNat]?=(br q w h)[j.toNat]?:=by rw[er]
  unfold br at r1;rw[Fg,Fg,FS IU,G8,G8,Option.some.injEq,FE b0]at r1;have g1:=uf (p:=p) (w:=w) (i:=i) (j:=j) L0 LZ;have g2:=uf (p:=q) (w:=w) (i:=i) (j:=j) L0 LZ;rw[r1,g2]at g1;have p1:=Pat.show_le d5.wf (by have:=d5.deep;omega) i j;have p2:=Pat.show_le b7.wf (by have:=b7.deep;omega) i j;exact(tZ p2.1 p2.2 p1.1 p1.2 (Option.some.inj g1)).symm
 .intro hs;have kk:∀X Y,q.Keeps X Y↔p.Keeps X Y:=λX Y=>by
   unfold Pat.Keeps;simp only[hs]
  obtain⟨rfl,rfl,rfl⟩:=L.uniq #[L'.f,λx y=>(L'.lat x y).trans (kk x y)];refine#[rfl,rfl,rfl,?_];unfold br aB;simp only[hs]
def PatD:D->Prop:=λx=>∃p:Pat,x=p.D/\p.Ok
def oy{R:D->Prop}(k1:p.Ok)(k2:q.Ok)(h:∀q:Pat,q.Ok->R q.D):tm [p.D,q.D] R:=#[p,q,rfl,k1.wf,k2.wf,k1.deep,k2.deep,h _ k1,λa b L4=>h _ #[#[k1.wf,k2.wf],by simp only[Pat.depth];omega,L4]]
def CY(x:Int):∃c,atI (cs ".123456") (x%7)=be c/\aQ c:=by
 rcases(t8:x%7=0\/x%7=1\/x%7=2\/x%7=3\/x%7=4\/x%7=5\/x%7=6)with e|e|e|e|e|e|e<;>rw[e]
 .exact#[46,IA,.inl rfl]
 .exact#[49,IA,.inr t8]
 .exact#[50,IA,.inr t8]
 .exact#[51,IA,.inr t8]
 .exact#[52,IA,.inr t8]
 .exact#[53,IA,.inr t8]
 .exact#[54,IA,.inr t8]
def CZ{s:t6}(h:(cs s).all isSg=true):∀c∈cs s,aQ c:=λc hc=>Bl (FP.mp h c hc)
def row_one{s:t6}{n:Nat}(h:s.length=n)(n8:1<=n/\n<=8)(h2:(cs s).all isSg=true):Rows [s]:=#[IV,n,n8,λl hl=>by rw[E6.mp hl];exact#[h,CZ h2]]
def C0(h:2<=w/\w<=6):Rows [Txt.slice "1.2345" m_ (be w)]:=by
 rcases(IU:w=2\/w=3\/w=4\/w=5\/w=6)with rfl|rfl|rfl|rfl|rfl
 .exact row_one (n:=2) IA y8 IA
 .exact row_one (n:=3) IA y8 IA
 .exact row_one (n:=4) IA y8 IA
 .exact row_one (n:=5) IA y8 IA
 .exact row_one (n:=6) IA y8 IA
def oz{L:List t6}{a b c d:Int}(hL:Rows L)(ha:B12 a)(hb:B12 b)(hc:B12 c)(hd:B12 d)(hn:¬a*d=b*c):(Pat.mot L a b c d).Ok:=#[#[hL,ha,hb,hc,hd,hn],by simp[Pat.depth],Pat.fits_mot ha hb hc hd hn]
structure Both(p q:Pat)(w h s:Int):Prop where
 f:Fam0 w h s
 w7:w<=720
 h7:h<=720
 kp:∀x y,InF w h s x y->p.Keeps x y
 kq:∀x y,InF w h s x y->q.Keeps x y
def Both.all(b:Both p q w h s)(e:∀x y:Int,0<=x->x<w->0<=y->y<h->p.show x y=q.show x y)(x y:Int):p.show x y=q.show x y:=by
 have w0:=b.f.w0;have h0:=b.f.h0;rw[<-Pat.show_home w0 h0 b.kp x y,<-Pat.show_home w0 h0 b.kq x y];exact e _ _ (bu w0) (bv w0) (bu h0) (bv h0)
def Both.of(F:(Pat.over p q).Fam w h s)(wh:w*h<=720):Both p q w h s:=by
 have:=bU F.f.w0 F.f.h0;exact#[F.f,IU,IU,λx y k=>Pat.lat_keeps ((F.lat x y).mp k).1,λx y k=>Pat.lat_keeps ((F.lat x y).mp k).2]
def uj(p q:Pat):D->Prop:=λx=>x=.non\/∃w h s:Int,x=.tup [.int w,.int h,.int s]/\Both p q w h s
def C1(d5:p.Ok)(b7:q.Ok):gE [.lst (p.leaves.map Leaf.D++q.leaves.map Leaf.D)] (uj p q):=by
 rw[<-FD];refine#[p.leaves++q.leaves,(Pat.over p q).depth,rfl,λz=>?_,λl hl=>Pat.leaf_good (p:=.over p q) #[d5.wf,b7.wf] l hl,λw h s f lat=>#[λwh=>.inr #[w,h,s,rfl,Both.of #[f,λx y=>(lat x y).trans (Pat.lat_leaves (.over p q) x y)] wh],λ_=>.inl rfl]];have:=Pat.leaves_pos p;rw[(List.append_eq_nil_iff.mp z).1]at this;simp at this
structure ComF(p q:Pat)(w h s:Int):Prop where
 f:Fam0 w h s
 lat:∀x y,InF w h s x y↔p.Keeps x y/\q.Keeps x y
def ComF.uniq(a:ComF p q w h s)(b:ComF p q w' h' s'):w=w'/\h=h'/\s=s':=
 InF.uniq a.f.w0 a.f.h0 a.f.s0 a.f.sw b.f.w0 b.f.h0 b.f.s0 b.f.sw λx y=>(a.lat x y).trans (b.lat x y).symm
def ComF.of{w1 h1 s1 w2 h2 s2 A:Int}(a:p.Least w1 h1 s1)(b:q.Least w2 h2 s2)(M:MetR w1 h1 s1 w2 h2 s2 w h s A):ComF p q w h s:=
 #[#[M.w0,M.h0,M.s0,M.sw],λx y=>by rw[M.lat,a.lat,b.lat]]
def ComF.all(b:ComF p q w h s)(e:∀x y:Int,0<=x->x<w->0<=y->y<h->p.show x y=q.show x y)(x y:Int):p.show x y=q.show x y:=by
 have w0:=b.f.w0;have h0:=b.f.h0;rw[<-Pat.show_home w0 h0 (λx y k=>((b.lat x y).mp k).1) x y,<-Pat.show_home w0 h0 (λx y k=>((b.lat x y).mp k).2) x y];exact e _ _ (bu w0) (bv w0) (bu h0) (bv h0)
def MetR.le2{w1 h1 s1 w2 h2 s2 A:Int}(M:MetR w1 h1 s1 w2 h2 s2 w h s A)(f1:Fam0 w1 h1 s1)(f2:Fam0 w2 h2 s2)(b1:w1*h1<=720)(b2:w2*h2<=720):w*h<=518400:=by
 have c:=M.cells;have A0:=M.A0;have wp:=Fl M.w0 M.h0;have e1:=GO (show 1<=A by omega) (show 0<=w*h by omega);have p1:=Fl f1.w0 f1.h0;have p2:=Fl f2.w0 f2.h0;have e2:=HY b1 b2 (Int.le_of_lt p2) IU;rw[<-Int.mul_assoc]at e2;omega
def wayD(a b c d:Int):D:=.tup [.tup [.int a,.int b],.tup [.int c,.int d]]
def Way4(a b c d:Int):Prop:=B12 a/\B12 b/\B12 c/\B12 d/\¬a*d=b*c
def bp1(k:Int):∃a b c d,atI [wayD 9 0 0 10,wayD 10 3 (-1) 10,wayD 5 1 1 4,wayD 12 5 0 12] (k%4)=be (wayD a b c d)/\Way4 a b c d:=by
 unfold Way4 B12;rcases(IU:k%4=0\/k%4=1\/k%4=2\/k%4=3)with e|e|e|e<;>rw[e]<;>exact#[_,_,_,_,rfl,y8]
def bp2(k:Int):∃a b c d,atI [wayD 8 0 0 1,wayD 7 0 0 1,wayD 6 2 (-5) 6,wayD 5 0 2 1] (k%4)=be (wayD a b c d)/\Way4 a b c d:=by
 unfold Way4 B12;rcases(IU:k%4=0\/k%4=1\/k%4=2\/k%4=3)with e|e|e|e<;>rw[e]<;>exact#[_,_,_,_,rfl,y8]
def uk{v:Int}(h:1<=v/\v<=6):Rows [(toString v:String)]:=by
 rcases(IU:v=1\/v=2\/v=3\/v=4\/v=5\/v=6)with rfl|rfl|rfl|rfl|rfl|rfl<;>exact row_one (n:=1) IA y8 IA
structure First(p q:Pat)(w h x y:Int):Prop where
 x0:0<=x
 xw:x<w
 y0:0<=y
 yh:y<h
 ne:p.show x y≠q.show x y
 bef:∀x' y':Int,0<=x'->x'<w->0<=y'->(y'<y\/(y'=y/\x'<x))->p.show x' y'=q.show x' y'
def First.uniq{x y x' y':Int}(a:First p q w h x y)(b:First p q w h x' y'):x=x'/\y=y':=by
 have n1:¬(y'<y\/(y'=y/\x'<x)):=λz=>b.ne (a.bef x' y' b.x0 b.xw b.y0 z);have n2:¬(y<y'\/(y=y'/\x<x')):=λz=>a.ne (b.bef x y a.x0 a.xw a.y0 z);omega
inductive Told(p q:Pat):Bool->D->Prop where
 |big {w h s:Int} (c:ComF p q w h s) (b:720<w*h):Told p q true .non
 |same {w h s:Int} (c:ComF p q w h s) (b:w*h<=720) (e:∀x y:Int,p.show x y=q.show x y):Told p q false .non
 |part {w h s x y:Int} (c:ComF p q w h s) (b:w*h<=720) (f:First p q w h x y):Told p q false (.tup [.int x,.int y])
def C3(d5:p.Ok)(b7:q.Ok)(L:p.Least w h s)(L':q.Least w' h' s'):sh2s [.tup [.int w,.int h,.int s],aX p w h] [.tup [.int w',.int h',.int s'],aX q w' h']=true/\((eq2s [.tup [.int w,.int h,.int s],aX p w h] [.tup [.int w',.int h',.int s'],aX q w' h']).all id=true↔∀x y,p.show x y=q.show x y):=by
 have fe:∀(p:Pat) (w h:Int),aX p w h=.lst ((br p w h).map D.str):=λp w h=>by
  unfold aX br;rw[kj]
 rw[fe,fe,<-ow d5 b7 L L'];constructor
 .show(true&&((false||(_&&_))&&true))=true;rw[eK,eK];rfl
 .show(((w==w')&&((h==h')&&((s==s')&&true)))&&(eqFs ((br p w h).map D.str) ((br q w' h').map D.str)&&true))=true↔((w==w')&&((h==h')&&((s==s')&&(eqFs ((br p w h).map D.str) ((br q w' h').map D.str)&&true))))=true;simp only[Fv,and_assoc,true_and,and_true]
section
variable {V:Bx}
abbrev iC(V:Bx):Prop:=V.D 1 "_law_at" ko Ax
def C4(T:V.T "_law_at" km ko)(uB:V.m "len"):iC V:=by
 refine Tx.okDW T Cm (λds R h=>?_) (λf cdv A outer s H E J hr=>⟨_,((ag (aJ (fj (aa 1) (ck uB (ac (aa 0) ae))) (aj (ar (af (aa 0) (aa 1)))) aE)
   (aj (ar ad)))),λds R h=>?_⟩)
 .obtain⟨ns,k,rfl,_⟩:=h;rfl
 .obtain⟨ns,k,rfl,hk,hR⟩:=h;refine ite2 (λc=>?_) (λc=>?_)
  .have c':=of_decide_eq_true c;rw[E9]at c';exact#[_,sJ hk c',hR]
  .have c':=of_decide_eq_false (FH.mpr c);rw[E9]at c';rw[Aw t8]at hR;exact hR
abbrev iD(V:Bx):Prop:=V.D 2 "_law_draws" ku AJ
def C5(T:V.T "_law_draws" kr ku)(uA:V.m "range")(uU:iC V):iD V:=by
 refine Tx.okDW T sc__law_draws (λds R h=>?_) (λf cdv A outer s H E J hr=>⟨_,((ag (ai 3 sc__law_draws.nd (ao uU hr (ac (aa 0) (ac (aa 1) ae))))
   (ag (dO 4 sc__law_draws.nd ae)
   (ag (aJ (aV (av (ao uU hr (ac (aa 0) (ac (am (aa 1) ad) ae))) ad) ad) (ag (bL 5 PassesOwn.never rfl sc__law_draws.nd uA (aa 2) (ag (dg 4 (av (aa 3) ad))
     (aj (ai 3 sc__law_draws.nd (aI (aa 3) ad)))))
    (df 4 (aj (ar (aa 4))))) aE)
   (ag (ai 6 sc__law_draws.nd (av (am (aa 3) ad) ad))
   (ag (bL 5 PassesOwn.never rfl sc__law_draws.nd uA (aa 2) (ag (ai 6 sc__law_draws.nd (av (am (am (aw (aa 6) ad) (ao uU hr (ac (aa 0) (ac (am (am (aa 1) ad) (av (aa 5) ad)) ae)))) (aa 5)) ad))
    (aj (dg 4 (av (av (aw (aa 6) ad) ad) ad)))))
   (df 4 (aj (ar (aa 4)))))))))),λds R h=>?_⟩)
 .obtain⟨_,_,_,rfl,_⟩:=h;rfl
 .obtain⟨ns,k,n,rfl,hk,hn,hR⟩:=h;refine#[λd=>∃v:Int,d=.int v,#[ns,k,rfl,hk,_,rfl],?_];rintro _⟨left,rfl⟩;k_places;refine#[IV,?_];refine#[ns,k+1,rfl,t8,y8,ite2 (λ_=>?_) (λ_=>?_)]
  .refine#[#[t8,t8],λi z=>∃(xs:List Int) (l:Int) (o p:Option D),z=[be (.rol (ns.map D.int)),be (.int k),be (.int n),be (.int l),be (.own (xs.map D.int)),o,p]/\xs.length=i/\Drawn xs,#[[],left,_,_,rfl,rfl,(λx hx=>by cases hx)],?_,?_]
   .rintro i x z hi⟨xs,l,o,p,rfl,hl,hd⟩;k_places;have g5:i<n:=by simpa using(Fj.mp hi).1
    refine#[y8,Nw,?_];refine#[λd=>∃v:Int,d=.int v,#[#[y8,y8],_,rfl],?_];rintro _⟨l',rfl⟩;k_places;rw[sM];exact#[_,l',_,_,rfl,by simp[hl],sN hd (bu y8) (bv y8)]
   .rintro z⟨xs,l,o,p,rfl,hl,hd⟩;k_places;exact hR xs (by simpa using hl) hd
  .refine#[λd=>∃v:Int,d=.int v/\0<=v/\v<2147483647,#[y8,_,rfl,bu y8,bv y8],?_];rintro _⟨L5,rfl,s1,s2⟩;k_places;refine#[#[t8,t8],λi z=>∃(xs:List Int) (sd:Int) (o:Option D),z=[be (.rol (ns.map D.int)),be (.int k),be (.int n),be (.int left),be (.own (xs.map D.int)),o,be (.int sd)]/\xs.length=i/\Drawn xs/\0<=sd/\sd<2147483647,#[[],L5,_,rfl,rfl,(λx hx=>by cases hx),s1,s2],?_,?_]
   .rintro i x z hi⟨xs,sd,o,rfl,hl,hd,s1,s2⟩;k_places;have g5:i<n:=by simpa using(Fj.mp hi).1
    have ex:x=.int (i:Int):=by simp[g5]at hi;exact hi.symm
    subst ex;refine#[λd=>∃v:Int,d=.int v/\0<=v/\v<2147483647,#[.inr #[y8,y8],y8,ns,_,rfl,t8,y8,_,rfl,bu y8,bv y8],?_];rintro _⟨Pn,rfl,t1,t2⟩;k_places;refine#[.inr #[y8,y8],y8,y8,Nw,?_];rw[sM];exact#[_,Pn,_,rfl,by simp[hl],sN hd (bu y8) (bv y8),t1,t2]
   .rintro z⟨xs,sd,o,rfl,hl,hd,_⟩;k_places;exact hR xs (by simpa using hl) hd
abbrev oA(V:Bx):Prop:=V.D 1 "_law_lines" kz AV
def C6(T:V.T "_law_lines" ky kz)(uA:V.m "range")(uB:V.m "len"):oA V:=by
 refine Tx.okDW T sc__law_lines (λds R h=>?_) (λf cdv A outer s H E J hr=>⟨_,((ag (ai 1 sc__law_lines.nd (am ad (av (af (aa 0) ad) ad)))
   (ag (ai 2 sc__law_lines.nd (am ad (av (af (aa 0) ad) ad)))
   (ag (cG (aV (av (af (aa 0) ad) ad) ad) (ag (ai 1 sc__law_lines.nd (am ad (av (af (aa 0) ad) ad)))
    (aj (ai 2 sc__law_lines.nd (am ad (av (af (aa 0) ad) ad))))) aE)
   (ag (ai 3 sc__law_lines.nd (af (aH (ac ax (ac ax (ac ax (ac ax ae))))) (av (af (aa 0) ad) ad)))
   (ag (dO 4 sc__law_lines.nd ae)
   (ag (bL 5 PassesOwn.never rfl sc__law_lines.nd uA (aa 2) (ag (ai 6 sc__law_lines.nd ax)
    (ag (bL 7 PassesOwn.never rfl sc__law_lines.nd uA (aa 1) (ag (ai 8 sc__law_lines.nd (am (aw (aa 5) (aa 1)) (aa 7)))
     (ag (ai 9 sc__law_lines.nd (av (aI (af (aa 0) (am ad (aI (aa 8) ad))) (af (aH (ac ad (ac ad ae))) (av (aa 8) ad))) ad))
     (aj (ai 6 sc__law_lines.nd (am (aa 6) (af (aa 3) (av (aa 9) (ck uB (ac (aa 3) ae))))))))))
    (aj (dg 4 (aa 6))))))
   (df 4 (aj (ar (aa 4))))))))))),λds R h=>?_⟩)
 .obtain⟨_,rfl,_⟩:=h;rfl
 .obtain⟨xs,rfl,hl,hd,hR⟩:=h;have u9:∀k:Nat,k<40->atI (xs.map D.int) (k:Int)=be (.int (cell xs k)):=λk hk=>cB t8 (by simpa using(t8:k<xs.length));have a0:atI (xs.map D.int) 0=be (.int (cell xs 0)):=u9 0 y8;have a1:atI (xs.map D.int) 1=be (.int (cell xs 1)):=u9 1 y8;have a2:atI (xs.map D.int) 2=be (.int (cell xs 2)):=u9 2 y8;have a3:atI (xs.map D.int) 3=be (.int (cell xs 3)):=u9 3 y8;clear hl;refine#[λd=>∃v:Int,d=.int v/\1<=v/\v<=8,#[_,a0,y8,_,rfl,t8],?_];rintro _⟨w0,rfl,Qr⟩;k_places;refine#[λd=>∃v:Int,d=.int v/\1<=v/\v<=8,#[_,a1,y8,_,rfl,t8],?_];rintro _⟨t0,rfl,Qt⟩;k_places;refine#[λz=>∃w t:Nat,z=[be (.lst (xs.map D.int)),be (.int w),be (.int t),m_,m_,m_,m_,m_,m_,m_]/\(1<=w/\w<=8)/\(1<=t/\t<=8),#[_,a2,y8,ite2 (λ_=>?_) (λ_=>?_)],?_]
  .refine#[λd=>∃v:Nat,d=.int v/\1<=v/\v<=8,#[_,a0,y8,(1+cell xs 0%8).toNat,by rw[FE t8],t8],?_];rintro _⟨w,rfl,hw⟩;k_places;refine#[λd=>∃v:Nat,d=.int v/\1<=v/\v<=8,#[_,a1,y8,(1+cell xs 1%8).toNat,by rw[FE t8],t8],?_];rintro _⟨t,rfl,ht⟩;k_places;exact#[w,t,rfl,hw,ht]
  .obtain⟨w,rfl⟩:∃w:Nat,w0=(w:Int):=#[w0.toNat,t8];obtain⟨t,rfl⟩:∃t:Nat,t0=(t:Int):=#[t0.toNat,t8];exact#[w,t,rfl,t8,t8]
  rintro _⟨w,t,rfl,hw,ht⟩;k_places;obtain⟨sg,es,hs⟩:=AR (cell xs 3);refine#[λd=>d=.str sg,#[IV,_,a3,y8,_,es,rfl],?_];rintro _ rfl;k_places;refine#[IV,?_];refine#[#[t8,t8],λk z=>∃(L:List t6) (o1 o2 o3 o4 o5:Option D),z=[be (.lst (xs.map D.int)),be (.int w),be (.int t),be (.str sg),be (.own (L.map D.str)),o1,o2,o3,o4,o5]/\L.length=k/\∀l∈L,l.length=w/\∀c∈cs l,aQ c,#[[],_,_,_,_,_,rfl,rfl,(λx hx=>by cases hx)],?_,?_]
  .rintro j x z hj⟨L,o1,o2,o3,o4,o5,rfl,hL,q9⟩;k_places;have Jz:j<t:=by simpa using(Fj.mp hj).1
   have ex:x=.int (j:Int):=by simp[Jz]at hj;exact hj.symm
   subst ex;refine#[λd=>d=.str "",rfl,?_];rintro _ rfl;k_places;refine#[#[t8,t8],λi z=>∃(ln:t6) (o3 o4 o5:Option D),z=[be (.lst (xs.map D.int)),be (.int w),be (.int t),be (.str sg),be (.own (L.map D.str)),be (.int j),be (.str ln),o3,o4,o5]/\ln.length=i/\∀c∈cs ln,aQ c,#[_,_,_,_,rfl,rfl,(λc hc=>by rw[sO]at hc;cases hc)],?_,?_]
   .rintro i y z hi⟨ln,o3,o4,o5,rfl,K7,L6⟩;k_places;have g5:i<w:=by simpa using(Fj.mp hi).1
    have ey:y=.int (i:Int):=by simp[g5]at hi;exact hi.symm
    subst ey;have pb:=bO (a:=(j:Int)) (d:=(w:Int)) (A:=7) (B:=8) t8 t8;have pn:0<=(j:Int)*(w:Int):=Hb t8 t8;refine#[λd=>∃p:Nat,d=.int p/\p<=63,#[.inl #[t8,t8],((j:Int)*w+i).toNat,by rw[FE t8],t8],?_];rintro _⟨p,rfl,hp⟩;k_places;obtain⟨m,em,hm⟩:=AS (p:Int);have ap:=u9 (8+p/2) t8;have ec:((8+p/2:Nat):Int)=8+(p:Int)/2:=t8
    rw[ec]at ap;refine#[λd=>∃v:Int,d=.int v,#[#[y8,y8],_,ap,IV,y8,_,em,#[t8,t8],y8,_,rfl],?_];rintro _⟨v,rfl⟩;k_places;obtain⟨c,⟨h1,h2⟩,h3⟩:=AL hs v;refine#[λd=>∃x:t6,d=.str x/\x.length=i+1/\∀c∈cs x,aQ c,#[h1,by have:=hs.1;lia,c,#[h1,h2],?_,_,rfl,AT K7 L6 h3],?_]
    .rw[K7];show i+1<=1000000;lia
    rintro _⟨x,rfl,g1,g2⟩;k_places;exact#[x,_,_,_,rfl,g1,g2]
   .rintro z⟨ln,o3,o4,o5,rfl,K7,L6⟩;k_places;have L7:ln.length=w:=by simpa using K7
    refine#[by simp[hL];lia,?_];rw[AU];refine#[_,_,_,_,_,_,rfl,by simp[hL],λl hl=>?_];rcases Fy.mp hl with q|q
    .exact q9 l q
    .rw[E6.mp q];exact#[L7,L6]
  .rintro z⟨L,o1,o2,o3,o4,o5,rfl,hL,q9⟩;k_places;exact hR L (Rows.of ht.1 ht.2 (by simpa using hL) hw.1 hw.2 q9)
abbrev oB(V:Bx):Prop:=V.D 1 "_law_shift_pair" kB AK
def C7(T:V.T "_law_shift_pair" kA kB)(uD:V.m "int"):oB V:=by
 refine Tx.okDW T sc__law_shift_pair (λds R h=>?_) (λf cdv A outer s H E J hr=>⟨_,((ag (aJ (aV (av (aI (af (aa 0) ad) ad) ad) ad) (aj (ar (aH (ac (au (ac (am ad (av (af (aa 0) ad) ad)) (ac ad ae))) (ac (au (ac ad (ac (am ad (av (af (aa 0) ad) ad)) ae))) ae))))) aE)
   (ag (aJ (aV (av (aI (af (aa 0) ad) ad) ad) ad) (aj (ar (aH (ac (au (ac (am ad (av (af (aa 0) ad) ad)) (ac ad ae))) (ac (au (ac (bn (av (af (aa 0) ad) ad) ad) (ac (am ad (av (af (aa 0) ad) ad)) ae))) ae))))) aE)
   (ag (ai 1 sc__law_shift_pair.nd (bn (av (af (aa 0) ad) ad) ad))
   (ag (ai 2 sc__law_shift_pair.nd (bn (av (af (aa 0) ad) ad) ad))
   (ag (ai 3 sc__law_shift_pair.nd (bn (av (af (aa 0) ad) ad) ad))
   (ag (ai 4 sc__law_shift_pair.nd (bn (av (af (aa 0) ad) ad) ad))
   (ag (ai 1 sc__law_shift_pair.nd (am (aa 1) (gh uD (ac (gb (cY (aa 1) ad) (fZ (cY (aa 2) ad))) ae))))
   (ag (aJ (aV (aw (aa 1) (aa 4)) (aw (aa 2) (aa 3))) (aj (ar (aH (ac (au (ac (aa 1) (ac (aa 2) ae))) (ac (au (ac (bY (aa 2)) (ac (aa 1) ae))) ae))))) aE)
   (aj (ar (aH (ac (au (ac (aa 1) (ac (aa 2) ae))) (ac (au (ac (aa 3) (ac (aa 4) ae))) ae)))))))))))))),λds R h=>?_⟩)
 .obtain⟨_,rfl,_⟩:=h;rfl
 .obtain⟨xs,rfl,hl,hd,hR⟩:=h;have a3:=cB (xs:=xs) (k:=3) y8 (show 3<xs.length by lia);have a4:=cB (xs:=xs) (k:=4) y8 (show 4<xs.length by lia);have a5:=cB (xs:=xs) (k:=5) y8 (show 5<xs.length by lia);have a6:=cB (xs:=xs) (k:=6) y8 (show 6<xs.length by lia);have a7:=cB (xs:=xs) (k:=7) y8 (show 7<xs.length by lia);generalize cell xs 3=x3 at*;generalize cell xs 4=x4 at*;generalize cell xs 5=x5 at*;generalize cell xs 6=x6 at*;generalize cell xs 7=x7 at*;clear hl hd;refine#[_,a3,#[y8,y8],y8,ite2 (λ_=>?_) (λ_=>?_)]
  .refine#[_,a4,y8,IV,_,a5,y8,IV,IV,hR _ _ _ _ t8 t8 t8 t8 ?_];have p:0<(1+x4%6)*(1+x5%6):=Fl t8 t8;lia
  refine#[_,a3,#[y8,y8],y8,ite2 (λ_=>?_) (λ_=>?_)]
  .refine#[_,a4,y8,IV,_,a6,y8,_,a5,y8,IV,IV,hR _ _ _ _ t8 t8 t8 t8 ?_];have p:0<(1+x4%6)*(1+x5%4):=Fl t8 t8;lia
  refine#[λd=>∃v:Int,d=.int v/\-12<=v/\v<=12,#[_,a4,y8,_,rfl,t8],?_];rintro _⟨a,rfl,ha⟩;k_places;refine#[λd=>∃v:Int,d=.int v/\-12<=v/\v<=12,#[_,a5,y8,_,rfl,t8],?_];rintro _⟨b,rfl,hb⟩;k_places;refine#[λd=>∃v:Int,d=.int v/\-12<=v/\v<=12,#[_,a6,y8,_,rfl,t8],?_];rintro _⟨c,rfl,hc⟩;k_places;refine#[λd=>∃v:Int,d=.int v/\-12<=v/\v<=12,#[_,a7,y8,_,rfl,t8],?_];rintro _⟨d,rfl,fI⟩;k_places;refine#[λx=>∃v:Int,x=.int v/\(-12<=v/\v<=12)/\¬(v=0/\b=0),ite2 (λe=>?_) (λe=>?_),?_]
  .have e':=of_decide_eq_true e;by_cases N1:b=0
   .refine#[_,rfl,?_];subst e' N1;simp
   .refine#[_,rfl,?_];subst e';simp[N1]
  .have e':=of_decide_eq_false (FH.mpr e);refine#[_,rfl,?_];simp;lia
  rintro _⟨a,rfl,ha,Kj⟩;k_places;refine#[.inl (i64 ha.1 ha.2),.inl (i64 hb.1 hb.2),ite2 (λe=>?_) (λe=>?_)]
  .refine#[IV,IV,IV,hR a b (-b) a ha hb t8 ha ?_];rw[FZ];intro z;have s1:0<=a*a:=sq0 a;have s2:0<=b*b:=sq0 b;have z1:a*a=0:=by omega
   have z2:b*b=0:=IU
   exact Kj #[(GR.mp z1).elim id id,(GR.mp z2).elim id id]
  .have e':=of_decide_eq_false (FH.mpr e);exact#[IV,IV,IV,hR a b c d ha hb hc fI e']
abbrev eM(V:Bx):Prop:=V.D 1 "_law_motif_text" kD AW
def C8(T:V.T "_law_motif_text" kC kD)(uI:V.m "str"):eM V:=by
 refine Tx.okDW T sc__law_motif_text (λds R h=>?_) (λf cdv A outer s H E J hr=>⟨_,((ag (ai 3 sc__law_motif_text.nd (am (am (am (am (am (am (am ax (cz uI (ac (af (aa 1) ad) ae))) ax) (cz uI (ac (af (aa 1) ad) ae))) ax) (cz uI (ac (af (aa 2) ad) ae))) ax) (cz uI (ac (af (aa 2) ad) ae))))
   (aj (ar (am (am (am ax (jD (aa 0))) (aa 3)) ax))))),λds R h=>?_⟩)
 .obtain⟨_,_,_,_,_,rfl,_⟩:=h;rfl
 .obtain⟨L,a,b,c,d,rfl,hL,ha,hb,hc,hd,hR⟩:=h;have la:=bE ha;have lb:=bE hb;have lc:=bE hc;have ld:=bE hd;have l1:(";":t6).length=1:=rfl;have l2:(",":t6).length=1:=rfl;have l3:("[":t6).length=1:=rfl;have l4:("]":t6).length=1:=rfl;have ls:=sP hL;have lj:=StrLaws.join_length_le "/" L;unfold B12 at ha hb hc hd;refine#[λx=>x=.str ((((((((";":t6)++(toString a:String))++",")++(toString b:String))++";")++(toString c:String))++",")++(toString d:String)),#[_,rfl,t8,?_,?_,_,rfl,t8,?_,?_,_,rfl,t8,?_,?_,_,rfl,t8,?_,rfl],?_]
  .lia
  .rw[aD];lia
  .rw[aD,aD];lia
  .rw[aD,aD,aD];lia
  .rw[aD,aD,aD,aD];lia
  .rw[aD,aD,aD,aD,aD];lia
  .rw[aD,aD,aD,aD,aD,aD];lia
  rintro _ rfl;k_places;have lg:(Txt.join "/" L).length<=72:=by
   have e:Txt.join "/" L=Str.join "/" L:=StrLaws.glued_eq_join _ _;rw[e];exact Fh lj ls
  refine#[L,gD L,t8,?_,?_,?_,hR]
  .lia
  .repeat rw[aD]
   lia
  .repeat rw[aD]
   lia
abbrev iE(V:Bx):Prop:=V.D 3 "_law_motif" kF AY
def C9(T:V.T "_law_motif" kE kF)(JA:iD V)(L8:oA V)(L9:oB V)(uV:eM V):iE V:=by
 refine Tx.okDW T sc__law_motif (λds R h=>?_) (λf cdv A outer s H E J hr=>⟨_,((ag (ai 2 sc__law_motif.nd (ao JA hr (ac (aa 0) (ac (aa 1) (ac ad ae)))))
   (ag (ai 3 sc__law_motif.nd (ao L8 hr (ac (aa 2) ae)))
   (ag (jE rfl (ao L9 hr (ac (aa 2) ae)) (dg_cons 4 sc__law_motif.nd (dg_cons 5 sc__law_motif.nd cy)))
   (ag (ai 6 sc__law_motif.nd (au (ac (aa 3) (ac (aa 4) (ac (aa 5) (ac (au (ac ad (ac ad (ac ad (ac ad (ac ad (ac ad ae))))))) (ac (aH (ac ad (ac ad (ac ad (ac ad (ac ad (ac ad (ac ad ae)))))))) ae)))))))
   (aj (ar (aH (ac (ao uV hr (ac (aa 3) (ac (aa 4) (ac (aa 5) ae)))) (ac ad (ac (aH (ac (aa 6) ae)) ae))))))))))),λds R h=>?_⟩)
 .obtain⟨_,_,rfl,_⟩:=h;rfl
 .obtain⟨ns,k,rfl,hk,hR⟩:=h;refine#[λx=>∃xs:List Int,x=.lst (xs.map D.int)/\xs.length=40/\Drawn xs,#[ns,k,40,rfl,hk,y8,λxs h1 h2=>#[xs,rfl,h1,h2]],?_];rintro _⟨xs,rfl,hl,hd⟩;k_places;refine#[λx=>∃L:List t6,x=.lst (L.map D.str)/\Rows L,#[xs,rfl,t8,hd,λL h=>#[L,rfl,h]],?_];rintro _⟨L,rfl,hL⟩;k_places;refine#[xs,rfl,t8,hd,λa b c d ha hb hc fI hn=>#[rfl,?_]];refine#[λx=>x=(bg L a b c d).D,#[IV,IV,IV,rfl],?_];rintro _ rfl;k_places;exact#[L,a,b,c,d,rfl,hL,ha,hb,hc,fI,IV,IV,hR L a b c d hL ha hb hc fI hn]
abbrev fF(V:Bx):Prop:=V.D 1 "_law_wrapped" kG A9
def Da(T:V.T "_law_wrapped" gL kG)(uI:V.m "str")(JB:V.m "list")(uD:V.m "int"):fF V:=by
 refine Tx.okDW T sc__law_wrapped (λds R h=>?_) (λf cdv A outer s H E J hr=>⟨_,((ag (aJ (qY (af (aa 0) ad) ad) (aj (ar (aa 0))) aE)
   (ag (ai 2 sc__law_wrapped.nd (bn (av (aI (aa 1) ad) ad) ad))
   (ag (ai 3 sc__law_wrapped.nd (bn (av (aI (aa 1) ad) ad) ad))
   (ag (ai 4 sc__law_wrapped.nd (am ad (av (aI (aa 1) ad) ad)))
   (ag (ai 5 sc__law_wrapped.nd (am ad (av (aI (aa 1) ad) ad)))
   (ag (ai 6 sc__law_wrapped.nd (am (am (am (am ax (cz uI (ac (aa 2) ae))) ax) (cz uI (ac (aa 3) ae))) ax))
   (ag (ai 7 sc__law_wrapped.nd (af (aH (ac ax (ac ax (ac (aa 6) (ac (am (am ax (cz uI (ac (aa 4) ae))) (cz uI (ac (aa 5) ae))) ae))))) (av (aa 1) ad)))
   (ag (ai 8 sc__law_wrapped.nd (aH (ac (au (ac (bY ad) (ac ad (ac ad (ac ad (ac ad (ac ad ae))))))) (ac (au (ac ad (ac ad (ac (bY ad) (ac ad (ac ad (ac ad ae))))))) ae))))
   (ag (ai 8 sc__law_wrapped.nd (am (aa 8) (aH (ac (au (ac ad (ac ad (ac ad (ac ad (ac (bY (aa 2)) (ac (bY (aa 3)) ae))))))) (ac (au (ac ad (ac ad (ac ad (ac ad (ac ad (ac ad ae))))))) ae)))))
   (ag (ai 9 sc__law_wrapped.nd (af (aa 8) (av (aa 1) ad)))
   (ag (dO 10 sc__law_wrapped.nd ae)
   (ag (fo 11 PassesOwn.never rfl sc__law_wrapped.nd (af (aa 0) ad) (ag (jB rfl (af (aa 11) ad) (dg_cons 12 sc__law_wrapped.nd (dg_cons 13 sc__law_wrapped.nd (dg_cons 14 sc__law_wrapped.nd (dg_cons 15 sc__law_wrapped.nd (dg_cons 16 sc__law_wrapped.nd (dg_cons 17 sc__law_wrapped.nd cy)))))))
    (ag (ai 18 sc__law_wrapped.nd (au (ac (am (aw (aa 12) (af (aa 9) ad)) (aw (aa 13) (af (aa 9) ad))) (ac (am (aw (aa 12) (af (aa 9) ad)) (aw (aa 13) (af (aa 9) ad))) ae))))
    (ag (ai 18 sc__law_wrapped.nd (am (aa 18) (au (ac (am (aw (aa 14) (af (aa 9) ad)) (aw (aa 15) (af (aa 9) ad))) (ac (am (aw (aa 14) (af (aa 9) ad)) (aw (aa 15) (af (aa 9) ad))) ae)))))
    (ag (ai 16 sc__law_wrapped.nd (am (am (aa 16) (aw (aa 12) (af (aa 9) ad))) (aw (aa 13) (af (aa 9) ad))))
    (ag (ai 17 sc__law_wrapped.nd (am (am (aa 17) (aw (aa 14) (af (aa 9) ad))) (aw (aa 15) (af (aa 9) ad))))
    (ag (ai 19 sc__law_wrapped.nd (ye JB (ac (af (aa 11) ad) ae)))
    (ag (cG (aV (av (aa 1) ad) ad) (aj (yu 19 rfl (compScope (by change cA _ (ah gL) ["_law_part","_law_draw","_law_across","_law_down","_law_old","_law_new","_law_shift","_law_head","_law_ways","_law_by","_law_leaves","_law_leaf","_law_a","_law_b","_law_c","_law_d","_law_e","_law_f","_law_way","_law_hues"] _=true;decide+kernel)) sc__law_wrapped.nd (af (aa 11) ad) (λcl s0 H0 fp=>(af (aH (ac (aa 20) (ac (aa 5) ae))) (gh uD (ac (cY (aa 20) (aa 4)) ae)))))) aE)
    (aj (dg 10 (au (ac (af (aa 11) ad) (ac (af (aa 11) ad) (ac (af (aa 11) ad) (ac (am (aa 18) (au (ac (aa 16) (ac (aa 17) ae)))) (ac (aa 19) ae))))))))))))))))
   (df 10 (aj (ar (aH (ac (am (aa 7) (af (aa 0) ad)) (ac (am (af (aa 0) ad) ad) (ac (aa 10) ae)))))))))))))))))))),λds R h=>?_⟩)
 .obtain⟨_,_,rfl,_⟩:=h;rfl
 .obtain⟨p,draw,rfl,wf,hd,ht,hW⟩:=h;refine#[_,rfl,ite2 (λc=>?_) (λc=>?_)]
  .have c':=of_decide_eq_true c;exact hW.1 t8
  have c':=of_decide_eq_false (FH.mpr c);have fI:p.depth<5:=t8
  refine#[λd=>∃v:Int,d=.int v/\B12 v,#[#[y8,y8],y8,_,rfl,by unfold B12;lia],?_];rintro _⟨A,rfl,hA⟩;simp only[Ft,Fw,aP];refine#[λd=>∃v:Int,d=.int v/\B12 v,#[#[y8,y8],y8,_,rfl,by unfold B12;lia],?_];rintro _⟨B,rfl,hB⟩;simp only[Ft,Fw,aP];refine#[λd=>∃v:Int,d=.int v/\1<=v/\v<=6,#[#[y8,y8],y8,_,rfl,t8],?_];rintro _⟨d6,rfl,ho⟩;simp only[Ft,Fw,aP];refine#[λd=>∃v:Int,d=.int v/\1<=v/\v<=6,#[#[y8,y8],y8,_,rfl,t8],?_];rintro _⟨new,rfl,hn⟩;simp only[Ft,Fw,aP];have l1:("s":t6).length=1:=rfl;have l2:(",":t6).length=1:=rfl;have l3:(":":t6).length=1:=rfl;have l4:("h":t6).length=1:=rfl;have lA:=bE hA;have lB:=bE hB;have lo:=dX ho;have ln:=dX hn;obtain⟨hs,b0,b1,b2,b3,b4,b5,e1,e2,hb,hl,hR⟩:=A7 hW fI (k:=0) hA hB ho hn t8;unfold B12 at hA hB;refine#[λx=>x=.str ((((("s":t6)++(toString A:String))++",")++(toString B:String))++":"),#[t8,?_,?_,t8,?_,?_,rfl],?_]
  .lia
  .rw[aD];lia
  .rw[aD,aD];lia
  .rw[aD,aD,aD];lia
  rintro _ rfl;simp only[Ft,Fw,aP];refine#[λx=>x=.str hs,#[t8,?_,t8,?_,IV,y8,_,e1,rfl],?_]
  .lia
  .rw[aD];lia
  rintro _ rfl;simp only[Ft,Fw,aP];refine#[λx=>x=.lst [D.tup [.int (-1),.int 0,.int 0,.int 1,.int 0,.int 0],D.tup [.int 0,.int 1,.int (-1),.int 0,.int 0,.int 0]],#[IV,IV,IV,rfl],?_];rintro _ rfl;simp only[Ft,Fw,aP];refine#[λx=>x=.lst ([D.tup [.int (-1),.int 0,.int 0,.int 1,.int 0,.int 0],D.tup [.int 0,.int 1,.int (-1),.int 0,.int 0,.int 0]]++[D.tup [.int 1,.int 0,.int 0,.int 1,.int (-A),.int (-B)],D.tup [.int 1,.int 0,.int 0,.int 1,.int 0,.int 0]]),#[IV,IV,IV,IV,rfl],?_];rintro _ rfl;simp only[Ft,Fw,aP];refine#[λx=>x=.tup [.int b0,.int b1,.int b2,.int b3,.int b4,.int b5],#[y8,_,e2,rfl],?_];rintro _ rfl;simp only[Ft,Fw,aP];refine#[IV,?_];generalize D.str ((((("s":t6)++(toString A:String))++",")++(toString B:String))++":")=sD;generalize D.lst ([D.tup [.int (-1),.int 0,.int 0,.int 1,.int 0,.int 0],D.tup [.int 0,.int 1,.int (-1),.int 0,.int 0,.int 0]]++[D.tup [.int 1,.int 0,.int 0,.int 1,.int (-A),.int (-B)],D.tup [.int 1,.int 0,.int 0,.int 1,.int 0,.int 0]])=wD;clear e1 e2 hW lA lB lo ln l1 l2 l3 l4 hA hB c';refine#[_,rfl,λk z=>∃L_ Ma Mb Mc Md Me Mf Mg JC:Option D,z=[be p.D,be (.int draw),be (.int A),be (.int B),be (.int d6),be (.int new),be sD,be (.str hs),be wD,be (.tup [.int b0,.int b1,.int b2,.int b3,.int b4,.int b5]),be (.own (((p.leaves.take k).map (Leaf.T (decide (draw%4=3)) d6 new b0 b1 b2 b3 b4 b5)).map Leaf.D)),L_,Ma,Mb,Mc,Md,Me,Mf,Mg,JC],#[_,_,_,_,_,_,_,_,_,rfl],?_,?_]
  .rintro k v z hk⟨L_,Ma,Mb,Mc,Md,Me,Mf,Mg,JC,rfl⟩;k_places;rw[Fg]at hk;have m5:k<p.leaves.length:=by
    rcases Gk k p.leaves.length with q|q
    .exact q
    .rw[FQ q]at hk;cases hk
   have JD:p.leaves[k]?=be p.leaves[k]:=Fo m5;rw[JD]at hk;cases hk;obtain⟨gd,nr⟩:=Pat.leaf_good wf p.leaves[k] (FC m5);have a_:(p.leaves.take k).length<=1000:=by rw[Gv];have:=Pat.leaves_32 hd;lia
   generalize p.leaves[k]=l at JD gd nr;obtain⟨r0,r1,r2,r3⟩:=nr.unit;obtain⟨q0,q1,q2,q3,q4,q5⟩:=hb;refine#[_,rfl,rfl,?_];simp only[Ft,Fw,aP];refine#[λx=>x=.tup [.int (l.w0*b0+l.w1*b2),.int (l.w0*b1+l.w1*b3)],#[_,rfl,.inr (n64 q0),_,rfl,.inr (n64 q2),_,rfl,.inr (n64 q1),_,rfl,.inr (n64 q3),IV,rfl],?_];rintro _ rfl;simp only[Ft,Fw,aP];refine#[λx=>x=.tup [.int (l.w0*b0+l.w1*b2),.int (l.w0*b1+l.w1*b3),.int (l.w2*b0+l.w3*b2),.int (l.w2*b1+l.w3*b3)],#[_,rfl,.inr (n64 q0),_,rfl,.inr (n64 q2),_,rfl,.inr (n64 q1),_,rfl,.inr (n64 q3),IV,IV,rfl],?_];rintro _ rfl;simp only[Ft,Fw,aP];refine#[λx=>x=.int (l.w4+l.w0*b4+l.w1*b5),#[_,rfl,.inr (n64 q4),_,rfl,.inr (n64 q5),rfl],?_];rintro _ rfl;simp only[Ft,Fw,aP];refine#[λx=>x=.int (l.w5+l.w2*b4+l.w3*b5),#[_,rfl,.inr (n64 q4),_,rfl,.inr (n64 q5),rfl],?_];rintro _ rfl;simp only[Ft,Fw,aP];refine#[λx=>x=.lst (l.hues.map D.int),#[_,rfl,rfl],?_];rintro _ rfl;simp only[Ft,Fw,aP];refine#[λz=>∃JC:List Int,JC=(Leaf.T (decide (draw%4=3)) d6 new b0 b1 b2 b3 b4 b5 l).hues/\z=[be p.D,be (.int draw),be (.int A),be (.int B),be (.int d6),be (.int new),be sD,be (.str hs),be wD,be (.tup [.int b0,.int b1,.int b2,.int b3,.int b4,.int b5]),be (.own (((p.leaves.take k).map (Leaf.T (decide (draw%4=3)) d6 new b0 b1 b2 b3 b4 b5)).map Leaf.D)),be l.D,be (.int l.w0),be (.int l.w1),be (.int l.w2),be (.int l.w3),be (.int (l.w4+l.w0*b4+l.w1*b5)),be (.int (l.w5+l.w2*b4+l.w3*b5)),be (.tup [.int (l.w0*b0+l.w1*b2),.int (l.w0*b1+l.w1*b3),.int (l.w2*b0+l.w3*b2),.int (l.w2*b1+l.w3*b3)]),be (.lst (JC.map D.int))],#[y8,ite2 (λc=>?_) (λc=>?_)],?_]
   .have c3:=of_decide_eq_true c;refine#[λx=>x=.lst ((l.hues.map (bG d6 new)).map D.int),#[_,rfl,by rw[E9,gd.many];decide,λk ys=>ys=((l.hues.take k).map (bG d6 new)).map D.int,rfl,?_,?_],?_]
    .rintro k' x ys hx hl rfl;rw[Fg]at hx;cases e:l.hues[k']? with
     |none=>rw[e]at hx;cases hx
     |some hu=>
      rw[e]at hx;cases hx;refine#[IV,_,A8 hu d6 new,?_];dsimp only;rw[ke e];simp
    .rintro ys hl rfl;rw[E9,GS]
    .rintro _ rfl;k_places;exact#[_,by simp[Leaf.T,c3,Leaf.dye,Leaf.by],rfl]
   .have c3:=of_decide_eq_false (FH.mpr c);exact#[_,by simp[Leaf.T,c3,Leaf.by],rfl]
   rintro _⟨hu,Po,rfl⟩;k_places;refine#[_,rfl,_,rfl,_,rfl,IV,IV,IV,by rw[E9,E9];lia,?_];have eT:(D.tup [.lst (l.rows.map D.str),.tup [.int l.a,.int l.b],.tup [.int l.c,.int l.d],.tup ([.int (l.w0*b0+l.w1*b2),.int (l.w0*b1+l.w1*b3),.int (l.w2*b0+l.w3*b2),.int (l.w2*b1+l.w3*b3)]++[.int (l.w4+l.w0*b4+l.w1*b5),.int (l.w5+l.w2*b4+l.w3*b5)]),.lst (hu.map D.int)])=(Leaf.T (decide (draw%4=3)) d6 new b0 b1 b2 b3 b4 b5 l).D:=by
    rw[Po];by_cases c3:draw%4=3
    .simp[Leaf.T,c3,Leaf.D,Leaf.dye,Leaf.by]
    .simp[Leaf.T,c3,Leaf.D,Leaf.by]
   have e9:((p.leaves.take (k+1)).map (Leaf.T (decide (draw%4=3)) d6 new b0 b1 b2 b3 b4 b5)).map Leaf.D=((p.leaves.take k).map (Leaf.T (decide (draw%4=3)) d6 new b0 b1 b2 b3 b4 b5)).map Leaf.D++[(Leaf.T (decide (draw%4=3)) d6 new b0 b1 b2 b3 b4 b5 l).D]:=by
    rw[ke JD,FD,FD,Fi,Fi,FW,FW]
   rw[e9,<-eT];exact#[_,_,_,_,_,_,_,_,_,rfl]
  .rintro z⟨L_,Ma,Mb,Mc,Md,Me,Mf,Mg,JC,rfl⟩;k_places;rw[E9,GS];refine#[_,rfl,t8,_,rfl,IV,hR]
abbrev iF(V:Bx):Prop:=V.D 1 "_law_gcd" kI AB
def Db(T:V.T "_law_gcd" kH kI)(uN:V.m "abs"):iF V:=by
 refine Tx.okDW T sc__law_gcd (λds R h=>?_) (λf cdv A outer s H E J hr=>⟨_,((ag (ai 0 sc__law_gcd.nd (dL uN (ac (aa 0) ae)))
   (ag (ai 1 sc__law_gcd.nd (dL uN (ac (aa 1) ae)))
   (ag (dh PassesOwn.never (bK (aa 1) ad) (aj (xZ 0 1 rfl sc__law_gcd.nd (ac (aa 1) (ac (av (aa 0) (aa 1)) ae)))))
   (aj (ar (aa 0))))))),λds R h=>?_⟩)
 .obtain⟨x,y,rfl,_⟩:=h;rfl
 .obtain⟨x,y,rfl,hR⟩:=h;refine#[λd=>d=.int (if x<0 then -x else x),rfl,?_];rintro _ rfl;k_places;refine#[λd=>d=.int (if y<0 then -y else y),rfl,?_];rintro _ rfl;k_places;have hx:0<=(if x<0 then -x else x):=by split<;>lia
  have hy:0<=(if y<0 then -y else y):=by split<;>lia
  have Mh:∀e,(e∣(if x<0 then -x else x)/\e∣(if y<0 then -y else y))↔(e∣x/\e∣y):=λe=>by rw[sK,sK]
  generalize (if x<0 then -x else x)=a at hx Mh ⊢;generalize (if y<0 then -y else y)=b at hy Mh ⊢;refine#[λm z=>∃a b:Int,z=[be (.int a),be (.int b)]/\0<=a/\0<=b/\(∀e,(e∣a/\e∣b)↔(e∣x/\e∣y))/\m=b.toNat,#[_,a,b,rfl,hx,hy,Mh,rfl],?_];rintro m z⟨a,b,rfl,ha,hb,Kj,rfl⟩;k_places;refine ite2 (λc=>?_) (λc=>?_)
  .have c':¬b=0:=by simpa using c
   have q1:=bu (a:=a) (show 0<b by lia);have q2:=bv (a:=a) (show 0<b by lia);refine#[t8,_,?_,b,a%b,rfl,hb,q1,λe=>?_,rfl]
   .lia
   .rw[<-Kj e];constructor
    .rintro⟨h1,h2⟩;exact#[(sL h1).mp h2,h1]
    .rintro⟨h1,h2⟩;exact#[h2,(sL h2).mpr h1]
  .have c':b=0:=by simpa using c
   subst c';have g:=(Kj a).mp #[Int.dvd_refl a,Int.dvd_zero a];exact hR a ha g.1 g.2 λe h1 h2=>((Kj e).mpr #[h1,h2]).1
abbrev iG(V:Bx):Prop:=V.D 1 "_law_on" kK AA
def Dc(T:V.T "_law_on" kJ kK):iG V:=by
 refine Tx.okDW T sc__law_on (λds R h=>?_) (λf cdv A outer s H E J hr=>⟨_,((ag (ai 4 sc__law_on.nd (bn (aw (af (aa 0) ad) (af (aa 1) ad)) (aw (af (aa 0) ad) (af (aa 1) ad))))
   (aj (ar (gb (cY (qQ (bn (aw (aa 2) (af (aa 1) ad)) (aw (aa 3) (af (aa 1) ad))) (aa 4)) ad) (fZ (cY (qQ (bn (aw (af (aa 0) ad) (aa 3)) (aw (af (aa 0) ad) (aa 2))) (aa 4)) ad))))))),λds R h=>?_⟩)
 .obtain⟨a,b,c,d,u,v,rfl,_⟩:=h;rfl
 .obtain⟨a,b,c,d,u,v,rfl,ha,hb,hc,hd,hn,hR⟩:=h;have JE:∀{x:Int},x.natAbs<1073741824->-(2^64)<x/\x<2^64:=λh=>n64 (Nat.le_of_lt_succ h);refine#[λx=>x=.int (a*d-b*c),#[_,rfl,_,rfl,.inl (JE ha),_,rfl,_,rfl,.inl (JE hb),rfl],?_];rintro _ rfl;k_places;refine#[_,rfl,.inr (JE hd),_,rfl,.inr (JE hc),IU,ite2 (λe=>?_) (λe=>?_)]
  .have e':=of_decide_eq_true e;refine#[_,rfl,.inl (JE ha),_,rfl,.inl (JE hb),IU,?_];have q:decide ((a*v-b*u).fmod (a*d-b*c)=0)=decide ((u*d-v*c).fmod (a*d-b*c)=0/\(a*v-b*u).fmod (a*d-b*c)=0):=by simp[e']
   have g:R (.bl (decide ((a*v-b*u).fmod (a*d-b*c)=0))):=by rw[q];exact hR
   exact g
  .have e':=of_decide_eq_false (FH.mpr e);have q:decide ((u*d-v*c).fmod (a*d-b*c)=0/\(a*v-b*u).fmod (a*d-b*c)=0)=false:=by simp[e']
   rw[q]at hR;exact hR
abbrev oC(V:Bx):Prop:=V.D 2 "_law_leaf_family" kM Bb
def Dd(T:V.T "_law_leaf_family" kL kM)(uN:V.m "abs")(JF:iF V)(JG:iG V):oC V:=by
 refine Tx.okDW T sc__law_leaf_family (λds R h=>?_) (λf cdv A outer s H E J hr=>⟨_,((ag (jB rfl (af (aa 0) ad) (dg_cons 1 sc__law_leaf_family.nd (dg_cons 2 sc__law_leaf_family.nd (dg_cons 3 sc__law_leaf_family.nd (dg_cons 4 sc__law_leaf_family.nd (dg_cons 5 sc__law_leaf_family.nd (dg_cons 6 sc__law_leaf_family.nd cy)))))))
   (ag (ai 7 sc__law_leaf_family.nd (au (ac (am (aw (aa 1) (af (af (aa 0) ad) ad)) (aw (aa 3) (af (af (aa 0) ad) ad))) (ac (am (aw (aa 2) (af (af (aa 0) ad) ad)) (aw (aa 4) (af (af (aa 0) ad) ad))) ae))))
   (ag (ai 8 sc__law_leaf_family.nd (au (ac (am (aw (aa 1) (af (af (aa 0) ad) ad)) (aw (aa 3) (af (af (aa 0) ad) ad))) (ac (am (aw (aa 2) (af (af (aa 0) ad) ad)) (aw (aa 4) (af (af (aa 0) ad) ad))) ae))))
   (ag (ai 9 sc__law_leaf_family.nd (ao JF hr (ac (af (aa 7) ad) (ac (af (aa 8) ad) ae))))
   (ag (ai 10 sc__law_leaf_family.nd (aI (dL uN (ac (bn (aw (af (aa 7) ad) (af (aa 8) ad)) (aw (af (aa 7) ad) (af (aa 8) ad))) ae)) (aa 9)))
   (ag (ai 11 sc__law_leaf_family.nd ad)
   (ag (dh PassesOwn.never (cx (bD (ao JG hr (ac (aa 7) (ac (aa 8) (ac (aa 11) (ac (aa 9) ae))))))) (aj (ai 11 sc__law_leaf_family.nd (am (aa 11) ad))))
   (aj (ar (au (ac (aa 10) (ac (aa 9) (ac (aa 11) ae)))))))))))))),λds R h=>?_⟩)
 .obtain⟨_,_,rfl,_⟩:=h;rfl
 .obtain⟨l,n,rfl,gd,nr,hR⟩:=h;obtain⟨h0,h1,h2,h3⟩:=nr.unit;obtain⟨z0,z1,z2,z3,ne,z5⟩:=Leaf.sizes gd nr;have ha:=gd.a;have hb:=gd.b;have hc:=gd.c;have hd:=gd.d;unfold B12 at ha hb hc hd;refine#[_,rfl,rfl,?_];simp only[Ft,Fw,aP];refine#[λx=>x=.tup [.int l.o0,.int l.o1],#[_,rfl,_,rfl,.inl (u64 h0),_,rfl,_,rfl,.inl (u64 h2),_,rfl,_,rfl,.inl (u64 h1),_,rfl,_,rfl,.inl (u64 h3),IV,rfl],?_];rintro _ rfl;k_places;refine#[λx=>x=.tup [.int l.t0,.int l.t1],#[_,rfl,_,rfl,.inl (u64 h0),_,rfl,_,rfl,.inl (u64 h2),_,rfl,_,rfl,.inl (u64 h1),_,rfl,_,rfl,.inl (u64 h3),IV,rfl],?_];rintro _ rfl;k_places;generalize l.o0=o0 at*;generalize l.o1=o1 at*;generalize l.t0=t0 at*;generalize l.t1=t1 at*;refine#[λx=>∃g:Int,x=.int g/\0<=g/\g∣o1/\g∣t1/\∀e,e∣o1->e∣t1->e∣g,#[_,rfl,_,rfl,o1,t1,rfl,λg q0 q1 q2 q3=>#[g,rfl,q0,q1,q2,q3]],?_];rintro _⟨g,rfl,q0,q1,q2,q3⟩;k_places;obtain⟨w,s,f⟩:=Ba ne q0 q1 q2 q3;have hg:=f.2.1;have k1:=bO (a:=o0) (d:=t1) (A:=24) (B:=24) z0 z3;have k2:=bO (a:=o1) (d:=t0) (A:=24) (B:=24) z1 z2;have Qu:=f.bd (N:=288) z5;have t9:=f.cells;have ew:(if o0*t1-o1*t0<0 then -(o0*t1-o1*t0)else o0*t1-o1*t0)/g=w:=by
   have hp:=Fl f.1 hg;have:(if o0*t1-o1*t0<0 then -(o0*t1-o1*t0)else o0*t1-o1*t0)=w*g:=by split<;>lia
   rw[this];exact FI _ t8
  refine#[λx=>x=.int w,#[_,rfl,_,rfl,.inl (n64 z0),_,rfl,_,rfl,.inl (n64 z1),#[t8,t8],?_],?_]
  .exact congrArg D.int ew
  rintro _ rfl;k_places;refine#[λx=>x=.int 0,rfl,?_];rintro _ rfl;k_places;have hp:=Fl f.1 hg;refine#[λm z=>∃x:Int,z=[be l.D,be (.int l.w0),be (.int l.w1),be (.int l.w2),be (.int l.w3),be (.int l.w4),be (.int l.w5),be (.tup [.int o0,.int o1]),be (.tup [.int t0,.int t1]),be (.int g),be (.int w),be (.int x)]/\0<=x/\x<=s/\m=(s-x).toNat,#[_,0,rfl,t8,f.2.2.1,rfl],?_];rintro m z⟨x,rfl,x0,x1,rfl⟩;k_places;refine#[o0,o1,t0,t1,x,g,rfl,t8,t8,t8,t8,ne,?_];refine ite2 (λc=>?_) (λc=>?_)
  .have c':¬((x*t1-g*t0).fmod (o0*t1-o1*t0)=0/\(o0*g-o1*x).fmod (o0*t1-o1*t0)=0):=notT c;have xs:x≠s:=by
    rintro rfl;obtain⟨_,_,_,_,m',n',k',l',_,e1,e2,e3,e4⟩:=id f;exact c' (sH e3 e4)
   refine#[λd=>d=.int (x+1),rfl,?_];rintro _ rfl;k_places;exact#[_,t8,x+1,rfl,t8,t8,rfl]
  .have c':(x*t1-g*t0).fmod (o0*t1-o1*t0)=0/\(o0*g-o1*x).fmod (o0*t1-o1*t0)=0:=by
    exact notF c
   obtain⟨i,j,e1,e2⟩:=sW ne c';have:x=s:=f.uniq_lean e1 e2 x0 x1;subst this;exact#[IV,hR w g x f t8]
abbrev oE(V:Bx):Prop:=V.D 1 "_law_in_family" kO Az
def De(T:V.T "_law_in_family" kN kO):oE V:=by
 refine Tx.okDW T Cn (λds R h=>?_) (λf cdv A outer s H E J hr=>#[_,((aj (ar (gb (cY (av (aa 2) (af (aa 0) ad)) ad) (fZ (cY (av (bn (aa 1) (aw (aI (aa 2) (af (aa 0) ad)) (af (aa 0) ad))) (af (aa 0) ad)) ad)))))),λds R h=>?_])
 .obtain⟨w,h,s,x,y,rfl,_⟩:=h;rfl
 .obtain⟨w,h,s,x,y,rfl,hw,hh,x8,hs,j3,hR⟩:=h;refine#[_,rfl,hh,ite2 (λc=>?_) (λc=>?_)]
  .have c':=of_decide_eq_true c;refine#[_,rfl,#[hh,x8],_,rfl,.inr #[t8,t8],_,rfl,hw,?_];have e:decide ((x-y/h*s)%w=0)=decide (y%h=0/\(x-y/h*s)%w=0):=by simp[c']
   have g:R (.bl (decide ((x-y/h*s)%w=0))):=by rw[e];exact hR
   exact g
  .have c':=of_decide_eq_false (FH.mpr c);have e:decide (y%h=0/\(x-y/h*s)%w=0)=false:=by simp[c']
   rw[e]at hR;exact hR
abbrev iH(V:Bx):Prop:=V.D 2 "_law_both" kQ Be
def Df(T:V.T "_law_both" kP kQ)(JF:iF V)(Mi:oE V):iH V:=by
  refine Tx.okDW T sc__law_both (λds R h=>?_) (λf cdv A outer s H E J hr=>⟨_,((ag (ai 2 sc__law_both.nd (aI (aw (af (aa 0) ad) (af (aa 1) ad)) (ao JF hr (ac (af (aa 0) ad) (ac (af (aa 1) ad) ae)))))
      (ag (ai 3 sc__law_both.nd (af (aa 0) ad))
      (ag (dh PassesOwn.never (jw (aw (aa 2) (aa 3)) ad) (ag (ai 4 sc__law_both.nd (av (aw (af (aa 0) ad) (aI (aa 3) (af (aa 0) ad))) (af (aa 0) ad)))
        (ag (dh PassesOwn.never (fj (aa 4) (aa 2)) (ag (aJ (bD (ao Mi hr (ac (aa 1) (ac (aa 4) (ac (aa 3) ae))))) (aj (ar (au (ac (aa 2) (ac (aa 3) (ac (aa 4) ae)))))) aE)
          (aj (ai 4 sc__law_both.nd (am (aa 4) (af (aa 0) ad))))))
        (aj (ai 3 sc__law_both.nd (am (aa 3) (af (aa 0) ad)))))))
      (aj (ar bq)))))),λds R h=>?_⟩)
  . obtain⟨_,_,_,_,_,_,rfl,_⟩:=h;rfl
  . obtain⟨w1,h1,s1,w2,h2,s2,rfl,f1,f2,hR⟩:=h;obtain⟨a1,a2,a3,a4,a5,a6⟩:=f1;obtain⟨b1,b2,b3,b4,b5,b6⟩:=f2;obtain⟨g,u,W,Hh,S,A,M1,eW,M⟩:=Bd #[a1,a2,a3,a4,a5,a6] #[b1,b2,b3,b4,b5,b6];have N2:=hR W Hh S A M;have wb:W<=518400:=by
      have:=(jX a1 b1 M1).2.1;have:=bO (a:=w1) (d:=w2) (A:=720) (B:=720) t8 t8;lia
    have mw:=M.w0;have mh:=M.h0;have ms:=M.s0;have Qv:=M.sw;refine#[λx=>x=.int W,#[_,rfl,_,rfl,.inl #[t8,t8],_,rfl,_,rfl,w1,w2,rfl,λG q0 q1 q2 q3=>?_],?_]
    . have eG:=M1.gcd q0 q1 q2 q3;subst eG;have hg:=M1.pos a1;have Mj:=M1.le a1;exact#[#[hg,t8],by rw[<-eW]]
    rintro _ rfl;k_places;refine#[λx=>x=.int h1,#[_,rfl,rfl],?_];rintro _ rfl;k_places;obtain⟨i0,j0,eS,eH⟩:=M.up1;have Pp:1<=j0:=by
      rcases(t8:j0<=0\/1<=j0)with z|z
      . have:=Gb z (show 0<=h1 by lia);lia
      . exact z
    refine#[λm z=>∃(j:Int) (o:Option D),z=[be (.tup [.int w1,.int h1,.int s1]),be (.tup [.int w2,.int h2,.int s2]),be (.int W),be (.int (j*h1)),o]/\1<=j/\j<=j0/\m=(j0-j).toNat,#[_,1,_,by rw[Ip];rfl,t8,Pp,rfl],?_];rintro m z⟨j,o,rfl,D_,Ml,rfl⟩;k_places;have Pq:0<j*h1:=Fl t8 a3;have Pr:j*h1<=Hh:=by
      rw[eH];exact Fp Ml t8
    have Qw:=GO Pr (show 0<=W by lia);refine#[.inl #[t8,t8],ite2 (λc=>?_) (λc=>?_)]
    . have c':=of_decide_eq_true c;have Qx:j*h1<=720:=by
        have:=(bU (w:=W) (h:=j*h1) mw Pq).2;lia
      have Ps:j*h1/h1=j:=FI _ t8;refine#[λx=>∃v:Int,x=.int v/\0<=v/\v<w1/\∃i,v=i*w1+j*s1,#[_,rfl,_,rfl,#[t8,t8],.inl #[t8,t8],_,rfl,a1,_,rfl,bu a1,bv a1,?_],?_]
      . rw[Ps];refine#[-(s1*j/w1),?_];have:=FJ (s1*j) w1;rw[this];have e1:s1*j=j*s1:=Fs _ _;have e2:w1*(s1*j/w1)=s1*j/w1*w1:=Fs _ _;rw[e2,Ga];lia
      rintro _⟨x0,rfl,x1,x2,i1,N3⟩;k_places;refine#[λm z=>∃(x:Int),z=[be (.tup [.int w1,.int h1,.int s1]),be (.tup [.int w2,.int h2,.int s2]),be (.int W),be (.int (j*h1)),be (.int x)]/\0<=x/\(∃i,x=i*w1+j*s1)/\(j=j0->x<=S)/\m=(W-x).toNat,#[_,x0,rfl,x1,#[i1,N3],λej=>?_,rfl],?_]
      . subst ej;obtain⟨k,ek,k0⟩:=Bf a1 x2 x1 ms eS #[i1,N3];have:=Hb k0 (show 0<=w1 by lia);lia
      rintro m z⟨x,rfl,y0,⟨i2,ex⟩,yS,rfl⟩;k_places;refine ite2 (λc=>?_) (λc=>?_)
      . have cW:=of_decide_eq_true c;refine#[w2,h2,s2,x,j*h1,rfl,b1,b3,t8,b5,t8,?_];refine ite2 (λq=>?_) (λq=>?_)
        . have q':=of_decide_eq_true q;obtain⟨i3,k3,e3,e4⟩:=Bc q';obtain⟨z1,z2⟩:=M.high a3 D_ #[i2,ex] #[i3,k3,e3,e4];have Mm:j*h1=Hh:=by lia
          have:=z2 Mm y0 cW;subst this;have:=N2.1 (by rw[<-Mm];lia);rw[<-Mm]at this;exact#[IV,this]
        . have q':=of_decide_eq_false (FH.mpr q);refine#[λd=>d=.int (x+w1),#[_,rfl,rfl],?_];rintro _ rfl;k_places;refine#[_,t8,x+w1,rfl,t8,#[i2+1,J9],λej=>?_,rfl];subst ej;have hx:=yS rfl;have ne:x≠S:=by
            rintro rfl;obtain⟨i4,j4,e5,e6⟩:=M.up2;exact q' (in_fam (i:=i4) (j:=j4) b3 e5 (by rw[<-eH];exact e6))
          have:∃t:Int,S=x+t*w1:=#[i0-i2,by rw[ex];grind];obtain⟨t,et⟩:=this;have t1:1<=t:=by
            rcases(t8:t<=0\/1<=t)with z|z
            . have:=Gb z (show 0<=w1 by lia);lia
            . exact z
          have:=Fp t1 (show 0<=w1 by lia);lia
      . have cW:=of_decide_eq_false (FH.mpr c);have Qy:j<j0:=by
          rcases(t8:j<j0\/j=j0)with z|z
          . exact z
          . have:=yS z;lia
        refine#[λd=>d=.int ((j+1)*h1),#[_,rfl,by congr 1;grind],?_];rintro _ rfl;k_places;exact#[_,t8,j+1,_,rfl,t8,t8,rfl]
    . have c':=of_decide_eq_false (FH.mpr c);exact N2.2 t8
abbrev eN(V:Bx):Prop:=V.D 3 "_law_family" kS gE
def Dg(T:V.T "_law_family" kR kS)(K8:oC V)(JH:iH V):eN V:=by
  refine Tx.okDW T sc__law_family (λds R h=>?_) (λf cdv A outer s H E J hr=>⟨_,((ag (ai 1 sc__law_family.nd (ao K8 hr (ac (af (aa 0) ad) ae)))
      (ag (fo 2 PassesOwn.never rfl sc__law_family.nd (ym (aa 0) ad) (ag (ai 1 sc__law_family.nd (ao JH hr (ac (aa 1) (ac (ao K8 hr (ac (aa 2) ae)) ae))))
        (aj (aJ (fY (aa 1) bq) (aj (ar bq)) aE))))
      (aj (ar (aa 1)))))),λds R h=>?_⟩)
  . obtain⟨_,_,rfl,_⟩:=h;rfl
  . obtain⟨ls,n,rfl,n9,hg,hR⟩:=h;cases ls with
    |nil=>exact absurd rfl n9
    |cons l0 ls=>
    refine#[λx=>∃w h s:Int,x=.tup [.int w,.int h,.int s]/\FamOf l0.o0 l0.o1 l0.t0 l0.t1 w h s/\w*h<=288,#[_,bI (j:=0) rfl,l0,n,rfl,(hg l0 Fd).1,(hg l0 Fd).2,λw h s f q=>#[w,h,s,rfl,f,q]],?_];rintro _⟨w0,h0,s0,rfl,f0,q0⟩;k_places
    try simp only[Ft,Fw]
    have ec:cutD (G1 Leaf.D (l0::ls)) (be 1) m_=ls.map Leaf.D:=by rw[Fi,cut1]
    refine#[λk z=>∃(w h s:Int) (o:Option D),z=[be (.lst ((l0::ls).map Leaf.D)),be (.tup [.int w,.int h,.int s]),o]/\Fam0 w h s/\w*h<=720/\∀x y,InF w h s x y↔bQ (l0::ls.take k) x y,#[w0,h0,s0,_,rfl,#[f0.1,f0.2.1,f0.2.2.1,f0.2.2.2.1],t8,λx y=>?_],?_,?_]
    . rw[f0.lat];constructor
      . intro q l z;rcases E8.mp z with e|e
        . rw[e];exact q
        . cases e
      . intro q;exact q l0 Fd
    . rintro k v z hk⟨w,h,s,o,rfl,fm,N4,lat⟩;k_places;rw[ec,Fg]at hk;have m5:k<ls.length:=by
        rcases Gk k ls.length with q|q
        . exact q
        . rw[FQ q]at hk;cases hk
      have JD:ls[k]?=be ls[k]:=Fo m5;rw[JD]at hk;cases hk;obtain⟨gd,nr⟩:=hg ls[k] (Fc _ (FC m5));have Kk:∀l∈ls.drop (k+1),l.Good/\l.Near n:=λl q=>hg l (Fc _ (Iq q));have z7:∀x y,bQ (l0::ls) x y↔(bQ (l0::ls.take k) x y/\ls[k].Lat x y)/\bQ (ls.drop (k+1)) x y:=λx y=>by
        have ed:ls=ls.take k++ls[k]::ls.drop (k+1):=by rw[<-Gr m5,Ir]
        constructor
        . intro q;refine#[#[λl z=>?_,q _ (Fc _ (FC m5))],λl z=>q l (Fc _ (Iq z))];rcases E8.mp z with e|e
          . exact q l (e ▸ Fd)
          . exact q l (Fc _ (List.mem_of_mem_take e))
        . rintro⟨⟨q1,q2⟩,q3⟩ l z;rcases E8.mp z with e|e
          . exact q1 l (e ▸ Fd)
          . rw[ed]at e;rcases Fy.mp e with e|e
            . exact q1 l (Fc _ e)
            . rcases E8.mp e with e|e
              . rw[e];exact q2
              . exact q3 l e
      have g4:∀x y,bQ (l0::ls.take (k+1)) x y↔bQ (l0::ls.take k) x y/\ls[k].Lat x y:=λx y=>by
        rw[ke JD];constructor
        . intro q;refine#[λl z=>q l ?_,q _ (Fc _ (Fx _ Fd))];rcases E8.mp z with e|e
          . rw[e];exact Fd
          . exact Fc _ (Gd _ e)
        . rintro⟨q1,q2⟩ l z;rcases E8.mp z with e|e
          . exact q1 l (e ▸ Fd)
          . rcases Fy.mp e with e|e
            . exact q1 l (Fc _ e)
            . rw[E6.mp e];exact q2
      generalize ls[k]=l at gd nr z7 g4;obtain⟨p1,p2⟩:=bU fm.w0 fm.h0;refine#[λx=>(∃w h s:Int,x=.tup [.int w,.int h,.int s]/\Fam0 w h s/\w*h<=720/\∀x y,InF w h s x y↔bQ (l0::ls.take (k+1)) x y)\/(x=.non/\R .non),#[l,n,rfl,gd,nr,λw2 h2 s2 f2 b2=>?_],?_]
      . obtain⟨r1,r2⟩:=bU f2.1 f2.2.1;refine#[w,h,s,w2,h2,s2,rfl,#[fm.w0,t8,fm.h0,t8,fm.s0,fm.sw],#[f2.1,t8,f2.2.1,t8,f2.2.2.1,f2.2.2.2.1],λW Hh S A M=>#[λq=>?_,λq=>?_]]
        . refine .inl #[W,Hh,S,rfl,#[M.w0,M.h0,M.s0,M.sw],q,λx y=>?_];rw[M.lat,lat,f2.lat,g4];exact Iff.rfl
        . refine .inr #[rfl,?_];obtain⟨w3,h3,s3,f3,e3⟩:=sY (ls.drop (k+1)) W Hh S #[M.w0,M.h0,M.s0,M.sw] Kk;refine(hR w3 h3 s3 f3 λx y=>?_).2 ?_
          . rw[e3,M.lat,lat,f2.lat,z7];exact Iff.rfl
          . have:=(InF.le M.w0 M.h0 f3.w0 f3.h0 (λx y z=>((e3 x y).mp z).1)).1;lia
      . rintro _ (⟨W,Hh,S,rfl,Pt,q,e'⟩|⟨rfl,hn⟩);k_places
        . try simp only[Ft,Fw]
          exact#[W,Hh,S,_,rfl,Pt,q,e']
        . try simp only[Ft,Fw]
          exact hn
    . rintro z⟨w,h,s,o,rfl,fm,N4,lat⟩;k_places;rw[ec,E9,GS]at lat;exact(hR w h s fm lat).1 N4
abbrev fG(V:Bx):Prop:=V.D 4 "_law_over" kU tm
def Dh(T:V.T "_law_over" kT kU)(Jh:V.m "max")(uW:eN V):fG V:=by
 refine Tx.okDW T sc__law_over (λds R h=>?_) (λf cdv A outer s H E J hr=>⟨_,((ag (ai 2 sc__law_over.nd (am (af (aa 0) ad) (af (aa 1) ad)))
   (ag (aJ (cF (cE (qY (jC rfl Jh (ac (af (aa 0) ad) (ac (af (aa 1) ad) ae))) ad) (dM (fY (ao uW hr (ac (aa 2) ae)) bq)))) (aj (ar (aa 0))) aE)
   (aj (ar (aH (ac (am (am (am (am ax (af (aa 0) ad)) ax) (af (aa 1) ad)) ax) (ac (am ad (jC rfl Jh (ac (af (aa 0) ad) (ac (af (aa 1) ad) ae)))) (ac (aa 2) ae))))))))),λds R h=>?_⟩)
 .obtain⟨_,_,rfl,_⟩:=h;rfl
 .obtain⟨p,q,rfl,wp,wq,dp,dq,N5,Pu⟩:=h;have n1:=Pat.leaves_32 dp;have n2:=Pat.leaves_32 dq;refine#[λx=>x=.lst ((Pat.over p q).leaves.map Leaf.D),#[_,rfl,_,rfl,?_,?_],?_]
  .rw[E9,E9];lia
  .rw[Pat.leaves,FD]
  rintro _ rfl;k_places;refine#[_,rfl,_,rfl,ite2 (λc=>N5) (λc=>?_)];have c':=of_decide_eq_false (FH.mpr c);have ep:p.depth<5/\q.depth<5:=by
   split at c'<;>lia
  refine#[(Pat.over p q).leaves,(Pat.over p q).depth,rfl,?_,λl hl=>Pat.leaf_good (p:=.over p q) #[wp,wq] l hl,λw h s f lat=>#[λsm=>?_,λ_=>N5]]
  .intro z;have:(Pat.over p q).leaves.length=0:=by rw[z];rfl
   rw[Pat.leaves,Fn]at this;have:=Pat.leaves_pos p;lia
  have t1:=Pat.text_short wp dp;have t2:=Pat.text_short wq dq;have l1:("(":t6).length=1:=rfl;have l2:("|":t6).length=1:=rfl;have l3:(")":t6).length=1:=rfl;have L4:(Pat.over p q).Fits:=#[w,h,s,#[f,λx y=>(lat x y).trans (Pat.lat_leaves (.over p q) x y)],sm];refine#[_,rfl,?_,?_,_,rfl,?_,?_,_,rfl,_,rfl,IV,?_]
  .lia
  .rw[aD];lia
  .rw[aD,aD];lia
  .rw[aD,aD,aD];lia
  have g:=Pu ep.1 ep.2 L4;have e:(1+(if(q.depth:Int)>(p.depth:Int)then(q.depth:Int)else(p.depth:Int)))=(((Pat.over p q).depth:Nat):Int):=by
   rw[Pat.depth];split<;>lia
  unfold Pat.D at g;rw[<-e]at g;exact g
abbrev iI(V:Bx):Prop:=V.D 5 "_law_pattern" kX Bi
def Di(T:V.T "_law_pattern" kW kX)(uA:V.m "range")(JA:iD V)(Ji:iE V)(uJ:fF V)(uY:fG V):iI V:=by
  refine Tx.okDW T sc__law_pattern (λds R h=>?_) (λf cdv A outer s H E J hr=>⟨_,((ag (ai 2 sc__law_pattern.nd (ao JA hr (ac (aa 0) (ac (aa 1) (ac ad ae)))))
      (ag (ai 3 sc__law_pattern.nd (ao Ji hr (ac (aa 0) (ac (am (aa 1) ad) ae))))
      (ag (bL 4 PassesOwn.never rfl sc__law_pattern.nd uA (av (af (aa 2) ad) ad) (ag (ai 5 sc__law_pattern.nd (af (aa 2) (am ad (aw ad (aa 4)))))
        (aj (cG (aV (av (aa 5) ad) ad) (aj (ai 3 sc__law_pattern.nd (ao uJ hr (ac (aa 3) (ac (aI (aa 5) ad) ae))))) (ag (ai 6 sc__law_pattern.nd (ao Ji hr (ac (aa 0) (ac (am (am (aa 1) ad) (aw ad (aa 4))) ae))))
         (ag (cG (aV (av (aI (aa 5) ad) ad) ad) (aj (ai 6 sc__law_pattern.nd (ao uJ hr (ac (aa 6) (ac (af (aa 2) (am ad (aw ad (aa 4)))) ae))))) aE)
         (aj (ai 3 sc__law_pattern.nd (af (aH (ac (ao uY hr (ac (aa 3) (ac (aa 6) ae))) (ac (ao uY hr (ac (aa 6) (ac (aa 3) ae))) ae))) (av (aI (aa 5) ad) ad))))))))))
      (aj (ar (aa 3))))))),λds R h=>?_⟩)
  . obtain⟨_,_,rfl,_⟩:=h;rfl
  . obtain⟨ns,k,rfl,hk,hR⟩:=h;refine#[λx=>∃xs:List Int,x=.lst (xs.map D.int)/\xs.length=13/\Drawn xs,#[ns,k,13,rfl,hk,y8,λxs h1 h2=>#[xs,rfl,h1,h2]],?_];rintro _⟨xs,rfl,hl,hd⟩;k_places;refine#[λx=>∃p:Pat,x=p.D/\p.Ok,#[ns,k+2,rfl,t8,λL a b c d h1 h2 h3 h4 h5 h6=>#[.mot L a b c d,rfl,#[h1,h2,h3,h4,h5,h6],by simp[Pat.depth],Pat.fits_mot h2 h3 h4 h5 h6]],?_];rintro _⟨p0,rfl,Pw⟩;k_places;have a0:=cB (xs:=xs) (k:=0) y8 (show 0<xs.length by lia);have h7:=bu (a:=cell xs 0) (show(0:Int)<7 by decide);have h8:=bv (a:=cell xs 0) (show(0:Int)<7 by decide);refine#[_,a0,y8,#[t8,t8],λi z=>∃(p:Pat) (o1 o2 o3:Option D),z=[be (.rol (ns.map D.int)),be (.int k),be (.lst (xs.map D.int)),be p.D,o1,o2,o3]/\p.Ok,#[p0,_,_,_,rfl,Pw],?_,?_]
    . rintro i v z hi⟨p,o1,o2,o3,rfl,ok⟩;k_places;obtain⟨g5,rfl⟩:=bF hi;have a1:=cB (xs:=xs) (k:=1+2*(i:Int)) t8 t8;have a2:=cB (xs:=xs) (k:=2+2*(i:Int)) t8 t8;generalize cell xs (1+2*(i:Int))=st at a1;generalize cell xs (2+2*(i:Int))=sv at a2;refine#[λx=>x=.int st,#[.inr #[t8,t8],_,a1,rfl],?_];rintro _ rfl;k_places;refine#[λz=>∃(p:Pat) (o3:Option D),z=[be (.rol (ns.map D.int)),be (.int k),be (.lst (xs.map D.int)),be p.D,be (.int i),be (.int st),o3]/\p.Ok,#[y8,ite2 (λc=>?_) (λc=>?_)],?_]
      . refine#[λx=>∃p:Pat,x=p.D/\p.Ok,#[#[y8,y8],p,_,rfl,ok.wf,ok.deep,by have:=Pat.text_short ok.wf ok.deep;lia,Wraps.of ok λq hq=>#[q,rfl,hq]],?_];rintro _⟨q,rfl,b7⟩;k_places;exact#[q,_,rfl,b7]
      . refine#[λx=>∃p:Pat,x=p.D/\p.Ok,#[.inr #[t8,t8],ns,k+4+2*(i:Int),rfl,t8,λL a b c d h1 h2 h3 h4 h5 h6=>#[.mot L a b c d,rfl,#[h1,h2,h3,h4,h5,h6],by simp[Pat.depth],Pat.fits_mot h2 h3 h4 h5 h6]],?_];rintro _⟨q,rfl,b7⟩;k_places;refine#[λz=>∃(q:Pat),z=[be (.rol (ns.map D.int)),be (.int k),be (.lst (xs.map D.int)),be p.D,be (.int i),be (.int st),be q.D]/\q.Ok,#[#[y8,y8],y8,ite2 (λc=>?_) (λc=>?_)],?_]
        . refine#[λx=>∃p:Pat,x=p.D/\p.Ok,#[.inr #[t8,t8],_,a2,q,_,rfl,b7.wf,b7.deep,by have:=Pat.text_short b7.wf b7.deep;lia,Wraps.of b7 λq hq=>#[q,rfl,hq]],?_];rintro _⟨q,rfl,b7⟩;k_places;exact#[q,rfl,b7]
        . exact#[q,rfl,b7]
        rintro _⟨q,rfl,b7⟩;k_places;refine#[λx=>∃p:Pat,x=p.D/\p.Ok,?_,?_]
        . have d8:∀r r':Pat,r.Ok->r'.Ok->∃x,atI [r.D,r'.D] (st/4%2)=be x/\∃p:Pat,x=p.D/\p.Ok:=λr r' hr Px=>by
            rcases(t8:st/4%2=0\/st/4%2=1)with e|e<;>rw[e]
            . exact#[_,rfl,r,rfl,hr]
            . exact#[_,rfl,r',rfl,Px]
          have N6:p.depth<5->q.depth<5->(Pat.over p q).Fits->(Pat.over p q).Ok:=λd1 d2 ft=>#[#[ok.wf,b7.wf],by simp only[Pat.depth];lia,ft];have N7:q.depth<5->p.depth<5->(Pat.over q p).Fits->(Pat.over q p).Ok:=λd1 d2 ft=>#[#[b7.wf,ok.wf],by simp only[Pat.depth];lia,ft];refine#[p,q,rfl,ok.wf,b7.wf,ok.deep,b7.deep,?_,λd1 d2 ft=>?_]<;>refine#[q,p,rfl,b7.wf,ok.wf,b7.deep,ok.deep,?_,λd3 d4 N8=>?_]<;>refine#[IV,#[y8,y8],y8,?_]
          . exact d8 _ _ ok b7
          . exact d8 _ _ ok (N7 d3 d4 N8)
          . exact d8 _ _ (N6 d1 d2 ft) b7
          . exact d8 _ _ (N6 d1 d2 ft) (N7 d3 d4 N8)
        rintro _⟨q',rfl,Mo⟩;k_places;exact#[q',_,rfl,Mo]
      rintro _⟨q,o3,rfl,b7⟩;k_places;exact#[q,_,_,_,rfl,b7]
    . rintro z⟨p,o1,o2,o3,rfl,ok⟩;k_places;exact hR p ok
def Dj:SpD:=λds R=>∃(p:Pat) (d:Int),ds=[p.D,.int d]/\p.Ok/\∀q:Pat,q.Ok->R q.D
abbrev oF(V:Bx):Prop:=V.D 5 "_law_veiled" kZ Dj
def Dk(T:V.T "_law_veiled" kY kZ)(uY:fG V)(uV:eM V):oF V:=by
 refine Tx.okDW T sc__law_veiled (λds R h=>?_) (λf cdv A outer s H E J hr=>⟨_,((ag (aJ (bK (av (aa 1) ad) ad) (aj (ar (aa 0))) aE)
   (ag (ai 2 sc__law_veiled.nd (au (ac (am ad (av (aI (aa 1) ad) ad)) (ac ad ae))))
   (ag (ai 3 sc__law_veiled.nd (au (ac (bn (av (aI (aa 1) ad) ad) ad) (ac (am ad (av (aI (aa 1) ad) ad)) ae))))
   (ag (ai 4 sc__law_veiled.nd (au (ac (aH (ac ax ae)) (ac (aa 2) (ac (aa 3) (ac (au (ac ad (ac ad (ac ad (ac ad (ac ad (ac ad ae))))))) (ac (aH (ac ad (ac ad (ac ad (ac ad (ac ad (ac ad (ac ad ae)))))))) ae)))))))
   (aj (ar (ao uY hr (ac (aa 0) (ac (aH (ac (ao uV hr (ac (aH (ac ax ae)) (ac (aa 2) (ac (aa 3) ae)))) (ac ad (ac (aH (ac (aa 4) ae)) ae)))) ae)))))))))),λds R h=>?_⟩)
 .obtain⟨_,_,rfl,_⟩:=h;rfl
 .obtain⟨p,d,rfl,ok,hR⟩:=h;refine#[y8,ite2 (λ_=>hR p ok) λ_=>?_];obtain⟨a,ha,a6⟩:∃a:Int,1+d/3%6=a/\1<=a/\a<=6:=#[_,rfl,IU,IU];obtain⟨c,hc,c6⟩:∃c:Int,d/108%13-6=c/\-6<=c/\c<=6:=#[_,rfl,IU,IU];obtain⟨b,hb,b6⟩:∃b:Int,1+d/18%6=b/\1<=b/\b<=6:=#[_,rfl,IU,IU];refine#[λx=>x=.tup [.int a,.int 0],#[#[y8,y8],y8,J2,by rw[<-ha]],?_];rintro _ rfl;k_places;refine#[λx=>x=.tup [.int c,.int b],#[#[y8,y8],y8,#[y8,y8],y8,J2,by rw[<-hc,<-hb]],?_];rintro _ rfl;k_places;refine#[λx=>x=(bg ["."] a 0 c b).D,#[KK,by show(6:Nat)<=1000;decide,by show(7:Nat)<=1000;decide,by show(5:Nat)<=1000;decide,rfl],?_];rintro _ rfl;k_places;have hL:Rows ["."]:=row_one (n:=1) rfl y8 IA;have ab:0<a*b:=Fl IU IU;have b7:=oz (L:=["."]) (a:=a) (b:=0) (c:=c) (d:=b) hL #[IU,IU] #[y8,y8] #[IU,IU] #[IU,IU] (by rw[GB];omega);exact#[KK,["."],a,0,c,b,rfl,hL,b7.wf.2.1,b7.wf.2.2.1,b7.wf.2.2.2.1,b7.wf.2.2.2.2.1,KK,by show(3:Nat)<=1000;decide,oy (q:=.mot ["."] a 0 c b) ok b7 hR]
def Dl:SpD:=λds R=>∃(p:Pat) (k:Int),ds=[p.D,.int k]/\p.Ok/\(k=0\/k=1)/\∀q:Pat,q.Ok->R q.D
abbrev oG(V:Bx):Prop:=V.D 4 "_law_shifted_home" lh Dl
def Dm(T:V.T "_law_shifted_home" lf lh)(uW:eN V)(uJ:fF V):oG V:=by
 refine Tx.okDW T sc__law_shifted_home (λds R h=>?_) (λf cdv A outer s H E J hr=>⟨_,((ag (ai 2 sc__law_shifted_home.nd (ao uW hr (ac (af (aa 0) ad) ae)))
   (ag (jB rfl (af (aH (ac (au (ac (af (aa 2) ad) (ac ad ae))) (ac (au (ac (af (aa 2) ad) (ac (af (aa 2) ad) ae))) ae))) (aa 1)) (dg_cons 3 sc__law_shifted_home.nd (dg_cons 4 sc__law_shifted_home.nd cy)))
   (ag (aJ (cF (cE (fk (aa 3) ad) (dM (fk (aa 4) ad)))) (aj (ar (aa 0))) aE)
   (aj (ar (ao uJ hr (ac (aa 0) (ac (am (am ad (aw ad (am (aa 3) ad))) (aw ad (am (aa 4) ad))) ae))))))))),λds R h=>?_⟩)
 .obtain⟨_,_,rfl,_⟩:=h;rfl
 .obtain⟨p,k,rfl,ok,hk,hR⟩:=h;refine#[FamD p,#[_,rfl,ub ok],?_];rintro _⟨w,h,s,rfl,F,wh,w7,h7⟩;k_places;have Mp:∃a b:Int,atI [D.tup [.int w,.int 0],.tup [.int s,.int h]] k=be (.tup [.int a,.int b]):=by
   rcases hk with rfl|rfl
   .exact#[_,_,rfl]
   .exact#[_,_,rfl]
  obtain⟨a,b,e⟩:=Mp;refine#[_,rfl,J2,_,rfl,_,rfl,J2,J2,_,e,rfl,ite2 (λ_=>hR p ok) λ_=>ite2 (λ_=>hR p ok) λ_=>?_];exact#[.inl #[y8,y8],.inl #[y8,y8],p,_,rfl,ok.wf,ok.deep,by have:=Pat.text_short ok.wf ok.deep;omega,Wraps.of ok hR]
def Dn:SpD:=λds R=>∃(p:Pat) (n:Int) (c:Nat),ds=[p.D,.int n,.str #[[c].toArray]]/\p.Ok/\aQ c/\∀q:Pat,q.Ok->R q.D
abbrev oH(V:Bx):Prop:=V.D 1 "_law_respelled" lp Dn
def Do(T:V.T "_law_respelled" lm lp)(uB:V.m "len")(JB:V.m "list"):oH V:=by
 refine Tx.okDW T sc__law_respelled (λds R h=>?_) (λf cdv A outer s H E J hr=>⟨_,((ag (ai 3 sc__law_respelled.nd (af (af (aa 0) ad) ad))
   (ag (ai 4 sc__law_respelled.nd (ck uB (ac (af (af (aa 3) ad) ad) ae)))
   (ag (ai 5 sc__law_respelled.nd (aI (av (aa 1) (aw (aa 4) (ck uB (ac (af (aa 3) ad) ae)))) (aa 4)))
   (ag (ai 6 sc__law_respelled.nd (av (aa 1) (aa 4)))
   (ag (An 7 JB sc__law_respelled.nd (ac (af (aa 3) ad) ae))
   (ag (yD 7 (am (am (cq (gj 7 (aa 5)) cm (cn (aa 6))) (aa 2)) (cq (gj 7 (aa 5)) (cn (am (aa 6) ad)) cm)) (aa 5))
   (ag (ai 8 sc__law_respelled.nd (am (am (am (rS (af (aa 0) ad) (ac ax ae)) ad) (aw (aa 5) (am (aa 4) ad))) (aa 6)))
   (ag (ai 9 sc__law_respelled.nd (am (am (cq (af (aa 0) ad) cm (cn (aa 8))) (aa 2)) (cq (af (aa 0) ad) (cn (am (aa 8) ad)) cm)))
   (df 7 (aj (ar (aH (ac (aa 9) (ac (af (aa 0) ad) (ac (am (aH (ac (au (ac (aa 7) (ac (af (aa 3) ad) (ac (af (aa 3) ad) (ac (af (aa 3) ad) (ac (af (aa 3) ad) ae)))))) ae)) (cq (af (aa 0) ad) (cn ad) cm)) ae)))))))))))))))),λds R h=>?_⟩)
 .obtain⟨_,_,_,rfl,_⟩:=h;rfl
 .obtain⟨p,n,c,rfl,ok,hc,hR⟩:=h;obtain⟨A,B,l,ls,r⟩:=Pat.re_ex ok.wf;obtain⟨m,w,w8,hr⟩:=r.rows;have hw:∀s∈l.rows,s.length=w:=λs hs=>(hr s hs).1;have Py:=Pat.text_short ok.wf ok.deep;have N9:=cf p;rw[r.tl]at N9;obtain⟨i0,rest,eo,ei⟩:=CU N9 r.no;have wm:0<w*l.rows.length:=Nat.mul_pos IU IU;obtain⟨j,hj,jm⟩:∃j:Nat,n%((w:Int)*l.rows.length)/w=j/\j<l.rows.length:=by
   have h0:=FF n (show((w*l.rows.length:Nat):Int)≠0 by omega);have h1:=FG n (show 0<((w*l.rows.length:Nat):Int)by omega);rw[Hd]at h0 h1;have q0:=Iu h0 (show 0<=(w:Int)by omega);have q1:=Int.ediv_lt_of_lt_mul (show 0<(w:Int)by omega) (show n%((w:Int)*l.rows.length)<(l.rows.length:Int)*w by rw[Fs (l.rows.length:Int)];exact h1);exact#[(n%((w:Int)*l.rows.length)/w).toNat,IU,IU]
  obtain⟨i,hi,iw⟩:∃i:Nat,n%(w:Int)=i/\i<w:=by
   have h0:=FF n (show(w:Int)≠0 by omega);have h1:=FG n (show 0<(w:Int)by omega);exact#[(n%(w:Int)).toNat,IU,IU]
  have Pz:atI (p.leaves.map Leaf.D) 0=be l.D:=bI (j:=0) (by rw[r.leaves];rfl);have Mq:atI (l.rows.map D.str) 0=be (.str (l.rows[0]' IU)):=bI (j:=0) (by rw[Fg,Fo (show 0<l.rows.length by omega)];rfl);have Kl:atI (l.rows.map D.str) (j:Int)=be (.str l.rows[j]):=bI (by rw[Fg,Fo jm];rfl);have Mr:=hw (l.rows[0]' IU) (FC _);have PB:=hw l.rows[j] (FC jm);refine#[λd=>d=l.D,#[_,rfl,_,Pz,rfl],?_];rintro _ rfl;k_places;refine#[λd=>d=.int (w:Int),#[_,rfl,_,Mq,IU,by rw[Mr]],?_];rintro _ rfl;k_places;refine#[λd=>d=.int (j:Int),#[_,rfl,.inl #[IU,IU],?_,#[IU,IU],?_],?_]
  .rw[E9,<-Hd];omega
  .rw[E9,hj]
  rintro _ rfl;k_places;refine#[λd=>d=.int (i:Int),#[IU,by rw[hi]],?_];rintro _ rfl;k_places;show dSeq _ _ _ [_,_,_,_,_,_,_,_,_,_];refine#[_,rfl,?_];have s1:=Txt.slice_le l.rows[j] m_ (be (i:Int));have s2:=Txt.slice_le l.rows[j] (be ((i:Int)+1)) m_;have c1:(#[[c].toArray]:t6).length=1:=rfl;have hs:=uh (c:=c) (show i<l.rows[j].length by omega);generalize IB:((Txt.slice l.rows[j] m_ (be (i:Int))++#[[c].toArray])++Txt.slice l.rows[j] (be ((i:Int)+1)) m_:t6)=s' at hs;obtain⟨q,b7,dq,lq,sp,tq⟩:=r.put ok hw jm iw hc hs;refine#[_,Kl,IU,IU,_,Kl,IU,by rw[aD];omega,j,?_,?_]
  .rw[E9];unfold ixN;rw[if_pos IU,if_pos IU,GF]
  rw[IB,<-Io];have PC:(i0:Int)=A.length:=IU
  refine#[λd=>d=.int ((A.length+1+j*(w+1)+i:Nat):Int),#[_,rfl,i0,rest,eo,.inl #[IU,IU],?_],?_]
  .show D.int _=D.int _;rw[PC];simp
  rintro _ rfl;k_places;have t1:=Txt.slice_le p.text m_ (be ((A.length+1+j*(w+1)+i:Nat):Int));have t2:=Txt.slice_le p.text (be (((A.length+1+j*(w+1)+i:Nat):Int)+1)) m_;refine#[λd=>d=.str q.text,#[_,rfl,IU,IU,_,rfl,IU,by rw[aD];omega,?_],?_]
  .show D.str _=D.str _;rw[tq _ (uh sp)]
  rintro _ rfl;k_places;have Qz:=Pat.leaves_32 ok.deep;have ec:cutD (p.leaves.map Leaf.D) (be 1) m_=ls.map Leaf.D:=by rw[r.leaves,Fi,cut1]
  refine#[_,rfl,_,rfl,_,rfl,_,rfl,_,rfl,by show(5:Nat)<=1000;decide,KK,_,rfl,?_,by show(3:Nat)<=1000;decide,?_]
  .have:=congrArg Gu r.leaves;rw[Fe]at this;show 1+(cutD (p.leaves.map Leaf.D) (be 1) m_).length<=1000000;rw[ec,E9];omega
  have e:=hR q b7;unfold Pat.D at e;rw[dq,lq,Fi,<-ec]at e;exact e
def Dp:SpD:=λds R=>∃(p:Pat) (ns:List Int) (k d:Int),ds=[p.D,.rol (ns.map D.int),.int k,.int d]/\p.Ok/\0<=k/\∀q:Pat,q.Ok->R q.D
abbrev oI(V:Bx):Prop:=V.D 6 "_law_twin" lu Dp
def Dq(T:V.T "_law_twin" lr lu)(uJ:fF V)(uY:fG V)(Ms:oG V)(Ji:iE V)(Mt:oH V)(JI:iI V):oI V:=by
 refine Tx.okDW T sc__law_twin (λds R h=>?_) (λf cdv A outer s H E J hr=>⟨_,((ag (ai 4 sc__law_twin.nd (av (aa 3) ad))
   (ag (ai 3 sc__law_twin.nd (aI (aa 3) ad))
   (ag (aJ (cF (jy (aV (aa 4) ad) (jx (jw (af (aa 0) ad) ad)))) (aj (ar (ao uJ hr (ac (ao uJ hr (ac (aa 0) (ac ad ae))) (ac ad ae))))) aE)
   (ag (aJ (cF (jy (aV (aa 4) ad) (jx (jw (af (aa 0) ad) ad)))) (aj (ar (ao uJ hr (ac (ao uJ hr (ac (ao uJ hr (ac (ao uJ hr (ac (aa 0) (ac ad ae))) (ac ad ae))) (ac ad ae))) (ac ad ae))))) aE)
   (ag (aJ (aV (aa 4) ad) (aj (ar (ao uY hr (ac (aa 0) (ac (aa 0) ae))))) aE)
   (ag (aJ (aV (aa 4) ad) (aj (ar (ao Ms hr (ac (aa 0) (ac (av (aa 3) ad) ae))))) aE)
   (ag (aJ (aV (aa 4) ad) (aj (ar (ao uJ hr (ac (aa 0) (ac (am ad (aw ad (av (aa 3) ad))) ae))))) aE)
   (ag (aJ (aV (aa 4) ad) (aj (ar (ao uY hr (ac (aa 0) (ac (ao Ji hr (ac (aa 1) (ac (aa 2) ae))) ae))))) aE)
   (ag (aJ (aV (aa 4) ad) (aj (ar (ao Mt hr (ac (aa 0) (ac (aI (aa 3) ad) (ac (af ax (av (aa 3) ad)) ae)))))) aE)
   (ag (aJ (aV (aa 4) ad) (aj (ar (ao JI hr (ac (aa 1) (ac (aa 2) ae))))) aE)
   (aj (ar (aa 0)))))))))))))),λds R h=>?_⟩)
 .obtain⟨_,_,_,_,rfl,_⟩:=h;rfl
 .obtain⟨p,ns,k,d,rfl,ok,k0,hR⟩:=h;have wr:∀{q:Pat},q.Ok->q.text.length<=100000:=λ{q} h=>by have:=Pat.text_short h.wf h.deep;omega
  refine#[λx=>x=.int (d%9),#[y8,rfl],?_];rintro _ rfl;k_places;refine#[λx=>x=.int (d/9),#[#[y8,y8],rfl],?_];rintro _ rfl;k_places;show dSeq _ _ _ [_,_,_,_,_];refine(λhr=>ite2 (λ_=>#[_,rfl,ite2 (λ_=>#[p,0,rfl,ok.wf,ok.deep,wr ok,Wraps.of ok λq k=>#[q,0,rfl,k.wf,k.deep,wr k,Wraps.of k hR]]) (λ_=>hr)]) (λ_=>hr)) ?_;refine ite2 (λz=>nomatch z) λ_=>?_;refine(λhr=>ite2 (λ_=>#[_,rfl,ite2 (λ_=>#[p,1,rfl,ok.wf,ok.deep,wr ok,Wraps.of ok λq k=>#[q,1,rfl,k.wf,k.deep,wr k,Wraps.of k λq k=>#[q,1,rfl,k.wf,k.deep,wr k,Wraps.of k λq k=>#[q,1,rfl,k.wf,k.deep,wr k,Wraps.of k hR]]]]) (λ_=>hr)]) (λ_=>hr)) ?_;refine ite2 (λz=>nomatch z) λ_=>?_;refine ite2 (λ_=>oy ok ok hR) λ_=>?_;refine ite2 (λ_=>#[y8,p,_,rfl,ok,IU,hR]) λ_=>?_;refine ite2 (λ_=>#[y8,.inl #[y8,y8],p,_,rfl,ok.wf,ok.deep,wr ok,Wraps.of ok hR]) λ_=>?_;refine ite2 (λ_=>#[ns,k,rfl,k0,λL a b c d h1 h2 h3 h4 h5 h6=>oy (q:=.mot L a b c d) ok #[#[h1,h2,h3,h4,h5,h6],by simp[Pat.depth],Pat.fits_mot h2 h3 h4 h5 h6] hR]) λ_=>?_;refine ite2 (λ_=>?_) λ_=>?_
  .obtain⟨c,hc,KP⟩:=CY (d/9);exact#[#[y8,y8],y8,c,#[y8,hc],p,_,c,rfl,ok,KP,hR]
  refine ite2 (λ_=>#[ns,k,rfl,k0,hR]) λ_=>hR p ok
def Dr:SpD:=λds R=>∃d:Int,ds=[.int d]/\∀p q:Pat,p.Ok->q.Ok->R (.lst [p.D,q.D])
abbrev oJ(V:Bx):Prop:=V.D 2 "_law_bricks" ly Dr
def Ds(T:V.T "_law_bricks" lv ly)(uV:eM V):oJ V:=by
 refine Tx.okDW T sc__law_bricks (λds R h=>?_) (λf cdv A outer s H E J hr=>⟨_,((ag (ai 1 sc__law_bricks.nd (am ad (av (aa 0) ad)))
   (ag (ai 2 sc__law_bricks.nd (cq ax cm (cn (aa 1))))
   (ag (dO 3 sc__law_bricks.nd ae)
   (ag (fo 4 PassesOwn.never rfl sc__law_bricks.nd (aH (ac (av (aI (aa 0) ad) (aa 1)) (ac (av (aI (aa 0) ad) (aa 1)) ae))) (ag (ai 5 sc__law_bricks.nd (au (ac (aH (ac (aa 2) ae)) (ac (au (ac (aa 1) (ac ad ae))) (ac (au (ac (aa 4) (ac ad ae))) (ac (au (ac ad (ac ad (ac ad (ac ad (ac ad (ac ad ae))))))) (ac (aH (ac ad (ac ad (ac ad (ac ad (ac ad (ac ad (ac ad ae)))))))) ae)))))))
    (aj (dg 3 (aH (ac (ao uV hr (ac (aH (ac (aa 2) ae)) (ac (au (ac (aa 1) (ac ad ae))) (ac (au (ac (aa 4) (ac ad ae))) ae)))) (ac ad (ac (aH (ac (aa 5) ae)) ae))))))))
   (df 3 (aj (ar (aa 3))))))))),λds R h=>?_⟩)
 .obtain⟨_,rfl,_⟩:=h;rfl
 .obtain⟨d,rfl,hR⟩:=h;obtain⟨w,hw,w6⟩:∃w:Int,2+d%5=w/\2<=w/\w<=6:=#[_,rfl,IU,IU];have hL:=C0 w6;generalize hl:Txt.slice "1.2345" m_ (be w)=ln at hL;refine#[λx=>x=.int w,#[y8,congrArg D.int hw],?_];rintro _ rfl;k_places;refine#[λx=>x=.str ln,#[y8,by rw[hl]],?_];rintro _ rfl;k_places;refine#[y8,#[y8,y8],IU,#[y8,y8],IU,J2,λk z=>∃(ps:List Pat) (o4 o5:Option D),z=[be (.int d),be (.int w),be (.str ln),be (.own (ps.map Pat.D)),o4,o5]/\ps.length=k/\∀p∈ps,p.Ok,#[[],_,_,rfl,rfl,λp hp=>absurd hp F4],?_,?_]
  .rintro k v z hk⟨ps,o4,o5,rfl,pl,pk⟩;k_places;have k_:k<2:=(Fj.mp hk).1;obtain⟨u,rfl,u0,u6⟩:∃u:Int,v=.int u/\0<=u/\u<=5:=by
    have m0:=bu (a:=d/5) (show 0<w by omega);have m1:=bv (a:=d/5) (show 0<w by omega);have n0:=bu (a:=d/30) (show 0<w by omega);have n1:=bv (a:=d/30) (show 0<w by omega);rcases(IU:k=0\/k=1)with rfl|rfl<;>cases hk
    .exact#[_,rfl,m0,IU]
    .exact#[_,rfl,n0,IU]
   have ok:=oz (L:=[ln]) (a:=w) (b:=0) (c:=u) (d:=1) hL #[IU,IU] #[y8,y8] #[IU,IU] #[y8,y8] IU;refine#[λx=>x=(bg [ln] w 0 u 1).D,#[KK,J2,J2,by show(6:Nat)<=1000;decide,by show(7:Nat)<=1000;decide,by show(5:Nat)<=1000;decide,rfl],?_];rintro _ rfl;k_places;refine#[KK,J2,J2,[ln],w,0,u,1,rfl,hL,ok.wf.2.1,ok.wf.2.2.1,ok.wf.2.2.2.1,ok.wf.2.2.2.2.1,KK,by show(3:Nat)<=1000;decide,by rw[E9];omega,?_];refine#[ps++[Pat.mot [ln] w 0 u 1],be (.int u),be (bg [ln] w 0 u 1).D,?_,by rw[Fn,pl];rfl,λp hp=>?_]
   .rw[FD];rfl
   .rcases Fy.mp hp with q|q
    .exact pk p q
    .rw[E6.mp q];exact ok
  .rintro z⟨ps,o4,o5,rfl,pl,pk⟩;k_places;obtain⟨p,q,rfl⟩:∃p q,ps=[p,q]:=by
    match ps,pl with
    |[p,q],_=>exact#[p,q,rfl]
   exact hR p q (pk p IV) (pk q IV)
def Dt:SpD:=λds R=>∃d:Int,ds=[.int d]/\∀p q:Pat,p.Ok->q.Ok->R (.lst [p.D,q.D])
abbrev oK(V:Bx):Prop:=V.D 2 "_law_bound_pair" lC Dt
def Du(T:V.T "_law_bound_pair" lz lC)(uI:V.m "str")(uV:eM V):oK V:=by
 refine Tx.okDW T sc__law_bound_pair (λds R h=>?_) (λf cdv A outer s H E J hr=>⟨_,((ag (ai 1 sc__law_bound_pair.nd (af (aH (ac (au (ac (au (ac ad (ac ad ae))) (ac (au (ac ad (ac ad ae))) ae))) (ac (au (ac (au (ac ad (ac ad ae))) (ac (au (ac (bY ad) (ac ad ae))) ae))) (ac (au (ac (au (ac ad (ac ad ae))) (ac (au (ac ad (ac ad ae))) ae))) (ac (au (ac (au (ac ad (ac ad ae))) (ac (au (ac ad (ac ad ae))) ae))) ae))))) (av (aa 0) ad)))
   (ag (ai 2 sc__law_bound_pair.nd (af (aH (ac (au (ac (au (ac ad (ac ad ae))) (ac (au (ac ad (ac ad ae))) ae))) (ac (au (ac (au (ac ad (ac ad ae))) (ac (au (ac ad (ac ad ae))) ae))) (ac (au (ac (au (ac ad (ac ad ae))) (ac (au (ac (bY ad) (ac ad ae))) ae))) (ac (au (ac (au (ac ad (ac ad ae))) (ac (au (ac ad (ac ad ae))) ae))) ae))))) (av (aa 0) ad)))
   (ag (ai 3 sc__law_bound_pair.nd (au (ac ad (ac ad (ac ad (ac ad (ac ad (ac ad ae))))))))
   (ag (dO 4 sc__law_bound_pair.nd ae)
   (ag (Ap PassesOwn.never rfl (aH (ac (au (ac (cz uI (ac (am ad (av (aI (aa 0) ad) ad)) ae)) (ac (aa 1) ae))) (ac (au (ac (cz uI (ac (am ad (av (aI (aa 0) ad) ad)) ae)) (ac (aa 2) ae))) ae))) (dg_cons 5 sc__law_bound_pair.nd (dg_cons 6 sc__law_bound_pair.nd cy)) (ag (ai 7 sc__law_bound_pair.nd (au (ac (aH (ac (aa 5) ae)) (ac (af (aa 6) ad) (ac (af (aa 6) ad) (ac (aa 3) (ac (aH (ac ad (ac ad (ac ad (ac ad (ac ad (ac ad (ac ad ae)))))))) ae)))))))
    (aj (dg 4 (aH (ac (ao uV hr (ac (aH (ac (aa 5) ae)) (ac (af (aa 6) ad) (ac (af (aa 6) ad) ae)))) (ac ad (ac (aH (ac (aa 7) ae)) ae))))))))
   (aj (ar (aH (ac (gj 4 (av (aI (aa 0) ad) ad)) (ac (gj 4 (bn ad (av (aI (aa 0) ad) ad))) ae))))))))))),λds R h=>?_⟩)
 .obtain⟨_,rfl,_⟩:=h;rfl
 .obtain⟨d,rfl,hR⟩:=h;obtain⟨a1,b1,c1,d1,e1,w1⟩:=bp1 d;obtain⟨a2,b2,c2,d2,e2,w2⟩:=bp2 d;have r1:=uk (v:=1+d/4%6) IU;have r2:=uk (v:=1+d/24%6) IU;generalize k6:((toString (1+d/4%6):String):t6)=s1 at r1;generalize j3:((toString (1+d/24%6):String):t6)=s2 at r2;refine#[λx=>x=wayD a1 b1 c1 d1,?_,?_]
  .iterate 13 (refine#[y8,?_])
   exact#[y8,_,e1,rfl]
  rintro _ rfl;k_places;refine#[λx=>x=wayD a2 b2 c2 d2,?_,?_]
  .iterate 13 (refine#[y8,?_])
   exact#[y8,_,e2,rfl]
  rintro _ rfl;k_places;refine#[λx=>x=.tup [.int 1,.int 0,.int 0,.int 1,.int 0,.int 0],#[by show(6:Nat)<=1000;decide,rfl],?_];rintro _ rfl;k_places;show dSeq _ _ _ [_,_,_,_,_,_,_,_];refine#[y8,#[y8,y8],y8,IU,?_];rw[k6];refine#[J2,#[y8,y8],y8,IU,?_];rw[j3];refine#[J2,J2,λk z=>∃(ps:List Pat) (o5 o6 o7:Option D),z=[be (.int d),be (wayD a1 b1 c1 d1),be (wayD a2 b2 c2 d2),be (.tup [.int 1,.int 0,.int 0,.int 1,.int 0,.int 0]),be (.own (ps.map Pat.D)),o5,o6,o7]/\ps.length=k/\∀p∈ps,p.Ok,#[[],_,_,_,rfl,rfl,λp hp=>absurd hp F4],?_,?_]
  .rintro k v z hk⟨ps,o5,o6,o7,rfl,pl,pk⟩;k_places;have k_:k<2:=(Fj.mp hk).1;obtain⟨s,a,b,c,d',rfl,row,w4⟩:∃(s:t6) (a b c d:Int),v=.tup [.str s,wayD a b c d]/\Rows [s]/\Way4 a b c d:=by
    rcases(IU:k=0\/k=1)with rfl|rfl<;>cases hk
    .exact#[_,_,_,_,_,rfl,r1,w1]
    .exact#[_,_,_,_,_,rfl,r2,w2]
   have ok:=oz (L:=[s]) row w4.1 w4.2.1 w4.2.2.1 w4.2.2.2.1 w4.2.2.2.2;refine#[_,rfl,rfl,λx=>x=(bg [s] a b c d').D,#[KK,_,rfl,_,rfl,by show(7:Nat)<=1000;decide,by show(5:Nat)<=1000;decide,rfl],?_];rintro _ rfl;k_places;refine#[KK,_,rfl,_,rfl,[s],a,b,c,d',rfl,row,w4.1,w4.2.1,w4.2.2.1,w4.2.2.2.1,KK,by show(3:Nat)<=1000;decide,by rw[E9];omega,?_];refine#[ps++[Pat.mot [s] a b c d'],be (.str s),be (wayD a b c d'),be (bg [s] a b c d').D,?_,by rw[Fn,pl];rfl,λp hp=>?_]
   .rw[FD];rfl
   .rcases Fy.mp hp with q|q
    .exact pk p q
    .rw[E6.mp q];exact ok
  .rintro z⟨ps,o5,o6,o7,rfl,pl,pk⟩;k_places;obtain⟨p,q,rfl⟩:∃p q,ps=[p,q]:=by
    match ps,pl with
    |[p,q],_=>exact#[p,q,rfl]
   have d5:=pk p IV;have b7:=pk q IV;rcases(IU:d/144%2=0\/d/144%2=1)with e|e
   .refine#[#[y8,y8],y8,?_];rw[e];refine#[_,rfl,#[y8,y8],y8,?_];rw[e];exact#[_,rfl,J2,hR p q d5 b7]
   .refine#[#[y8,y8],y8,?_];rw[e];refine#[_,rfl,#[y8,y8],y8,?_];rw[e];exact#[_,rfl,J2,hR q p b7 d5]
abbrev oM(V:Bx):Prop:=V.D 1 "_law_keeps" lF Ck
def Dv(T:V.T "_law_keeps" lD lF)(uA:V.m "range"):oM V:=by
 refine Tx.okDW T sc__law_keeps (λds R h=>?_) (λf cdv A outer s H E J hr=>⟨_,((ag (bL 4 PassesOwn.never rfl sc__law_keeps.nd uA (af (aa 1) ad) (ag (ai 5 sc__law_keeps.nd (af (aa 0) (av (am (aa 4) (aa 3)) (af (aa 1) ad))))
    (ag (ai 6 sc__law_keeps.nd (av (bn (aa 2) (aw (aI (am (aa 4) (aa 3)) (af (aa 1) ad)) (af (aa 1) ad))) (af (aa 1) ad)))
    (aj (aJ (bK (am (cq (aa 5) (cn (aa 6)) cm) (cq (aa 5) cm (cn (aa 6)))) (af (aa 0) (aa 4))) (aj (ar cL)) aE)))))
   (aj (ar cL)))),λds R h=>?_⟩)
 .obtain⟨_,_,_,_,_,_,rfl,_⟩:=h;rfl
 .obtain⟨p,w,h,s,x,y,rfl,ok,F,w7,h7,hR⟩:=h;have f:=F.f;have u_:∀k:Int,0<=k->k<h->atI ((E7 h.toNat).map λ(y:Nat)=>D.str (aB p 0 (y:Int) w.toNat)) k=be (.str (aB p 0 k w.toNat)):=λk a b=>by
   have e:k=((k.toNat:Nat):Int):=t8
   rw[e];exact bI (by rw[Fg,FS t8];simp)
  refine#[_,rfl,#[by have:=f.h0;lia,t8],λk z=>∃o1 o2 o3,z=[be (aX p w h),be (.tup [.int w,.int h,.int s]),be (.int x),be (.int y),o1,o2,o3]/\∀j:Nat,j<k->aB p x (y+j) w.toNat=aB p 0 j w.toNat,#[_,_,_,rfl,λj hj=>absurd hj (F8 j)],?_,?_]
  .rintro k v z hk⟨o1,o2,o3,rfl,hj⟩;k_places;obtain⟨k_,rfl⟩:=bF hk;have m0:=FF (y+(k:Int)) (show h≠0 by have:=f.h0;lia);have m1:=FG (y+(k:Int)) f.h0;refine#[λd=>d=.str (aB p 0 ((y+k)%h) w.toNat),#[_,rfl,f.h0,_,by rw[G0];exact u_ _ m0 m1,rfl],?_];rintro _ rfl;k_places;refine#[λd=>d=.int (hmX w h s x (y+k)),#[_,rfl,#[f.h0,t8],_,rfl,.inr #[by have:=f.s0;lia,by have:=f.sw;lia],_,rfl,f.w0,by rw[G0 (k:Int) y];rfl],?_];rintro _ rfl;k_places;have l:=tP p 0 ((y+k)%h) w.toNat;have e:=tY f.w0 f.h0 (λ_ _ q=>F.keeps q) x (y+k);refine#[t8,t8,?_,?_]
   .rw[<-bj,<-bj,<-Fn,<-bw,e,cS];simp;lia
   rw[e];refine#[_,u_ k t8 t8,ite2 (λc=>?_) (λc=>?_)]
   .refine hR false ?_;have c':¬aB p x (y+k) w.toNat=aB p 0 k w.toNat:=λz=>by simp[z]at c
    rw[<-gK ok F];exact#[(λz=>nomatch z),λz=>absurd (z k t8) c']
   .have c':aB p x (y+k) w.toNat=aB p 0 k w.toNat:=by simpa using c
    refine#[_,_,_,rfl,λj Ml=>?_];by_cases e:j=k
    .subst e;exact c'
    .exact hj j t8
  .rintro z⟨o1,o2,o3,rfl,hj⟩;k_places;rw[bx]at hj;exact hR true #[λ_=>(gK ok F x y).mp hj,λ_=>rfl]
abbrev oN(V:Bx):Prop:=V.D 2 "_law_least" lH Cl
def Dw(T:V.T "_law_least" lG lH)(K9:oM V):oN V:=by
  refine Tx.okDW T sc__law_least (λds R h=>?_) (λf cdv A outer s H E J hr=>⟨_,((ag (ai 2 sc__law_least.nd ad)
      (ag (dh PassesOwn.never (cx (bD (ao K9 hr (ac (aa 0) (ac (aa 1) (ac (aa 2) (ac ad ae))))))) (aj (ai 2 sc__law_least.nd (am (aa 2) ad))))
      (ag (ai 3 sc__law_least.nd ad)
      (ag (ai 4 sc__law_least.nd ad)
      (ag (dh PassesOwn.never (cx (bD (ao K9 hr (ac (aa 0) (ac (aa 1) (ac (aa 4) (ac (aa 3) ae))))))) (ag (ai 4 sc__law_least.nd (am (aa 4) ad))
        (aj (cG (aV (aa 4) (aa 2)) (ag (ai 4 sc__law_least.nd ad)
         (aj (ai 3 sc__law_least.nd (am (aa 3) ad)))) aE))))
      (aj (ar (au (ac (aa 2) (ac (aa 3) (ac (aa 4) ae)))))))))))),λds R h=>?_⟩)
  . obtain⟨_,_,_,_,rfl,_⟩:=h;rfl
  . obtain⟨p,w,h,s,rfl,ok,F,w7,h7,hR⟩:=h;obtain⟨w',h',s',L,d1,d2,N_,Oa,Jj⟩:=Pat.least_ex F;have w0:=L.f.w0;have h0:=L.f.h0;have kw:p.Keeps w' 0:=(L.lat _ _).mp (InF.one _ _ _);have ks:p.Keeps s' h':=(L.lat _ _).mp (InF.two _ _ _);refine#[λd=>d=.int 1,rfl,?_];rintro _ rfl;k_places;refine#[λm z=>∃x:Int,z=[be (aX p w h),be (.tup [.int w,.int h,.int s]),be (.int x),m_,m_]/\1<=x/\x<=w'/\m=(w'-x).toNat,#[_,1,rfl,t8,t8,rfl],?_];rintro m z⟨x,rfl,x1,xw,hm⟩;k_places;refine#[p,w,h,s,x,0,rfl,ok,F,w7,h7,λb hb=>?_];cases b with
    |false=>
      have nk:¬p.Keeps x 0:=λz=>nomatch hb.mpr z;have:x≠w':=λz=>nk (z ▸ kw);refine#[λd=>d=.int (x+1),rfl,?_];rintro _ rfl;k_places;exact#[(w'-(x+1)).toNat,t8,x+1,rfl,t8,t8,rfl]
    |true=>
      have k:=hb.mp rfl;obtain⟨i,j,e1,e2⟩:=(L.lat x 0).mpr k;have j0:j=0:=small_mul (i:=j) h0 t8 t8;subst j0;have ex:x=w':=by
        rcases Gs i 1 with q|q|q
        . have:=Fp (show i<=0 by lia) (show 0<=w' by lia);lia
        . subst q;lia
        . have:=Fp (show 2<=i by lia) (show 0<=w' by lia);lia
      subst ex;refine#[λd=>d=.int 1,rfl,?_];rintro _ rfl;k_places;refine#[λd=>d=.int 0,rfl,?_];rintro _ rfl;k_places;have Mu:∀a b:Int,a<b->a*x+x<=b*x:=λa b q=>by
        have:=Fp (show a+1<=b by lia) (show 0<=x by lia);rw[GV]at this;lia
      refine#[λm z=>∃y l:Int,z=[be (aX p w h),be (.tup [.int w,.int h,.int s]),be (.int x),be (.int y),be (.int l)]/\1<=y/\y<=h'/\0<=l/\l<x/\(y=h'->l<=s')/\m=(h'*x-y*x+(x-l)).toNat,#[_,1,0,rfl,t8,t8,t8,w0,λ_=>L.f.s0,rfl],?_];rintro m z⟨y,l,rfl,y1,yh,l0,lx,Ob,hm⟩;k_places;have my:y*x<=h'*x:=Fp yh t8;refine#[p,w,h,s,l,y,rfl,ok,F,w7,h7,λb hb=>?_];cases b with
      |false=>
        have nk:¬p.Keeps l y:=λz=>nomatch hb.mpr z;have ne:y=h'->l≠s':=λq z=>nk (q ▸ z ▸ ks);have sw:=L.f.sw;refine#[λd=>d=.int (l+1),rfl,?_];rintro _ rfl;k_places;refine#[λz=>∃y' l':Int,z=[be (aX p w h),be (.tup [.int w,.int h,.int s]),be (.int x),be (.int y'),be (.int l')]/\1<=y'/\y'<=h'/\0<=l'/\l'<x/\(y'=h'->l'<=s')/\(h'*x-y'*x+(x-l')).toNat<m,ite2 (λc=>?_) (λc=>?_),?_]
        . have c':=of_decide_eq_true c;have yl:y<h':=by
            rcases Int.lt_or_eq_of_le yh with q|q
            . exact q
            . have:=Ob q;have:=ne q;lia
          have:=Mu y h' yl;refine#[λd=>d=.int 0,rfl,?_];rintro _ rfl;k_places;refine#[λd=>d=.int (y+1),rfl,?_];rintro _ rfl;k_places;refine#[y+1,0,rfl,t8,t8,t8,w0,λ_=>L.f.s0,?_];rw[GV,Ip];lia
        . have c':¬(l+1=x):=λz=>c (decide_eq_true z);exact#[y,l+1,rfl,y1,yh,t8,t8,λq=>by have:=Ob q;have:=ne q;lia,t8]
        . rintro _⟨y',l',rfl,a1,a2,a3,a4,a5,a6⟩;k_places;exact#[_,a6,y',l',rfl,a1,a2,a3,a4,a5,rfl]
      |true=>
        have k:=hb.mp rfl;have ey:y=h':=by have:=(L.down k t8).1;lia
        subst ey;have el:=L.slant l0 lx k;subst el;exact#[by show(3:Nat)<=1000;decide,hR x y l L N_ Oa Jj]
abbrev oO(V:Bx):Prop:=V.D 2 "_law_leaf_shows" lK AZ
def Dx(T:V.T "_law_leaf_shows" lJ lK)(uA:V.m "range")(uB:V.m "len")(uD:V.m "int")(JG:iG V):oO V:=by
 refine Tx.okDW T sc__law_leaf_shows (λds R h=>?_) (λf cdv A outer s H E J hr=>⟨_,((ag (ai 3 sc__law_leaf_shows.nd (af (aa 0) ad))
   (ag (ai 4 sc__law_leaf_shows.nd (am (am (aw (af (aa 3) ad) (aa 1)) (aw (af (aa 3) ad) (aa 2))) (af (aa 3) ad)))
   (ag (ai 5 sc__law_leaf_shows.nd (am (am (aw (af (aa 3) ad) (aa 1)) (aw (af (aa 3) ad) (aa 2))) (af (aa 3) ad)))
   (ag (bL 6 PassesOwn.never rfl sc__law_leaf_shows.nd uA (ck uB (ac (af (aa 0) ad) ae)) (aj (bL 7 PassesOwn.never rfl sc__law_leaf_shows.nd uA (ck uB (ac (af (af (aa 0) ad) (aa 6)) ae)) (aj (aJ (cF (jy (bK (af (af (af (aa 0) ad) (aa 6)) (aa 7)) ax) (jx (bD (ao JG hr (ac (af (aa 0) ad) (ac (af (aa 0) ad) (ac (bn (aa 4) (aa 7)) (ac (bn (aa 5) (aa 6)) ae))))))))) (aj (ar (af (af (aa 0) ad) (gh uD (ac (af (af (af (aa 0) ad) (aa 6)) (aa 7)) ae))))) aE)))))
   (aj (ar ad))))))),λds R h=>?_⟩)
 .obtain⟨_,_,_,rfl,_⟩:=h;rfl
 .obtain⟨l,x,y,rfl,ok,hR⟩:=h;obtain⟨hm,wd,PD,q9⟩:=id ok.rows;refine#[λd=>d=.tup [.int l.w0,.int l.w1,.int l.w2,.int l.w3,.int l.w4,.int l.w5],#[_,rfl,rfl],?_];rintro _ rfl;k_places;refine#[λd=>d=.int (l.w0*x+l.w1*y+l.w4),#[_,rfl,.inl (n64 ok.w0),_,rfl,.inl (n64 ok.w1),_,rfl,rfl],?_];rintro _ rfl;k_places;refine#[λd=>d=.int (l.w2*x+l.w3*y+l.w5),#[_,rfl,.inl (n64 ok.w2),_,rfl,.inl (n64 ok.w3),_,rfl,rfl],?_];rintro _ rfl;k_places;have IF:R (.int (match l.hit x y with|some c=>cell l.hues ((c:Int)-48)|none=>0)):=hR;unfold Leaf.hit at IF;generalize l.w0*x+l.w1*y+l.w4=U at IF ⊢;generalize l.w2*x+l.w3*y+l.w5=V at IF ⊢;generalize ef:(λi j=>onB l.a l.b l.c l.d (U-i) (V-j))=f at IF;have e0:∀i j,f i j=onB l.a l.b l.c l.d (U-i) (V-j):=λi j=>by rw[<-ef]
  have a_:((l.rows.map D.str).length:Int).toNat=l.rows.length:=IV
  refine#[_,rfl,#[t8,Nw],λk z=>∃o1 o2:Option D,z=[be l.D,be (.int x),be (.int y),be (.tup [.int l.w0,.int l.w1,.int l.w2,.int l.w3,.int l.w4,.int l.w5]),be (.int U),be (.int V),o1,o2]/\bP f 0 l.rows=bP f k (l.rows.drop k),#[_,_,rfl,rfl],?_,?_]
  .rintro j v z hj⟨o1,o2,rfl,hs⟩;k_places;obtain⟨Jz,rfl⟩:=bF hj;rw[a_]at Jz;have Km:l.rows[j]?=be l.rows[j]:=Fo Jz;have v0:l.rows.drop j=l.rows[j]::l.rows.drop (j+1):=Gr Jz;obtain⟨K6,Ki⟩:=q9 l.rows[j] (FC Jz);generalize l.rows[j]=row at Km v0 K6 Ki;have Jk:=at_str Km;have t9:=bj row;refine#[_,rfl,_,Jk,t8,#[t8,t8],λi z=>∃o2:Option D,z=[be l.D,be (.int x),be (.int y),be (.tup [.int l.w0,.int l.w1,.int l.w2,.int l.w3,.int l.w4,.int l.w5]),be (.int U),be (.int V),be (.int j),o2]/\scanRow (λi=>f i j) 0 (cs row)=scanRow (λi=>f i j) i ((cs row).drop i),#[_,rfl,rfl],?_,?_]
   .rintro i v z hi⟨o2,rfl,JJ⟩;k_places;obtain⟨g5,rfl⟩:=bF hi;have Mw:i<(cs row).length:=by lia
    have E_:(cs row).drop i=(cs row)[i]::(cs row).drop (i+1):=Gr Mw;have Kn:=Ki (cs row)[i] (FC Mw);have Mx:atI (cs row) (i:Int)=be (cs row)[i]:=bI (Fo Mw);generalize (cs row)[i]=c at E_ Kn Mx;refine#[_,rfl,_,Jk,c,#[t8,Mx],ite2 (λq=>?_) (λq=>?_)]
    .have q8:¬c=46:=by
      intro z;have:(#[[c].toArray]:t6)=".":=one_sign.mpr z;simp[this]at q
     refine#[_,rfl,_,rfl,l.a,l.b,l.c,l.d,U-i,V-j,rfl,ok.a.lt,ok.b.lt,ok.c.lt,ok.d.lt,ok.ne,?_];refine ite2 (λq2=>?_) (λq2=>?_)
     .have d8:f i j=true:=by rw[e0];exact q2
      have PF:49<=c/\c<=54:=by unfold aQ at Kn;lia
      refine#[_,rfl,_,rfl,_,Jk,c,#[t8,Mx],_,#[digit_of PF,by show 1<=640;decide],_,cB t8 (by rw[ok.many];lia),?_];rw[hs,v0,bP,JJ,E_,scanRow,if_pos #[q8,d8]]at IF;exact IF
     .have d8:¬f i j=true:=by rw[e0];exact q2
      refine#[_,rfl,?_];rw[JJ,E_,scanRow,if_neg (λz=>d8 z.2)]
    .have q8:c=46:=by
      rcases Classical.em (c=46)with z|z
      .exact z
      .exact absurd (by
        have:¬(#[[c].toArray]:t6)=".":=λw=>z (one_sign.mp w);simp[this]) q
     refine#[_,rfl,?_];rw[JJ,E_,scanRow,if_neg (λz=>z.1 q8)]
   .rintro z⟨o2,rfl,JJ⟩;k_places;refine#[_,_,rfl,?_];have hn:((row.length:Int).toNat)=(cs row).length:=by lia
    rw[bx,hn,Hl (E5 _),scanRow]at JJ;rw[hs,v0,bP,JJ]
  .rintro z⟨o1,o2,rfl,hs⟩;k_places;rw[bx,a_,Hl (E5 _),bP]at hs;rw[hs]at IF;exact IF
abbrev iJ(V:Bx):Prop:=V.D 3 "_law_shows" lM A1
def Dy(T:V.T "_law_shows" lL lM)(Mz:oO V):iJ V:=by
 refine Tx.okDW T sc__law_shows (λds R h=>?_) (λf cdv A outer s H E J hr=>⟨_,((ag (fo 3 PassesOwn.never rfl sc__law_shows.nd (aa 0) (ag (ai 4 sc__law_shows.nd (ao Mz hr (ac (aa 3) (ac (aa 1) (ac (aa 2) ae)))))
    (aj (aJ (bK (aa 4) ad) (aj (ar (aa 4))) aE))))
   (aj (ar ad)))),λds R h=>?_⟩)
 .obtain⟨_,_,_,rfl,_⟩:=h;rfl
 .obtain⟨ls,x,y,rfl,ok,hR⟩:=h;refine#[λk z=>∃o1 o2:Option D,z=[be (.lst (ls.map Leaf.D)),be (.int x),be (.int y),o1,o2]/\aS ls x y=aS (ls.drop k) x y,#[_,_,rfl,rfl],?_,?_]
  .rintro k v z hk⟨o1,o2,rfl,hs⟩;k_places;rw[Fg]at hk;have m5:k<ls.length:=by
    rcases Gk k ls.length with q|q
    .exact q
    .rw[FQ q]at hk;cases hk
   rw[Fo m5]at hk;cases hk;have ed:ls.drop k=ls[k]::ls.drop (k+1):=Gr m5;have Oc:=ok ls[k] (FC m5);generalize ls[k]=l at ed Oc;refine#[λd=>d=.int (l.shows x y),#[l,x,y,rfl,Oc,rfl],?_];rintro _ rfl;k_places;refine ite2 (λq=>?_) (λq=>?_)
   .have q':¬l.shows x y=0:=by simpa using q
    rw[hs,ed,aS,if_pos q']at hR;exact hR
   .have q':l.shows x y=0:=by simpa using q
    refine#[_,_,rfl,?_];rw[hs,ed,aS,if_neg (λz=>z q')]
  .rintro z⟨o1,o2,rfl,hs⟩;k_places;rw[E9,Hl (E5 _),aS]at hs;rw[hs]at hR;exact hR
abbrev oP(V:Bx):Prop:=V.D 4 "_law_table" lN Cj
def Dz(T:V.T "_law_table" gM lN)(uA:V.m "range")(Jl:iJ V):oP V:=by
 refine Tx.okDW T sc__law_table (λds R h=>?_) (λf cdv A outer s H E J hr=>⟨_,((ag (dO 2 sc__law_table.nd ae)
   (ag (bL 3 PassesOwn.never rfl sc__law_table.nd uA (af (aa 1) ad) (aj (dg 2 (jD (jI rfl (compScope (by change cA _ (ah gM) ["_law_leaves","_law_three","_law_lines_here","_law_y"] _=true;decide+kernel)) uA (af (aa 1) ad) (λcl s0 H0 fp=>(af ax (ao Jl hr (ac (aa 0) (ac (aa 4) (ac (aa 3) ae)))))))))))
   (df 2 (aj (ar (aa 2))))))),λds R h=>?_⟩)
 .obtain⟨_,_,_,_,rfl,_⟩:=h;rfl
 .obtain⟨p,w,h,s,rfl,wf,dp,w0,w7,h0,h7,hR⟩:=h;refine#[IV,?_];refine#[_,rfl,#[t8,t8],λk z=>∃o,z=[be (.lst (p.leaves.map Leaf.D)),be (.tup [.int w,.int h,.int s]),be (.own ((E7 k).map λ(y:Nat)=>D.str (aB p 0 (y:Int) w.toNat))),o],#[_,rfl],?_,?_]
  .rintro k v z hk⟨o,rfl⟩;k_places;obtain⟨k_,rfl⟩:=bF hk;refine#[_,rfl,#[t8,t8],by rw[bx];lia,λi ys=>ys=(E7 i).map λ(x:Nat)=>D.str #[[bX (p.show (0+(x:Int)) k)].toArray],rfl,?_,?_]
   .rintro i v ys hi hl rfl;obtain⟨Jn,rfl⟩:=bF hi;refine#[p.leaves,i,k,rfl,Pat.leaf_ok wf t8,?_];rw[Pat.show_leaves wf t8];obtain⟨b0,b6⟩:=Pat.show_le wf t8 (i:Int) k;refine#[_,#[y8,tQ b0 b6],?_];show _=G1 _ (E7 (i+1));rw[Gm,FD];simp only[Fi,FW,Hk]
   .rintro ys hl rfl;rw[bx,kj];refine#[_,gD _,?_,?_]
    .rw[Ci,show("":t6).length=0 from rfl];simp;lia
    .rw[Ch];refine#[Nw,?_];refine#[be (.int k),?_];rw[Gm,FD];rfl
  .rintro z⟨o,rfl⟩;k_places;rw[bx];exact hR
def DB:SpD:=λds R=>∃p:Pat,ds=[p.D]/\p.Ok/\∀w h s,p.Least w h s->w*h<=720->h<=720->R (.lst [.tup [.int w,.int h,.int s],aX p w h])
abbrev oQ(V:Bx):Prop:=V.D 5 "_law_own" lQ DB
def DC(T:V.T "_law_own" lP lQ)(uW:eN V)(MB:oN V)(K':oP V):oQ V:=by
 refine Tx.okDW T sc__law_own (λds R h=>?_) (λf cdv A outer s H E J hr=>⟨_,((ag (ai 1 sc__law_own.nd (ao uW hr (ac (af (aa 0) ad) ae)))
   (ag (ai 2 sc__law_own.nd (ao MB hr (ac (ao K' hr (ac (af (aa 0) ad) (ac (aa 1) ae))) (ac (aa 1) ae))))
   (aj (ar (aH (ac (aa 2) (ac (ao K' hr (ac (af (aa 0) ad) (ac (aa 2) ae))) ae)))))))),λds R h=>?_⟩)
 .obtain⟨_,rfl,_⟩:=h;rfl
 .obtain⟨p,rfl,ok,hR⟩:=h;refine#[FamD p,#[_,rfl,ub ok],?_];rintro _⟨w,h,s,rfl,F,wh,w7,h7⟩;k_places;refine#[Cg p,#[_,rfl,p,w,h,s,rfl,ok.wf,ok.deep,F.f.w0,w7,F.f.h0,h7,p,w,h,s,rfl,ok,F.k,w7,h7,λw' h' s' L a b c=>#[w',h',s',rfl,L,IU,IU,IU]],?_];rintro _⟨w',h',s',rfl,L,Od,a,b⟩;k_places;exact#[_,rfl,p,w',h',s',rfl,ok.wf,ok.deep,L.f.w0,a,L.f.h0,b,J2,hR w' h' s' L Od b]
def DD:SpD:=λds R=>∃(p q:Pat) (w h s:Int),ds=[.lst (p.leaves.map Leaf.D),.lst (q.leaves.map Leaf.D),.tup [.int w,.int h,.int s]]/\p.Ok/\q.Ok/\0<w/\w<=720/\0<h/\h<=720/\((∀x y:Int,0<=x->x<w->0<=y->y<h->p.show x y=q.show x y)->R .non)/\∀x y:Int,0<=x->x<w->0<=y->y<h->p.show x y≠q.show x y->(∀x' y':Int,0<=x'->x'<w->0<=y'->(y'<y\/(y'=y/\x'<x))->p.show x' y'=q.show x' y')->R (.tup [.int x,.int y])
abbrev oR(V:Bx):Prop:=V.D 4 "_law_unlike" lU DD
def DF(T:V.T "_law_unlike" lR lU)(uA:V.m "range")(Jl:iJ V):oR V:=by
 refine Tx.okDW T sc__law_unlike (λds R h=>?_) (λf cdv A outer s H E J hr=>⟨_,((ag (bL 3 PassesOwn.never rfl sc__law_unlike.nd uA (af (aa 2) ad) (aj (bL 4 PassesOwn.never rfl sc__law_unlike.nd uA (af (aa 2) ad) (aj (aJ (bK (ao Jl hr (ac (aa 0) (ac (aa 4) (ac (aa 3) ae)))) (ao Jl hr (ac (aa 1) (ac (aa 4) (ac (aa 3) ae))))) (aj (ar (au (ac (aa 4) (ac (aa 3) ae))))) aE)))))
   (aj (ar bq)))),λds R h=>?_⟩)
 .obtain⟨_,_,_,_,_,rfl,_⟩:=h;rfl
 .obtain⟨p,q,w,h,s,rfl,d5,b7,w0,w7,h0,h7,hN,hS⟩:=h;have lo:=Pat.leaf_ok d5.wf (show p.depth<=40 by have:=d5.deep;omega);have PH:=Pat.leaf_ok b7.wf (show q.depth<=40 by have:=b7.deep;omega);have sl:=λx y=>Pat.show_leaves d5.wf (show p.depth<=40 by have:=d5.deep;omega) x y;have KN:=λx y=>Pat.show_leaves b7.wf (show q.depth<=40 by have:=b7.deep;omega) x y;refine#[_,rfl,#[IU,IU],λk z=>∃o3 o4,z=[be (.lst (p.leaves.map Leaf.D)),be (.lst (q.leaves.map Leaf.D)),be (.tup [.int w,.int h,.int s]),o3,o4]/\∀x y:Int,0<=x->x<w->0<=y->y<k->p.show x y=q.show x y,#[_,_,rfl,λx y _ _ a b=>IU],?_,?_]
  .rintro k v z hk⟨o3,o4,rfl,hj⟩;k_places;obtain⟨k_,rfl⟩:=bF hk;refine#[_,rfl,#[IU,IU],λi z=>∃o4,z=[be (.lst (p.leaves.map Leaf.D)),be (.lst (q.leaves.map Leaf.D)),be (.tup [.int w,.int h,.int s]),be (.int k),o4]/\∀x:Int,0<=x->x<i->p.show x k=q.show x k,#[_,rfl,λx a b=>IU],?_,?_]
   .rintro i v z hi⟨o4,rfl,g5⟩;k_places;obtain⟨Jn,rfl⟩:=bF hi;refine#[p.leaves,i,k,rfl,lo,q.leaves,i,k,rfl,PH,?_];rw[sl,KN];refine ite2 (λc=>?_) (λc=>?_)
    .refine#[J2,hS i k IU IU IU IU (λz=>by simp[z]at c) λx' y' a b c d=>?_];rcases d with d|⟨rfl,d⟩
     .exact hj x' y' a b c IU
     .exact g5 x' a IU
    .have c':p.show i k=q.show i k:=by simpa using c
     refine#[_,rfl,λx a b=>?_];by_cases e:x=i
     .rw[e];exact c'
     .exact g5 x a IU
   .rintro z⟨o4,rfl,g5⟩;k_places;rw[bx]at g5;refine#[_,_,rfl,λx y a b c d=>?_];by_cases e:y=k
    .rw[e];exact g5 x a IU
    .exact hj x y a b c IU
  .rintro z⟨o3,o4,rfl,hj⟩;k_places;rw[bx]at hj;exact hN λx y a b c d=>hj x y a b c IU
abbrev cT(V:Bx):Prop:=V.Q 1 "Reading" "may_take" lW Bo
def DG(T:V.Tm "Reading" "may_take" "Reading.may_take" lV lW)(uB:V.m "len")(IG:V.a "Reading" "text")(uL:V.a "Reading" "place"):cT V:=by
 refine Txm.okM T Co (λds M R RX h=>?_) (λf cdv A outer s H E J hr hx=>⟨_,((aA (ce (mt_w (zj (gz (aN uL (aq (aa 0))) (rZ uB (aW (aN IG (aq (aa 0))) bB))) (zh (zf (rW (aN IG (aq (aa 0))) (aN uL (aq (aa 0)))) (aq (aa 1)))))) (aF (aL (aq ax))) bZ)
   (aA (gB uL (aq (aa 0)) (gx (aN uL (aq (aa 0))) (aq ad)))
   (aF (aL (rW (aN IG (aq (aa 0))) (jO (aN uL (aq (aa 0))) (aq ad)))))))),λds M R RX e8 h=>?_⟩)
 .obtain⟨_,_,_,_,_,rfl,_⟩:=h;rfl
 .obtain⟨a,t,k,l,al,rfl,rfl,c7,hR⟩:=h;refine#[_,aT,_,eg,_,aT,_,kg,Fh c7.sz y8,?_];cases l with
  |nil=>
   refine ifdT (by rw[c7.nil]) (ifT rfl ?_);exact hR
  |cons c l=>
   have lt:=c7.lt;refine ifdF t8 ?_;refine#[_,aT,_,kg,_,aT,_,eg,c,#[Fh c7.sz y8,bI c7.get],?_];refine ite2 (λe=>?_) (λe=>?_)
   .have e2:(!(!(Builtin.Str.occurrences al #[[c].toArray] 0 al.length 1).isEmpty))=true:=e;rw[tE]at e2;have nc:c∉cs al:=by simpa using e2
    rw[dD nc,dE nc]at hR;exact hR
   .have e2:¬(!(!(Builtin.Str.occurrences al #[[c].toArray] 0 al.length 1).isEmpty))=true:=e;rw[tE]at e2;have nc:c∈cs al:=by simpa using e2
    rw[eA nc,eB nc]at hR;refine#[_,aT,_,eg,_,aT,by show(2:Nat)<1000;decide,?_];rw[show mput (RdM a t k) a (.ins "Reading" (putD ("place":t6) (.int ((k:Int)+1)) (rdF t k)))=RdM a t (k+1)by rw[Bm];exact gI];refine#[_,aT,_,kg,_,aT,_,eg,c,#[Fh c7.sz y8,?_],hR];rw[show((k+1:Nat):Int)-1=(k:Int)by lia];exact bI c7.get
abbrev cD(V:Bx):Prop:=V.Q 2 "Reading" "take" lY Bp
def DJ(T:V.Tm "Reading" "take" "Reading.take" lX lY)(uG:cT V):cD V:=by
 refine Txm.okM T sc_Reading_take (λds M R RX h=>?_) (λf cdv A outer s H E J hr hx=>⟨_,((aA (bc 2 sc_Reading_take.nd (aZ (CalMth.one uG) hx hr (aq (aa 0)) (aC (ac (aa 1) ae))))
   (aA (ce (cb (aV (aa 2) ax)) (aF gH) bZ)
   (aF (aL (aq (aa 2))))))),λds M R RX e8 h=>?_⟩)
 .obtain⟨_,_,_,_,_,_,rfl,_⟩:=h;rfl
 .obtain⟨a,t,k,c,l,al,rfl,rfl,c7,hc,hR⟩:=h;refine#[λd M'=>d=.str #[[c].toArray]/\M'=RdM a t (k+1),#[_,E6.mpr rfl,_,aT,cQ,a,t,k,_,al,rfl,rfl,c7,by rw[eA hc,eB hc];exact#[rfl,rfl]],?_];rintro _ _⟨rfl,rfl⟩;k_places;exact hR
abbrev oS(V:Bx):Prop:=V.MM 3 "line_from" ma S_line_from
def DK(T:V.T "line_from" lZ ma)(uA:V.m "range")(x9:V.gs "SIGNS" ".123456")(uC:cD V)(uG:cT V):oS V:=by
 refine Tx.okM T sc_line_from (λds M R RX h=>?_) (λf cdv A outer s H E J hr hx=>⟨_,((aA (bc 3 sc_line_from.nd (aq ax))
   (aA (zB 4 PassesOwn.leaving rfl sc_line_from.nd uA (aq (aa 2)) (aF (bc 3 sc_line_from.nd (gx (aq (aa 3)) (fq (cb (fj (aa 4) (aa 1))) (aZ (CalMth.one uC) hx hr (aq (aa 0)) (aC (ac (gq x9) ae))) (aZ (CalMth.one uG) hx hr (aq (aa 0)) (aC (ac (gq x9) ae))))))))
   (aF (aL (aq (aa 3))))))),λds M R RX e8 h=>?_⟩)
 .obtain⟨_,_,_,_,_,_,_,rfl,_⟩:=h;rfl
 .obtain⟨a,t,k,n,m,x,l,rfl,rfl,c7,hs,hn,hm,QA,i8,hR⟩:=h;refine#[λd M'=>d=.str ""/\M'=RdM a t k,#[rfl,rfl],?_];rintro _ _⟨rfl,rfl⟩;k_places;refine#[#[t8,t8],λi z M'=>i<=m/\∃col,z=[be (.ptr a),be (.int n),be (.int m),be (.str #[(x.take i).toArray]),col]/\M'=RdM a t (k+min i x.length),#[FB _,m_,rfl,by rw[Nat.zero_min];rfl],?_,?_]
  .rintro i d z M' hi⟨QB,col,rfl,rfl⟩;k_places;obtain⟨Jn,rfl⟩:=bF hi;have Jn:i<m:=by lia
   have a_:=List.length_take_le i x;refine#[λd M'=>d=.str #[(x.take (i+1)).toArray]/\M'=RdM a t (k+min (i+1) x.length),?_,?_]
   .by_cases gV:i<x.length
    .have e1:x.take (i+1)=x.take i++[x[i]]:=List.take_succ_eq_append_getElem gV;have c8:At t (k+i) (x[i]::(x.drop (i+1)++l)):=by
      have:=c7;rw[<-Ir i x,FR,Gr gV]at this;have:=this.app;rw[Gv,Hm t8]at this;exact this
     have hc:=signs_is.mpr (Bk (hs x[i] (FC gV)));have e2:(#[(x.take i).toArray]:t6)++#[[x[i]].toArray]=#[(x.take (i+1)).toArray]:=by rw[show(#[[x[i]].toArray]:t6)=#[[x[i]].toArray]from rfl,fA,e1]
     rw[Hm t8,Hm t8];refine ite2 (λ_=>?_) (λ_=>?_)
     .exact#[_,E6.mpr rfl,_,aT,ci,a,t,_,_,_,".123456",rfl,rfl,c8,hc,by rw[eE,show(#[[x[i]].toArray]:t6).length=1 from rfl];lia,congrArg D.str e2,rfl]
     .refine#[_,E6.mpr rfl,_,aT,cQ,a,t,_,_,".123456",rfl,rfl,c8,?_];rw[eA hc,eB hc];exact#[by rw[eE,show(#[[x[i]].toArray]:t6).length=1 from rfl];lia,congrArg D.str e2,rfl]
    .obtain⟨c,l',rfl,hc⟩:=i8.resolve_left t8;have c8:=c7.app;rw[Hn t8,Hn t8,Gn t8,Gn t8];refine ite2 (λc=>absurd (of_decide_eq_true c) t8) (λ_=>?_);refine#[_,E6.mpr rfl,_,aT,cQ,a,t,_,_,".123456",rfl,rfl,c8,?_];rw[dD (tF hc),dE (tF hc)];refine#[by rw[eE,show("":t6).length=0 from rfl];lia,?_,rfl];rw[show("":t6)=#[([]:List Nat).toArray]from rfl,fA,FN]
   .rintro _ _⟨rfl,rfl⟩;k_places;exact#[Jn,_,rfl,trivial]
  .intro z M' hz;rw[bx,GF]at hz;obtain⟨_,col,rfl,rfl⟩:=hz;rw[Gn hm,Hn hm];exact hR
abbrev oU(V:Bx):Prop:=V.MM 4 "lines_from" mf Bv
def DL(T:V.T "lines_from" me mf)(uB:V.m "len")(K_:oS V)(La:V.gi "LONGEST" 8)(uG:cT V):oU V:=by
 refine Tx.okM T sc_lines_from (λds M R RX h=>?_) (λf cdv A outer s H E J hr hx=>⟨_,((aA (bc 1 sc_lines_from.nd (zm (aW (bb (CalMM.frame K_) hx hr (aC (ac (aa 0) (ac ad (ac (dS La) ae))))) bB)))
   (aA (bc 2 sc_lines_from.nd (rZ uB (aW (zE (aq (aa 1)) (aq ad)) bB)))
   (aA (zA PassesOwn.leaving (mt_w (zi (rX (zD uB (aq (aa 1))) (aq (dS La))) (zg (gz (aZ (CalMth.one (CalMth.frame uG)) hx hr (aq (aa 0)) (aC (ac ax ae))) (aq ax))))) (aF (cu (zG (aq (aa 1)) (bb (CalMM.frame K_) hx hr (aC (ac (aa 0) (ac (aa 2) (ac (aa 2) ae)))))))))
   (sj 1 (aF (aL (aq (aa 1))))))))),λds M R RX e8 h=>?_⟩)
 .obtain⟨_,_,_,_,_,_,rfl,_⟩:=h;rfl
 .obtain⟨a,t,k,L,w,l,rfl,rfl,hL,c7,hR⟩:=h;have hw:=hL.w1;have PJ:=hL.w8;have v3:=hL.many;cases L with
  |nil=>exact absurd v3.1 y8
  |cons x L=>
   obtain⟨Jv,n5⟩:=hL.each x Fd;rw[tD]at c7 hR;rw[FR]at c7;rw[Fe]at v3;have stop:∀N:List (List Nat),∃c l',rowsT N++59::l=c::l'/\isSg c=false:=λN=>by
    cases N with
    |nil=>exact#[59,l,rfl,rfl]
    |cons y N=>exact#[47,_,rfl,rfl]
   refine#[λd M'=>∃p,p≠a/\d=.ptr p/\M'=(p,.lst [.str #[x.toArray]])::RdM a t (k+x.length),#[[],RdM a t k,rfl,a,t,k,1,8,x,_,rfl,rfl,c7,n5,t8,t8,y8,.inr (stop L),by show 1<=1000;decide,λp hp=>#[p,λe=>hp (by rw[e];exact E6.mpr rfl),rfl,rfl]],?_];rintro _ _⟨p,PK,rfl,rfl⟩;k_places;refine#[λd M'=>d=.int w/\M'=(p,.lst [.str #[x.toArray]])::RdM a t (k+x.length),#[_,cI,_,rfl,by rw[eE];lia,by rw[eE,Jv],rfl],?_];rintro _ _⟨rfl,rfl⟩;k_places;refine#[λm z M'=>∃L1 L2 k',L=L1++L2/\m=L2.length/\At t k' (rowsT L2++59::l)/\k'+(rowsT L2).length=k+(x++rowsT L).length/\z=[be (.ptr a),be (.ptr p),be (.int w)]/\M'=(p,.lst (lstD (x::L1)))::RdM a t k',#[_,[],L,_,rfl,rfl,c7.app,by rw[Fn];lia,rfl,rfl],?_];rintro m z M'⟨L1,L2,k',rfl,rfl,g6,hk,rfl,rfl⟩;k_places;rw[Fn]at v3;have Ko:(lstD (x::L1)).length=L1.length+1:=by simp[lstD]
   have done:L2=[]->R (.lst (lstD (x::L1))) (RdM a t k'):=λe=>by
    subst e;rw[show k'=k+(x++rowsT (L1++[])).length from hk,show lstD (x::L1)=lstD (x::(L1++[]))by rw[FN]];exact hR
   refine#[_,cI,?_];rw[Ko];refine ite2 (λc=>?_) (λc=>?_)
   .refine#[_,E6.mpr rfl,_,Bu PK,cQ,[(p,_)],RdM a t _,rfl,a,t,_,_,"/",rfl,rfl,g6,?_];cases L2 with
    |nil=>
     rw[show rowsT []++59::l=59::l from rfl,dD y8,dE y8];refine#[_,cI,?_];rw[show mdel ([(p,MO.lst (lstD (x::L1)))]++RdM a t (k'+0)) p=RdM a t k' from kh];exact done rfl
    |cons y N=>
     have e1:rowsT (y::N)++59::l=47::(y++(rowsT N++59::l)):=by simp[rowsT]
     have Oe:(47:Nat)∈cs "/":=y8
     rw[e1]at g6 ⊢;rw[eA Oe,eB Oe];obtain⟨PL,PM⟩:=hL.each y (Fc _ (Fx _ Fd));have m9:=g6.next;refine#[#[_,cI],[(p,_)],RdM a t _,rfl,a,t,_,w,w,y,_,rfl,rfl,m9,PM,t8,t8,PJ,.inl PL,?_];refine#[_,cI,by rw[Ko];lia,N.length,by rw[Fe];lia,L1++[y],N,_,IV,rfl,m9.app,?_,rfl,?_]
     .rw[<-hk];simp[rowsT];lia
     .show mput ((p,MO.lst (lstD (x::L1)))::RdM a t _) p _=_;rw[tG];simp[lstD]
   .have c':L1.length+1=8:=by
     have:¬((L1.length+1:Nat):Int)<8:=λz=>c (decide_eq_true z);lia
    refine#[_,cI,?_];rw[kh];exact done (HJ t8)
abbrev oV(V:Bx):Prop:=V.MM 3 "number_from" mj Bs
def DM(T:V.T "number_from" mi mj)(uD:V.m "int")(uG:cT V)(uC:cD V):oV V:=by
  refine Tx.okM T sc_number_from (λds M R RX h=>?_) (λf cdv A outer s H E J hr hx=>⟨_,((aA (ce (gz (aZ (CalMth.one uG) hx hr (aq (aa 0)) (aC (ac ax ae))) (aq ax)) (aF (aL (aq ad))) bZ)
      (aA (bc 1 sc_number_from.nd (gx (aZ (CalMth.one uG) hx hr (aq (aa 0)) (aC (ac ax ae))) (aZ (CalMth.one uC) hx hr (aq (aa 0)) (aC (ac ax ae)))))
      (aA (si (cb (bD (zc (aa 1) (ac ax ae)))) (aF (bc 1 sc_number_from.nd (gx (aq (aa 1)) (aZ (CalMth.one uG) hx hr (aq (aa 0)) (aC (ac ax ae)))))) bZ)
      (aF (aL (aq (gh uD (ac (aa 1) ae))))))))),λds M R RX e8 h=>?_⟩)
  . obtain⟨_,_,_,_,_,_,rfl,_⟩:=h;rfl
  . obtain⟨a,t,k,x,e,l,rfl,rfl,gV,he,c7,hR⟩:=h;have hi:=Bq gV;have hl:=bE gV;rw[<-bj]at hl;change (numL x).length<=3 at hl;refine#[_,E6.mpr rfl,_,aT,cQ,a,t,k,_,"0",rfl,rfl,c7,?_];rcases numS gV with e0|⟨pre,c,y,hp,hc,ev,hy⟩
    . rw[e0]at hR hi ⊢;have e1:x=0:=Option.some.inj (hi.symm.trans IA);subst e1;have e2:(48:Nat)∈cs "0":=by decide
      rw[show([48]++e::l:List Nat)=48::e::l from rfl,eA e2,eB e2];exact hR
    rw[ev]at c7 hR hi hl ⊢;have h0:mayS "0" (pre++c::y++e::l)=""/\mayN "0" (pre++c::y++e::l)=0:=by
      have n:c∉cs "0":=λq=>by have:=E6.mp q;lia
      rcases hp with rfl|rfl
      . exact#[dD n,dE n]
      . exact#[dD y8,dE y8]
    have hm:mayS "-" (pre++c::y++e::l)=#[pre.toArray]/\mayN "-" (pre++c::y++e::l)=pre.length:=by
      have n:c∉cs "-":=λq=>by have:=E6.mp q;lia
      rcases hp with rfl|rfl
      . exact#[dD n,dE n]
      . exact#[rfl,rfl]
    rw[h0.1,h0.2];have c8:At t (k+pre.length) (c::(y++e::l)):=by rw[FR]at c7;exact c7.app
    have g6:=c8.next;refine#[λd M'=>d=.str #[(pre++[c]).toArray]/\M'=RdM a t (k+pre.length+1),?_,?_]
    . refine#[_,E6.mpr rfl,_,aT,cQ,a,t,k,_,"-",rfl,rfl,c7,?_];rw[hm.1,hm.2];refine#[_,E6.mpr rfl,_,aT,ci,a,t,k+pre.length,c,_,"123456789",rfl,rfl,c8,digits19.mpr hc,?_,?_,rfl]
      . rcases hp with rfl|rfl<;>simp[Str.length]
      . rw[show(#[[c].toArray]:t6)=#[[c].toArray]from rfl,fA]
    . rintro _ _⟨rfl,rfl⟩;k_places;refine#[λz M'=>z=[be (.ptr a),be (.str #[(pre++c::y).toArray])]/\M'=RdM a t (k+(pre++c::y).length),?_,?_]
      . show if Txt.endswith #[(pre++[c]).toArray] "1"=true then _ else _
        rw[Br];refine ite2 (λz=>?_) (λz=>?_)
        . obtain⟨e1,e2,e3⟩:(⟨(pre++[c]).toArray⟩:t6)++mayS "012" (y++e::l)=⟨(pre++c::y).toArray⟩/\mayN "012" (y++e::l)=y.length/\(mayS "012" (y++e::l)).length<=1:=by
            rcases hy with rfl|⟨_,d,hd,rfl⟩
            . have n:e∉cs "012":=λq=>by have:=digits02.mp q;unfold endS at he;lia
              rw[List.nil_append,dD n,dE n];refine#[?_,rfl,y8];rw[show("":t6)=#[([]:List Nat).toArray]from rfl,fA];simp
            . rw[show([d]++e::l:List Nat)=d::e::l from rfl,eA (digits02.mpr hd),eB (digits02.mpr hd)];refine#[?_,rfl,E5 1];rw[show(#[[d].toArray]:t6)=#[[d].toArray]from rfl,fA];simp
          refine#[λv M'=>v=.str #[(pre++c::y).toArray]/\M'=RdM a t (k+(pre++c::y).length),#[_,E6.mpr rfl,_,aT,cQ,a,t,_,_,"012",rfl,rfl,g6,?_],?_]
          . refine#[?_,congrArg D.str e1,?_]
            . rcases hp with rfl|rfl<;>simp[Str.length]at e3 ⊢<;>lia
            . rw[e2];congr 1;simp;lia
          . rintro _ _⟨rfl,rfl⟩;k_places;exact#[rfl,trivial]
        . have PN:y=[]:=hy.resolve_right λq=>z (decide_eq_true q.1);subst PN;exact#[rfl,by rw[Fn];rfl]
      . rintro _ _⟨rfl,rfl⟩;k_places;exact#[x,#[hi,by show(pre++c::y).length<=640;lia],hR]
abbrev fH(V:Bx):Prop:=V.MM 4 "shift_from" mn Bt
def DN(T:V.T "shift_from" mm mn)(Lb:oV V)(uC:cD V):fH V:=by
 refine Tx.okM T sc_shift_from (λds M R RX h=>?_) (λf cdv A outer s H E J hr hx=>⟨_,((aA (bc 1 sc_shift_from.nd (bb Lb hx hr (aC (ac (aa 0) ae))))
   (aA (cu (aZ (CalMth.one uC) hx hr (aq (aa 0)) (aC (ac ax ae))))
   (aF (aL (zl (aW (aq (aa 1)) (aW (bb Lb hx hr (aC (ac (aa 0) ae))) bB)))))))),λds M R RX e8 h=>?_⟩)
 .obtain⟨_,_,_,_,_,_,_,rfl,_⟩:=h;rfl
 .obtain⟨a,t,k,x,y,e,l,rfl,rfl,gV,hy,he,c7,hR⟩:=h;refine#[λd M'=>d=.int x/\M'=RdM a t (k+(numL x).length),#[a,t,k,x,44,_,rfl,rfl,gV,.inl rfl,c7,rfl,rfl],?_];rintro _ _⟨rfl,rfl⟩;k_places;have c8:=c7.app;exact#[_,E6.mpr rfl,_,aT,ci,a,t,_,44,_,",",rfl,rfl,c8,y8,a,t,_,y,e,l,rfl,rfl,hy,he,c8.next,IV,hR]
abbrev iK(V:Bx):Prop:=V.D 1 "levelled" mq AD
def DO(T:V.T "levelled" mo mq):iK V:=by
 refine Tx.okDW T sc_levelled (λds R h=>?_) (λf cdv A outer s H E J hr=>⟨_,((ag (dh PassesOwn.never (bK (af (aa 1) ad) ad) (ag (ai 2 sc_levelled.nd (xF (af (aa 0) ad) (af (aa 1) ad)))
    (ag (ai 3 sc_levelled.nd (au (ac (bn (af (aa 0) ad) (aw (aa 2) (af (aa 1) ad))) (ac (bn (af (aa 0) ad) (aw (aa 2) (af (aa 1) ad))) ae))))
    (ag (ai 0 sc_levelled.nd (aa 1))
    (aj (ai 1 sc_levelled.nd (aa 3)))))))
   (ag (cG (fj (af (aa 0) ad) ad) (aj (ai 0 sc_levelled.nd (au (ac (bY (af (aa 0) ad)) (ac (bY (af (aa 0) ad)) ae))))) aE)
   (aj (ar (au (ac (aa 0) (ac (aa 1) ae)))))))),λds R h=>?_⟩)
 .obtain⟨a,b,c,d,rfl,_⟩:=h;rfl
 .obtain⟨a,b,c,d,rfl,hb,hd,hR⟩:=h;refine#[λm z=>∃(f0 f1 s0 s1:Int) (t r:Option D),z=[be (.tup [.int f0,.int f1]),be (.tup [.int s0,.int s1]),t,r]/\Uni a b c d f0 f1 s0 s1/\f1.natAbs<4611686018427387904/\s1.natAbs<4611686018427387904/\m=s1.natAbs,#[_,a,b,c,d,m_,m_,rfl,Uni.refl a b c d,hb,hd,rfl],?_];rintro m z⟨f0,f1,s0,s1,t,r,rfl,hu,hf,hs,rfl⟩;k_places;refine#[_,rfl,ite2 (λcc=>?_) (λcc=>?_)]
  .have c':¬s1=0:=by simpa using cc
   obtain⟨g1,g2⟩:=fdm f1 s1 c';refine#[λd=>d=.int (f1.fdiv s1),#[_,rfl,_,rfl,#[c',hs],rfl],?_];rintro _ rfl;k_places;refine#[λd=>d=.tup [.int (f0-f1.fdiv s1*s0),.int (f1-f1.fdiv s1*s1)],#[_,rfl,_,rfl,.inl #[t8,t8],_,rfl,_,rfl,.inl #[t8,t8],IV,rfl],?_];rintro _ rfl;k_places;refine#[λd=>d=.tup [.int s0,.int s1],rfl,?_];rintro _ rfl;k_places;refine#[λd=>d=.tup [.int (f0-f1.fdiv s1*s0),.int (f1-f1.fdiv s1*s1)],rfl,?_];rintro _ rfl;k_places;exact#[_,g1,s0,s1,_,_,_,_,rfl,hu.step _,hs,t8,rfl]
  .have c':s1=0:=by simpa using cc
   subst c';refine#[λz=>∃p0 p1:Int,z=[be (.tup [.int p0,.int p1]),be (.tup [.int s0,.int 0]),t,r]/\Lev a b c d p0 p1 s0,#[_,rfl,ite2 (λe=>?_) (λe=>?_)],?_]
   .have e':=of_decide_eq_true e;refine#[λd=>d=.tup [.int (-f0),.int (-f1)],#[_,rfl,_,rfl,IV,rfl],?_];rintro _ rfl;k_places;exact#[_,_,rfl,t8,hu.neg]
   .have e':=of_decide_eq_false (FH.mpr e);exact#[_,_,rfl,t8,hu]
   .rintro _⟨p0,p1,rfl,hL⟩;k_places;exact#[IV,hR p0 p1 s0 hL]
abbrev iL(V:Bx):Prop:=V.D 2 "spread" mx AE
def DP(T:V.T "spread" mv mx)(uN:V.m "abs")(JK:iK V):iL V:=by
 refine Tx.okDW T sc_spread (λds R h=>?_) (λf cdv A outer s H E J hr=>⟨_,((ag (aJ (aV (aw (af (aa 0) ad) (af (aa 1) ad)) (aw (af (aa 0) ad) (af (aa 1) ad))) (aj (ar bq)) aE)
   (ag (ai 2 sc_spread.nd (ao JK hr (ac (aa 0) (ac (aa 1) ae))))
   (ag (ai 3 sc_spread.nd (dL uN (ac (af (af (aa 2) ad) ad) ae)))
   (aj (ar (au (ac (aa 3) (ac (af (af (aa 2) ad) ad) (ac (av (af (af (aa 2) ad) ad) (aa 3)) ae)))))))))),λds R h=>?_⟩)
 .obtain⟨a,b,c,d,rfl,_⟩:=h;rfl
 .obtain⟨a,b,c,d,rfl,ha,hb,hc,hd,hN,hR⟩:=h;refine#[_,rfl,_,rfl,.inl #[t8,t8],_,rfl,_,rfl,.inl #[t8,t8],ite2 (λe=>?_) (λe=>?_)]
  .exact hN (of_decide_eq_true e)
  .have e':=of_decide_eq_false (FH.mpr e);refine#[λx=>∃p0 p1 q0:Int,x=.tup [.tup [.int p0,.int p1],.tup [.int q0,.int 0]]/\Lev a b c d p0 p1 q0,#[a,b,c,d,rfl,hb,hd,λp0 p1 q0 hL=>#[p0,p1,q0,rfl,hL]],?_];rintro _⟨p0,p1,q0,rfl,hL⟩;k_places;have hF:=fu e' hL;refine#[λx=>x=.int (if q0<0 then -q0 else q0),#[_,rfl,_,rfl,rfl],?_];rintro _ rfl;k_places;exact#[_,rfl,_,rfl,_,rfl,_,rfl,hF.1,IV,hR e' _ _ _ hF]
abbrev eO(V:Bx):Prop:=V.D 1 "home" mB AC
def DQ(T:V.T "home" mz mB):eO V:=by
 refine Tx.okDW T sc_home (λds R h=>?_) (λf cdv A outer s H E J hr=>⟨_,((ag (ai 3 sc_home.nd (af (aa 0) ad))
   (ag (ai 4 sc_home.nd (af (aa 0) ad))
   (ag (ai 5 sc_home.nd (af (aa 0) ad))
   (aj (ar (au (ac (av (bn (aa 1) (aw (aI (aa 2) (aa 4)) (aa 5))) (aa 3)) (ac (av (aa 2) (aa 4)) ae))))))))),λds R h=>?_⟩)
 .obtain⟨w,h,s,x,y,rfl,_⟩:=h;rfl
 .obtain⟨w,h,s,x,y,rfl,hw,hh,x8,hs,j3,hR⟩:=h;refine#[λd=>d=.int w,#[_,rfl,rfl],?_];rintro _ rfl;k_places;refine#[λd=>d=.int h,#[_,rfl,rfl],?_];rintro _ rfl;k_places;refine#[λd=>d=.int s,#[_,rfl,rfl],?_];rintro _ rfl;k_places;exact#[#[hh,x8],.inr #[t8,t8],hw,hh,IV,hR]
abbrev oW(V:Bx):Prop:=V.MM 2 "hues_by_home" mD BB
def DR(T:V.T "hues_by_home" mC mD)(Jo:V.m "enumerate")(uX:eO V)(x9:V.gs "SIGNS" ".123456"):oW V:=by
 refine Tx.okM T sc_hues_by_home (λds M R RX h=>?_) (λf cdv A outer s H E J hr hx=>⟨_,((aA (bc 2 sc_hues_by_home.nd zV)
   (aA (zM PassesOwn.leaving rfl Jo (aq (aa 0)) (dg_cons 3 sc_hues_by_home.nd (dg_cons 4 sc_hues_by_home.nd cy)) (aF (zN PassesOwn.leaving rfl Jo (aq (aa 4)) (dg_cons 5 sc_hues_by_home.nd (dg_cons 6 sc_hues_by_home.nd cy)) (aF (si (cb (bK (aa 6) ax)) (aF (cu (zY (dJ hr) (aq (aa 2)) (aC (ac (ao uX hr (ac (aa 1) (ac (aa 5) (ac (aa 3) ae)))) (ac (rS (gq x9) (ac (aa 6) ae)) ae)))))) bZ)))))
   (sj 2 (aF (aL (aq (aa 2)))))))),λds M R RX e8 h=>?_⟩)
 .obtain⟨_,_,_,_,_,rfl,_⟩:=h;rfl
 .obtain⟨L,wd,w,h,s,rfl,hL,hw,hh,x8,hs,j3,hR⟩:=h;have PD:=hL.w8;refine#[λd M'=>∃p,p∉az M/\d=.ptr p/\M'=(p,.dti [])::M,λp hp=>#[p,hp,rfl,rfl],?_];rintro _ _⟨p,hp,rfl,rfl⟩;k_places;refine#[λj z M'=>∃(kv:List ((Int×Int)×Int)) (x3 x4 x5 x6:Option D),hAll w h s j (L.drop j) kv=hAll w h s 0 L []/\kv.length<=8*j/\z=[be (.lst (lstD L)),be (.tup [.int w,.int h,.int s]),be (.ptr p),x3,x4,x5,x6]/\M'=(p,.dti kv)::M,#[[],m_,m_,m_,m_,rfl,IV,rfl,rfl],?_,?_]
  .rintro j d z M' hd⟨kv,x3,x4,x5,x6,e1,PP,rfl,rfl⟩;k_places;obtain⟨x,gV,rfl⟩:=Bz hd;have hj:j<L.length:=(Fj.mp gV).1;have QC:=hL.many;obtain⟨xl,xs⟩:=hL.each x (Gg gV);rw[tI gV]at e1;refine#[By xs,λi z M'=>∃(F_:List ((Int×Int)×Int)) (x5 x6:Option D),hRow w h s j i (x.drop i) F_=hRow w h s j 0 x kv/\F_.length<=8*j+i/\i<=x.length/\z=[be (.lst (lstD L)),be (.tup [.int w,.int h,.int s]),be (.ptr p),be (.int j),be (.str #[x.toArray]),x5,x6]/\M'=(p,.dti F_)::M,#[kv,x5,x6,rfl,t8,FB _,rfl,rfl],?_,?_]
   .rintro i d z M' k8⟨F_,y5,y6,e2,MC,hi,rfl,rfl⟩;k_places;obtain⟨c,hc,rfl⟩:=BA k8;have Jn:i<x.length:=(Fj.mp hc).1;have sc:=xs c (Gg hc);rw[tI hc,hRow]at e2;refine#[λz M'=>∃Kp:List ((Int×Int)×Int),hRow w h s j (i+1) (x.drop (i+1)) Kp=hRow w h s j 0 x kv/\Kp.length<=8*j+(i+1)/\z=[be (.lst (lstD L)),be (.tup [.int w,.int h,.int s]),be (.ptr p),be (.int j),be (.str #[x.toArray]),be (.int i),be (.str #[[c].toArray])]/\M'=(p,.dti Kp)::M,?_,?_]
    .show if(!decide ((#[[c].toArray]:t6)="."))=true then _ else _;by_cases q8:c=46
     .subst q8;rw[if_pos rfl]at e2;exact#[F_,e2,t8,rfl,rfl]
     .rw[if_neg q8]at e2;refine ifT (by simp[one_sign,q8]) ?_;have c6:49<=c/\c<=54:=by unfold aQ at sc;lia
      obtain⟨ix,rest,ho,Lz⟩:=Bw c6;refine#[#[_,cI],w,h,s,i,j,rfl,hw,hh,x8,hs,j3,ix,rest,ho,_,cI,by have:=tH F_ (hmX w h s i j) ((j:Int)%h) ((c:Int)-48);lia,λv=>?_];rw[tG,Lz];exact#[_,e2,by have:=tH F_ (hmX w h s i j) ((j:Int)%h) ((c:Int)-48);lia,rfl,rfl]
    .rintro z M'⟨Kp,e3,h3,rfl,rfl⟩;k_places;exact#[Kp,_,_,e3,h3,Jn,rfl,rfl]
   .rintro z M' hz;rw[rQ,eE]at hz;obtain⟨F_,y5,y6,e2,MC,hi,rfl,rfl⟩:=hz;rw[Iv]at e2;refine#[F_,_,_,_,_,?_,t8,rfl,rfl];rw[<-e1,hAll,<-e2];rfl
  .rintro z M' hz;rw[show(lstD L).length=L.length by simp[lstD]]at hz;obtain⟨kv,x3,x4,x5,x6,e1,PP,rfl,rfl⟩:=hz;rw[Iv]at e1;refine#[_,cI,?_];rw[kh];have e2:kv=hAll w h s 0 L []:=e1;rw[<-e2]at hR;exact hR
abbrev oX(V:Bx):Prop:=V.M 3 "Motif" mG BC
def DU(T:V.Ti "Motif" "Motif.__init__" mF mG)(JL:iL V)(MD:oW V)(MF:V.a "Motif" "place")(uK:V.a "Motif" "shifts")(IH:V.a "Motif" "hues"):oX V:=by
 refine Txi.okIM T Cp (λds R h=>?_) (λf cdv A outer s H E J hr hx=>⟨_,((aA (gB MF (aq (aa 0)) (aq (aa 1)))
   (aA (gB uK (aq (aa 0)) (aq (ao JL hr (ac (aa 3) (ac (aa 4) ae)))))
   (aF (gB IH (aq (aa 0)) (fq (rY (aN uK (aq (aa 0))) (aq bq)) zU (bb MD hx hr (aW (aq (aa 2)) (aW (aN uK (aq (aa 0))) bB))))))))),λa ds R JY h=>?_⟩)
 .obtain⟨_,_,_,_,_,_,_,rfl,_⟩:=h;rfl
 .obtain⟨k,L,wd,x,y,u,v,rfl,hL,gV,hy,hu,hv,hn,h1⟩:=h;unfold B12 at gV hy hu hv;refine#[_,dB,by show(0:Nat)<1000;decide,?_];rw[gI,BD];refine#[x,y,u,v,rfl,t8,t8,t8,t8,λe=>absurd e hn,λe w h s F=>?_];refine#[_,dB,by show(1:Nat)<1000;decide,?_];rw[gI,BE];refine#[_,dB,_,tJ,?_];obtain⟨b1,b2,b3⟩:=F.bd (N:=288) (by
   have m1:=bO (a:=x) (d:=v) (A:=12) (B:=12) t8 t8;have m2:=bO (a:=y) (d:=u) (A:=12) (B:=12) t8 t8;lia)
  refine#[_,dB,_,tJ,L,wd,w,h,s,rfl,hL,F.1,F.2.1,t8,F.2.2.1,t8,?_];refine#[_,dB,by show(2:Nat)<1000;decide,?_];rw[gI,BF];exact#[_,rfl,h1 w h s F]
abbrev iM(V:Bx):Prop:=V.MM 5 "motif_from" mI BM
def DV(T:V.T "motif_from" mH mI)(MG:oU V)(G':fH V)(uL:V.a "Reading" "place")(MH:oX V)(uC:cD V):iM V:=by
 refine Tx.okM T sc_motif_from (λds M R RX h=>?_) (λf cdv A outer s H E J hr hx=>⟨_,((aA (bc 1 sc_motif_from.nd (aN uL (aq (aa 0))))
   (aA (cu (aZ (CalMth.one uC) hx hr (aq (aa 0)) (aC (ac ax ae))))
   (aA (bc 2 sc_motif_from.nd (bb MG hx hr (aC (ac (aa 0) ae))))
   (aA (cu (aZ (CalMth.one uC) hx hr (aq (aa 0)) (aC (ac ax ae))))
   (aA (bc 3 sc_motif_from.nd (bb G' hx hr (aC (ac (aa 0) ae))))
   (aA (cu (aZ (CalMth.one uC) hx hr (aq (aa 0)) (aC (ac ax ae))))
   (aA (bc 4 sc_motif_from.nd (bb G' hx hr (aC (ac (aa 0) ae))))
   (aA (cu (aZ (CalMth.one uC) hx hr (aq (aa 0)) (aC (ac ax ae))))
   (aF (aL (aq (jK MH hr (ac (aa 1) (ac (aa 2) (ac (aa 3) (ac (aa 4) ae))))))))))))))))),λds M R RX e8 h=>?_⟩)
 .obtain⟨_,_,_,_,_,_,_,_,_,rfl,_⟩:=h;rfl
 .obtain⟨g,t,k,L,a,b,c,d,l,rfl,rfl,c7,⟨Kq,ha,hb,hc,hd,hn⟩,hR⟩:=h;obtain⟨w,hL⟩:=BL Kq;have c7:At t k (91::(rowsL (L.map cs)++59::(numL a++44::(numL b++59::(numL c++44::(numL d++93::l)))))):=by simpa[motL]using c7
  have a_:k+(motL (L.map cs) a b c d).length=k+1+(rowsL (L.map cs)).length+1+(numL a).length+1+(numL b).length+1+(numL c).length+1+(numL d).length+1:=by simp[motL];lia
  rw[a_]at hR;have c8:=c7.next;have g6:=c8.app;have m9:=g6.next;have Kr:At t (k+1+(rowsL (L.map cs)).length+1+(numL a).length+1+(numL b).length) _:=m9.app.next.app;have Ks:=Kr.next;have MI:At t (k+1+(rowsL (L.map cs)).length+1+(numL a).length+1+(numL b).length+1+(numL c).length+1+(numL d).length) _:=Ks.app.next.app;refine#[λv M'=>v=.int k/\M'=RdM g t k,#[_,aT,_,eg,rfl,rfl],?_];rintro _ _⟨rfl,rfl⟩;k_places;refine#[_,E6.mpr rfl,_,aT,ci,g,t,_,91,_,"[",rfl,rfl,c7,y8,?_];refine#[λv M'=>v=.lst (lstD (L.map cs))/\M'=RdM g t (k+1+(rowsL (L.map cs)).length),#[g,t,_,_,w,_,rfl,rfl,hL,c8,rfl,rfl],?_];rintro _ _⟨rfl,rfl⟩;k_places;refine#[_,E6.mpr rfl,_,aT,ci,g,t,_,59,_,";",rfl,rfl,g6,y8,?_];refine#[λv M'=>v=.tup [.int a,.int b]/\M'=RdM g t (k+1+(rowsL (L.map cs)).length+1+(numL a).length+1+(numL b).length),#[g,t,_,a,b,59,_,rfl,rfl,ha,hb,.inr (.inl rfl),m9,rfl,rfl],?_];rintro _ _⟨rfl,rfl⟩;k_places;refine#[_,E6.mpr rfl,_,aT,ci,g,t,_,59,_,";",rfl,rfl,Kr,y8,?_];refine#[λv M'=>v=.tup [.int c,.int d]/\M'=RdM g t (k+1+(rowsL (L.map cs)).length+1+(numL a).length+1+(numL b).length+1+(numL c).length+1+(numL d).length),#[g,t,_,c,d,93,_,rfl,rfl,hc,hd,.inr (.inr (.inr rfl)),Ks,rfl,rfl],?_];rintro _ _⟨rfl,rfl⟩;k_places;exact#[_,E6.mpr rfl,_,aT,ci,g,t,_,93,_,"]",rfl,rfl,MI,y8,k,_,w,a,b,c,d,rfl,hL,ha,hb,hc,hd,hn,λw h s F=>hR _ #[k,w,h,s,rfl,F]]
abbrev iN(V:Bx):Prop:=V.M 1 "Mirror" mK BI
def DX(T:V.Ti "Mirror" "Mirror.__init__" mJ mK)(uQ:V.a "Mirror" "form"):iN V:=by
 refine Txi.okI T Cq (λds R h=>?_) (λf cdv A outer s H E J hr=>#[_,((bM uQ (aa 1) dm)),λds R h=>?_])
 .obtain⟨_,_,rfl,_⟩:=h;rfl
 .obtain⟨x,fs,rfl,hR⟩:=h;exact#[y8,hR]
abbrev iO(V:Bx):Prop:=V.M 1 "Turn" mM BJ
def DY(T:V.Ti "Turn" "Turn.__init__" mL mM)(uT:V.a "Turn" "form"):iO V:=by
 refine Txi.okI T Cr (λds R h=>?_) (λf cdv A outer s H E J hr=>#[_,((bM uT (aa 1) dm)),λds R h=>?_])
 .obtain⟨_,_,rfl,_⟩:=h;rfl
 .obtain⟨x,fs,rfl,hR⟩:=h;exact#[y8,hR]
abbrev iP(V:Bx):Prop:=V.M 1 "Over" mO BG
def DZ(T:V.Ti "Over" "Over.__init__" mN mO)(uO:V.a "Over" "above")(uR:V.a "Over" "below"):iP V:=by
 refine Txi.okI T Cs (λds R h=>?_) (λf cdv A outer s H E J hr=>#[_,((bM uO (aa 1) (bM uR (aa 2) dm))),λds R h=>?_])
 .obtain⟨_,_,_,_,rfl,_⟩:=h;rfl
 .obtain⟨x,y,fs,gs,rfl,hR⟩:=h;refine#[y8,by show(1:Nat)<1000;decide,?_];show R (putD _ _ (putD _ _ []));rw[putD,putD,if_neg IA];exact hR
abbrev iQ(V:Bx):Prop:=V.M 1 "Shifted" mR BH
def D0(T:V.Ti "Shifted" "Shifted.__init__" mQ mR)(uS:V.a "Shifted" "form")(II:V.a "Shifted" "x")(IJ:V.a "Shifted" "y"):iQ V:=by
 refine Txi.okI T Ct (λds R h=>?_) (λf cdv A outer s H E J hr=>#[_,((bM uS (aa 1) (bM II (aa 2) (bM IJ (aa 3) dm)))),λds R h=>?_])
 .obtain⟨_,_,_,_,rfl,_⟩:=h;rfl
 .obtain⟨x,fs,a,b,rfl,hR⟩:=h;refine#[y8,by show(1:Nat)<1000;decide,by show(2:Nat)<1000;decide,?_];show R (putD _ _ (putD _ _ (putD _ _ [])));rw[show putD ("x":t6) (.int a) (putD ("form":t6) (.obj x fs) [])=([("form",.obj x fs),("x",.int a)]:List (t6×D))by rw[putD,putD,if_neg IA];rfl,putD,if_neg IA,putD,if_neg IA];exact hR
abbrev iR(V:Bx):Prop:=V.M 1 "Rehue" mV BK
def D1(T:V.Ti "Rehue" "Rehue.__init__" mU mV)(uP:V.a "Rehue" "form")(IK:V.a "Rehue" "old")(IL:V.a "Rehue" "new"):iR V:=by
 refine Txi.okI T Cu (λds R h=>?_) (λf cdv A outer s H E J hr=>#[_,((bM uP (aa 1) (bM IK (aa 2) (bM IL (aa 3) dm)))),λds R h=>?_])
 .obtain⟨_,_,_,_,rfl,_⟩:=h;rfl
 .obtain⟨x,fs,a,b,rfl,hR⟩:=h;refine#[y8,by show(1:Nat)<1000;decide,by show(2:Nat)<1000;decide,?_];show R (putD _ _ (putD _ _ (putD _ _ [])));rw[show putD ("old":t6) (.int a) (putD ("form":t6) (.obj x fs) [])=([("form",.obj x fs),("old",.int a)]:List (t6×D))by rw[putD,putD,if_neg IA];rfl,putD,if_neg IA,putD,if_neg IA];exact hR
variable{n j:Nat}
def D2(hL:5<=n)(T:V.T "over_from" gN fB)(uH:V.MM n "form_from" cC (cR j))(Kt:iP V)(uC:cD V):V.MM (n+1) "over_from" fB (tL j):=by
 refine Tx.okM T sc_over_from (λds M R RX h=>?_) (λf cdv A outer s H E J hr hx=>⟨_,((aA (bc 2 sc_over_from.nd (bb (hn:=IU) uH hx hr (aC (ac (aa 0) (ac (aa 1) ae)))))
   (aA (cu (aZ (hn:=IU) (CalMth.one uC) hx hr (aq (aa 0)) (aC (ac ax ae))))
   (aA (bc 3 sc_over_from.nd (bb (hn:=IU) uH hx hr (aC (ac (aa 0) (ac (aa 1) ae)))))
   (aA (cu (aZ (hn:=IU) (CalMth.one uC) hx hr (aq (aa 0)) (aC (ac ax ae))))
   (aF (aL (aq (jK (hn:=IU) Kt hr (ac (aa 2) (ac (aa 3) ae))))))))))),λds M R RX e8 h=>?_⟩)
 .obtain⟨_,_,_,_,_,_,_,rfl,_⟩:=h;rfl
 .obtain⟨a,t,k,p,q,l,d,rfl,rfl,c7,Jp,D_,hp,hq,q_,PQ,hR⟩:=h;have c8:=c7.app;have g6:=c8.next;have m9:=g6.app;refine#[λv M'=>FormOf p v/\M'=RdM a t (k+p.tl.length),#[a,t,k,p,_,d,rfl,rfl,c7,Jp,D_,hp,q_,λv h=>#[h,rfl]],?_];rintro v _⟨hv,rfl⟩;k_places;obtain⟨fs,rfl,_⟩:=hv.objm;refine#[_,E6.mpr rfl,_,aT,ci,a,t,_,124,_,"|",rfl,rfl,c8,y8,?_];refine#[λv M'=>FormOf q v/\M'=RdM a t (k+p.tl.length+1+q.tl.length),#[a,t,_,q,_,d,rfl,rfl,g6,Jp,D_,hq,PQ,λv h=>#[h,rfl]],?_];rintro v _⟨Of,rfl⟩;k_places;obtain⟨gs,rfl,_⟩:=Of.objm;exact#[_,E6.mpr rfl,_,aT,ci,a,t,_,41,_,")",rfl,rfl,m9,y8,_,_,_,_,rfl,hR _ _ hv Of]
def D3(hL:5<=n)(T:V.T "shifted_from" gO fC)(G':fH V)(uH:V.MM n "form_from" cC (cR j))(Ku:iQ V)(uC:cD V):V.MM (n+1) "shifted_from" fC (tM j):=by
 refine Tx.okM T sc_shifted_from (λds M R RX h=>?_) (λf cdv A outer s H E J hr hx=>⟨_,((aA (bc 2 sc_shifted_from.nd (bb (hn:=IU) G' hx hr (aC (ac (aa 0) ae))))
   (aA (cu (aZ (hn:=IU) (CalMth.one uC) hx hr (aq (aa 0)) (aC (ac ax ae))))
   (aF (aL (gA (hn:=IU) Ku hr (aW (bb (hn:=IU) uH hx hr (aC (ac (aa 0) (ac (aa 1) ae)))) (aW (aq (af (aa 2) ad)) (aW (aq (af (aa 2) ad)) bB))))))))),λds M R RX e8 h=>?_⟩)
 .obtain⟨_,_,_,_,_,_,_,_,rfl,_⟩:=h;rfl
 .obtain⟨a,t,k,x,y,p,l,d,rfl,rfl,c7,Jp,D_,gV,hy,hp,q_,hR⟩:=h;have c8:At t (k+(numL x).length+1+(numL y).length) _:=c7.app.next.app;refine#[λv M'=>v=.tup [.int x,.int y]/\M'=RdM a t (k+(numL x).length+1+(numL y).length),#[a,t,_,x,y,58,_,rfl,rfl,gV,hy,.inr (.inr (.inl rfl)),c7,rfl,rfl],?_];rintro _ _⟨rfl,rfl⟩;k_places;refine#[_,E6.mpr rfl,_,aT,ci,a,t,_,58,_,":",rfl,rfl,c8,y8,?_];refine#[a,t,_,p,l,d,rfl,rfl,c8.next,Jp,D_,hp,q_,λv h=>?_];obtain⟨fs,rfl,_⟩:=h.objm;exact#[_,rfl,_,rfl,_,_,_,_,rfl,hR _ h]
def D4(hL:5<=n)(T:V.T "rehue_from" gP fD)(uD:V.m "int")(uH:V.MM n "form_from" cC (cR j))(Kv:iR V)(uC:cD V):V.MM (n+1) "rehue_from" fD (tN j):=by
 refine Tx.okM T sc_rehue_from (λds M R RX h=>?_) (λf cdv A outer s H E J hr hx=>⟨_,((aA (bc 2 sc_rehue_from.nd (se uD (aW (aZ (hn:=IU) (CalMth.one uC) hx hr (aq (aa 0)) (aC (ac ax ae))) bB)))
   (aA (bc 3 sc_rehue_from.nd (se uD (aW (aZ (hn:=IU) (CalMth.one uC) hx hr (aq (aa 0)) (aC (ac ax ae))) bB)))
   (aF (aL (gA (hn:=IU) Kv hr (aW (bb (hn:=IU) uH hx hr (aC (ac (aa 0) (ac (aa 1) ae)))) (aW (aq (aa 2)) (aW (aq (aa 3)) bB))))))))),λds M R RX e8 h=>?_⟩)
 .obtain⟨_,_,_,_,_,_,_,_,rfl,_⟩:=h;rfl
 .obtain⟨a,t,k,f,g,p,l,d,rfl,rfl,c7,Jp,D_,hf,hg,hp,q_,hR⟩:=h;have Og:∀{f:Int},1<=f/\f<=6->PySem.intText? (#[[(48+f).toNat].toArray]:t6)=be f:=λ{f} h=>by
   have:=digit_of (c:=(48+f).toNat) t8;rw[show(((48+f).toNat:Nat):Int)-48=f by lia]at this;exact this
  refine#[λv M'=>v=.int f/\M'=RdM a t (k+1),#[_,E6.mpr rfl,_,aT,ci,a,t,_,_,_,"123456",rfl,rfl,c7,tK hf,_,#[Og hf,by show(1:Nat)<=640;decide],rfl,rfl],?_];rintro _ _⟨rfl,rfl⟩;k_places;refine#[λv M'=>v=.int g/\M'=RdM a t (k+2),#[_,E6.mpr rfl,_,aT,ci,a,t,_,_,_,"123456",rfl,rfl,c7.next,tK hg,_,#[Og hg,by show(1:Nat)<=640;decide],rfl,rfl],?_];rintro _ _⟨rfl,rfl⟩;k_places;refine#[a,t,_,p,l,d,rfl,rfl,c7.next.next,Jp,D_,hp,q_,λv h=>?_];obtain⟨fs,rfl,_⟩:=h.objm;exact#[_,_,_,_,rfl,hR _ h]
def D5(hL:5<=n)(T:V.T "form_from" gQ cC)(PR:V.MM n "over_from" fB (tL j))(PU:V.MM n "shifted_from" fC (tM j))(uH:V.MM n "form_from" cC (cR j))(PV:V.MM n "rehue_from" fD (tN j))(Kw:iM V)(Kx:V.gi "DEEP" 5)(Ky:iN V)(Kz:iO V)(uG:cT V):V.MM (n+1) "form_from" cC (cR (j+1)):=by
 refine Tx.okM T sc_form_from (λds M R RX h=>?_) (λf cdv A outer s H E J hr hx=>⟨_,((aA (bc 2 sc_form_from.nd (fq (cb (fj (aa 1) (dS Kx))) (aZ (hn:=IU) (CalMth.one uG) hx hr (aq (aa 0)) (aC (ac ax ae))) (aq ax)))
   (aA (ce (cb (aV (aa 2) ax)) (aF (aL (bb (hn:=IU) PR hx hr (aC (ac (aa 0) (ac (am (aa 1) ad) ae)))))) bZ)
   (aA (ce (cb (aV (aa 2) ax)) (aF (aL (bb (hn:=IU) PU hx hr (aC (ac (aa 0) (ac (am (aa 1) ad) ae)))))) bZ)
   (aA (ce (cb (aV (aa 2) ax)) (aF (aL (gA (hn:=IU) Ky hr (aW (bb (hn:=IU) uH hx hr (aC (ac (aa 0) (ac (am (aa 1) ad) ae)))) bB)))) bZ)
   (aA (ce (cb (aV (aa 2) ax)) (aF (aL (gA (hn:=IU) Kz hr (aW (bb (hn:=IU) uH hx hr (aC (ac (aa 0) (ac (am (aa 1) ad) ae)))) bB)))) bZ)
   (aA (ce (cb (aV (aa 2) ax)) (aF (aL (bb (hn:=IU) PV hx hr (aC (ac (aa 0) (ac (am (aa 1) ad) ae)))))) bZ)
   (aF (aL (bb (hn:=IU) Kw hx hr (aC (ac (aa 0) ae)))))))))))),λds M R RX e8 h=>?_⟩)
 .obtain⟨_,_,_,_,_,_,rfl,_⟩:=h;rfl
 .obtain⟨a,t,k,p,l,d,rfl,rfl,c7,Jp,D_,hp,q_,hR⟩:=h;refine#[λv M'=>v=.str (mayS "(smth" (p.tl++l))/\M'=RdM a t (k+mayN "(smth" (p.tl++l)),?_,?_]
  .show if decide ((d:Int)<5)=true then _ else _
   refine ite2 (λc=>?_) (λc=>?_)
   .exact#[_,E6.mpr rfl,_,aT,cQ,a,t,_,_,"(smth",rfl,rfl,c7,rfl,rfl]
   .have c':¬((d:Int)<5):=λz=>c (decide_eq_true z);cases p with
    |mot L a b c d=>exact#[rfl,rfl]
    |_=>rw[Pat.depth]at q_;lia
  rintro _ _⟨rfl,rfl⟩;k_places;cases p with
  |mot L x y u v=>exact#[a,t,k,L,x,y,u,v,l,rfl,rfl,c7,hp,hR]
  |over p q=>
   rw[Pat.depth]at q_;have e:k+(Pat.over p q).tl.length=k+1+p.tl.length+1+q.tl.length+1:=by rw[Pat.tl];simp;lia
   have c8:At t (k+1) (p.tl++124::(q.tl++41::l)):=by have:=c7.next;simpa using this
   rw[e]at hR;exact#[a,t,k+1,p,q,l,d+1,rfl,rfl,c8,t8,t8,hp.1,hp.2,t8,t8,λu u' h1 h2=>hR _ #[u,u',rfl,h1,h2]]
  |sh x y p=>
   rw[Pat.depth]at q_;have e:k+(Pat.sh x y p).tl.length=k+1+(numL x).length+1+(numL y).length+1+p.tl.length:=by rw[Pat.tl];simp;lia
   have c8:At t (k+1) (numL x++44::(numL y++58::(p.tl++l))):=by have:=c7.next;simpa using this
   rw[e]at hR;exact#[a,t,k+1,x,y,p,l,d+1,rfl,rfl,c8,t8,t8,hp.1,hp.2.1,hp.2.2,t8,λu h1=>hR _ #[u,rfl,h1]]
  |mir p=>
   rw[Pat.depth]at q_;have e:k+(Pat.mir p).tl.length=k+1+p.tl.length:=by rw[Pat.tl];simp;lia
   rw[e]at hR;refine#[a,t,k+1,p,l,d+1,rfl,rfl,c7.next,t8,t8,hp,t8,λu h1=>?_];obtain⟨fs,rfl,_⟩:=h1.objm;exact#[_,_,rfl,hR _ #[_,rfl,h1]]
  |tur p=>
   rw[Pat.depth]at q_;have e:k+(Pat.tur p).tl.length=k+1+p.tl.length:=by rw[Pat.tl];simp;lia
   rw[e]at hR;refine#[a,t,k+1,p,l,d+1,rfl,rfl,c7.next,t8,t8,hp,t8,λu h1=>?_];obtain⟨fs,rfl,_⟩:=h1.objm;exact#[_,_,rfl,hR _ #[_,rfl,h1]]
  |hue f g p=>
   rw[Pat.depth]at q_;have e:k+(Pat.hue f g p).tl.length=k+1+2+p.tl.length:=by rw[Pat.tl,hueL hp.1,hueL hp.2.1];simp;lia
   have c8:At t (k+1) ((48+f).toNat::(48+g).toNat::(p.tl++l)):=by
    have:=c7.next;rw[hueL hp.1,hueL hp.2.1]at this;simpa using this
   rw[e]at hR;exact#[a,t,k+1,f,g,p,l,d+1,rfl,rfl,c8,t8,t8,hp.1,hp.2.1,hp.2.2,t8,λu h1=>hR _ #[u,rfl,h1]]
def D6(PX:V.T "over_from" gN fB)(PY:V.T "shifted_from" gO fC)(PZ:V.T "rehue_from" gP fD)(Oh:V.T "form_from" gQ cC)(Kt:iP V)(uC:cD V)(G':fH V)(Ku:iQ V)(uD:V.m "int")(Kv:iR V)(Kw:iM V)(Kx:V.gi "DEEP" 5)(Ky:iN V)(Kz:iO V)(uG:cT V):∀j,V.MM (5+2*j) "form_from" cC (cR j):=by
 intro j;induction j with
 |zero=>exact CalMM.never Oh (λds M R RX=>BN)
 |succ j ih=>
  have KA:=ih;have MJ:=D2 (n:=5+2*j) (j:=j) IU PX KA Kt uC;have MK:=D3 (n:=5+2*j) (j:=j) IU PY G' KA Ku uC;have ML:=D4 (n:=5+2*j) (j:=j) IU PZ uD KA Kv uC;have KA:=Cal.mono ih (Gf _);exact D5 (n:=5+2*j+1) (j:=j) IU Oh MJ MK KA ML Kw Kx Ky Kz uG
abbrev oY(V:Bx):Prop:=V.M 1 "Reading" mY Bn
def D7(T:V.Ti "Reading" "Reading.__init__" mW mY)(IG:V.a "Reading" "text")(uL:V.a "Reading" "place"):oY V:=by
 refine Txi.okI T Cw (λds R h=>?_) (λf cdv A outer s H E J hr=>#[_,((bM IG (aa 1) (bM uL ad dm))),λds R h=>?_])
 .obtain⟨_,rfl,_⟩:=h;rfl
 .obtain⟨t,rfl,hR⟩:=h;refine#[y8,by show(1:Nat)<1000;decide,?_];show R (putD _ _ (putD _ _ []));rw[putD,putD,if_neg IA];exact hR
abbrev oZ(V:Bx):Prop:=V.M 1 "Pattern" ng BS
def D8(T:V.Ti "Pattern" "Pattern.__init__" mZ ng)(MN:V.a "Pattern" "text")(uZ:V.a "Pattern" "shifts")(JM:V.a "Pattern" "form"):oZ V:=by
 refine Txi.okI T Cy (λds R h=>?_) (λf cdv A outer s H E J hr=>#[_,((bM MN (aa 1) (bM uZ (aa 2) (bM JM (aa 3) dm)))),λds R h=>?_])
 .obtain⟨_,_,_,_,_,_,rfl,_⟩:=h;rfl
 .obtain⟨t,w,h,s,x,fs,rfl,hR⟩:=h;refine#[y8,by show(1:Nat)<1000;decide,by show(2:Nat)<1000;decide,?_];show R (putD _ _ (putD _ _ (putD _ _ [])));rw[show putD ("shifts":t6) (.tup [.int w,.int h,.int s]) (putD ("text":t6) (.str t) [])=([("text",.str t),("shifts",.tup [.int w,.int h,.int s])]:List (t6×D))by rw[putD,putD,if_neg IA];rfl,putD,if_neg IA,putD,if_neg IA];exact hR
abbrev pd(V:Bx):Prop:=V.D 2 "measure" nj AH
def D9(T:V.T "measure" nh nj)(JK:iK V):pd V:=by
 refine Tx.okDW T sc_measure (λds R h=>?_) (λf cdv A outer s H E J hr=>⟨_,((ag (ai 2 sc_measure.nd (af (ao JK hr (ac (au (ac ad (ac (aa 0) ae))) (ac (au (ac ad (ac (aa 1) ae))) ae))) ad))
   (aj (ar (au (ac (af (aa 2) ad) (ac (af (aa 2) ad) ae))))))),λds R h=>?_⟩)
 .obtain⟨x,y,rfl,_⟩:=h;rfl
 .obtain⟨x,y,rfl,hx,hy,hR⟩:=h;refine#[λd=>∃p0 p1:Int,d=.tup [.int p0,.int p1]/\Meas x y p1 p0,#[IV,IV,1,x,0,y,rfl,hx,hy,λp0 p1 q0 hL=>#[_,rfl,p0,p1,rfl,sI #[hL.1,hL.2]]],?_];rintro _⟨p0,p1,rfl,hM⟩;k_places;exact#[_,rfl,_,rfl,IV,hR p1 p0 hM]
abbrev fJ(V:Bx):Prop:=V.D 3 "met" nt AI
def Ea(T:V.T "met" nq nt)(KC:pd V):fJ V:=by
 refine Tx.okDW T sc_met (λds R h=>?_) (λf cdv A outer s H E J hr=>⟨_,((ag (ai 2 sc_met.nd (ao KC hr (ac (af (aa 0) ad) (ac (af (aa 1) ad) ae))))
   (ag (ai 3 sc_met.nd (aI (aw (af (aa 0) ad) (af (aa 1) ad)) (af (aa 2) ad)))
   (ag (ai 4 sc_met.nd (aI (aw (af (aa 0) ad) (af (aa 1) ad)) (af (ao KC hr (ac (af (aa 0) ad) (ac (af (aa 1) ad) ae))) ad)))
   (ag (ai 5 sc_met.nd (aw (aI (aa 4) (af (aa 0) ad)) (af (aa 0) ad)))
   (ag (ai 6 sc_met.nd (bn (aw (aI (aa 4) (af (aa 1) ad)) (af (aa 1) ad)) (aa 5)))
   (ag (ai 7 sc_met.nd (aI (af (aa 2) ad) (af (ao KC hr (ac (af (aa 2) ad) (ac (aa 6) ae))) ad)))
   (ag (ai 8 sc_met.nd (aw (aI (aw (aa 7) (aa 6)) (af (aa 2) ad)) (af (aa 2) ad)))
   (aj (ar (au (ac (aa 3) (ac (aw (aa 4) (aa 7)) (ac (av (am (aw (aa 7) (aa 5)) (aw (aa 8) (af (aa 0) ad))) (aa 3)) ae)))))))))))))),λds R h=>?_⟩)
 .obtain⟨_,_,_,_,_,_,rfl,_⟩:=h;rfl
 .obtain⟨w1,h1,s1,w2,h2,s2,rfl,a1,a2,a3,a4,a5,a6,b1,b2,b3,b4,b5,b6,hR⟩:=h;refine#[λd=>∃g u:Int,d=.tup [.int g,.int u]/\Meas w1 w2 g u,#[_,rfl,_,rfl,w1,w2,rfl,IU,IU,λg u M=>#[g,u,rfl,M]],?_];rintro _⟨g,u,rfl,M1⟩;k_places;have hg:=M1.pos a1;have Mj:=M1.le a1;refine#[λd=>d=.int (w1*w2/g),#[_,rfl,_,rfl,.inl (b64B a1 a2),_,rfl,d30B hg (G2 Mj a2),rfl],?_];rintro _ rfl;k_places;refine#[λd=>∃k u':Int,d=.int (h1*h2/k)/\Meas h1 h2 k u',#[_,rfl,_,rfl,.inl (b64B a3 a4),_,rfl,_,rfl,h1,h2,rfl,IU,IU,λk u' M=>#[_,rfl,d30B (M.pos a3) (G2 (M.le a3) a4),k,u',rfl,M]],?_];rintro _⟨k,u',rfl,M2⟩;k_places;obtain⟨r0,r1,r2,r3,r4,r5⟩:=jX a3 b3 M2;have P0:h1*h2<=1125899906842624:=by
   have:=bO (a:=h1) (d:=h2) (A:=33554432) (B:=33554432) IU IU;omega
  refine#[λd=>d=.int (h1*h2/k/h1*s1),#[_,rfl,d30B a3 a4,_,rfl,.inr (s64B a5 a6 a2),rfl],?_];rintro _ rfl;k_places;refine#[λd=>d=.int (h1*h2/k/h2*s2-h1*h2/k/h1*s1),#[_,rfl,d30B b3 b4,_,rfl,.inr (s64B b5 b6 b2),rfl],?_];rintro _ rfl;k_places;have t1:=bO (a:=h1*h2/k/h1) (d:=s1) (A:=33554432) (B:=33554432) IU IU;have t2:=bO (a:=h1*h2/k/h2) (d:=s2) (A:=33554432) (B:=33554432) IU IU;refine#[λd=>∃gg p_:Int,d=.int (g/gg)/\Meas g (h1*h2/k/h2*s2-h1*h2/k/h1*s1) gg p_,#[_,rfl,_,rfl,g,_,rfl,IU,IU,λgg p_ M=>#[_,rfl,d30B (M.pos hg) (G2 (M.le hg) (G2 Mj a2)),gg,p_,rfl,M]],?_];rintro _⟨gg,p_,rfl,M3⟩;k_places;have D':=M3.pos hg;have c1:0<=g/gg:=Iu IU IU;have c2:g/gg<=g:=Int.ediv_le_self _ IU;have c4:=As (c:=g/gg) (gap:=h1*h2/k/h2*s2-h1*h2/k/h1*s1) (N:=2251799813685248) hg c1 c2 IU;have mr:=jW a1 b1 a3 b3 M1 M2 M3;refine#[λd=>d=.int (g/gg*(h1*h2/k/h2*s2-h1*h2/k/h1*s1)/g*u),#[.inl #[IU,IU],_,rfl,#[IU,IU],_,rfl,.inl #[IU,IU],rfl],?_];rintro _ rfl;k_places;obtain⟨w0,w3,_⟩:=jX a1 b1 M1;have P1:w1*w2<=1125899906842624:=by
   have:=bO (a:=w1) (d:=w2) (A:=33554432) (B:=33554432) IU IU;omega
  have NT:=bO (a:=h1*h2/k) (d:=g/gg) (A:=1125899906842624) (B:=33554432) IU IU;exact#[.inl #[IU,IU],.inl #[IU,IU],_,rfl,.inr #[IU,IU],w0,IV,hR _ _ _ _ mr]
abbrev iS(V:Bx):Prop:=V.D 1 "mirrored" nv AF
def Eb(T:V.T "mirrored" nu nv):iS V:=by
 refine Tx.okDW T Cz (λds R h=>?_) (λf cdv A outer s H E J hr=>#[_,((aj (ar (au (ac (af (aa 0) ad) (ac (af (aa 0) ad) (ac (av (bY (af (aa 0) ad)) (af (aa 0) ad)) ae))))))),λds R h=>?_])
 .obtain⟨w,h,s,rfl,_⟩:=h;rfl
 .obtain⟨w,h,s,rfl,hw,hR⟩:=h;exact#[_,rfl,_,rfl,_,rfl,_,rfl,hw,IV,hR]
abbrev iT(V:Bx):Prop:=V.D 3 "turned" ny AG
def Ec(T:V.T "turned" nw ny)(JL:iL V):iT V:=by
 refine Tx.okDW T CA (λds R h=>?_) (λf cdv A outer s H E J hr=>#[_,((aj (ar (ao JL hr (ac (au (ac ad (ac (af (aa 0) ad) ae))) (ac (au (ac (bY (af (aa 0) ad)) (ac (af (aa 0) ad) ae))) ae)))))),λds R h=>?_])
 .obtain⟨w,h,s,rfl,_⟩:=h;rfl
 .obtain⟨w,h,s,rfl,hw,hh,Ki,x8,hs,j3,hR⟩:=h;have hp:0<w*h:=Fl hw hh;have hn:¬0*s=w* -h:=by rw[FZ];lia
  exact#[_,rfl,IV,_,rfl,_,rfl,IV,0,w,-h,s,rfl,t8,t8,t8,t8,λe=>absurd e hn,λ_ w' h' s' f=>hR w' h' s' f]
def ok_Motif_family(hL:3<=n)(T:V.Tm "Motif" "family" "Motif.family" gR cv)(uK:V.a "Motif" "shifts"):V.Q (n+1) "Motif" "family" cv (ofX (bV (j+1) "Motif")):=by
 refine Txm.okM T CB (λds M R RX h=>?_) (λf cdv A outer s H E J hr hx=>⟨_,((aA (ce (rY (aN uK (aq (aa 0))) (aq bq)) (aF gH) bZ)
   (aF (aL (aN uK (aq (aa 0))))))),λds M R RX e8 h=>?_⟩)
 .obtain⟨_,_,rfl,_⟩:=h;rfl
 .obtain⟨p,v,rfl,hv,hp,hd,hc,hf,hR⟩:=h;cases p<;>simp only[Pat.cls]at hc<;>try exact absurd hc IA
  obtain⟨k,w,h,s,rfl,F⟩:=hv;exact#[_,#[rfl,rfl],_,mo_shifts,_,#[rfl,rfl],_,mo_shifts,hR w h s (Pat.Fam.mot F)]
def Ed(hL:3<=n)(T:V.Tm "Over" "family" "Over.family" gS gT)(IM:fJ V)(uO:V.a "Over" "above")(uR:V.a "Over" "below")(uF:∀x,x∈(["Motif","Over","Shifted","Mirror","Turn","Rehue"]:List t6)->V.Q n x "family" cv (ofX (bV j x))):V.Q (n+1) "Over" "family" gT (ofX (bV (j+1) "Over")):=by
 refine Txm.okM T sc_Over_family (λds M R RX h=>?_) (λf cdv A outer s H E J hr hx=>⟨_,((aA (bc 1 sc_Over_family.nd (dz (hn:=IU) uF hx hr (aN uO (aq (aa 0)))))
   (aF (aL (bb (hn:=IU) (CalD.toM IM) hx hr (aW (aq (aa 1)) (aW (dz (hn:=IU) uF hx hr (aN uR (aq (aa 0)))) bB))))))),λds M R RX e8 h=>?_⟩)
 .obtain⟨_,_,rfl,_⟩:=h;rfl
 .obtain⟨p,v,rfl,hv,hp,hd,hc,hf,hR⟩:=h;cases p<;>simp only[Pat.cls]at hc<;>try exact absurd hc IA
  rename_i p q;obtain⟨u,u',rfl,hu,KD⟩:=hv;obtain⟨fs,rfl,o1⟩:=hu.objm;obtain⟨gs,rfl,o2⟩:=KD.objm;obtain⟨f1,f2⟩:=Pat.Fits.over_parts hp.1 hp.2 hf;rw[Pat.depth]at hd;refine#[λd M'=>(∃w h s,p.Fam w h s/\d=.tup [.int w,.int h,.int s])/\M'=M,#[_,#[rfl,rfl],_,rfl,p.cls,p.cls_mem,fs,#[rfl,rfl],o1.fam,p,_,rfl,hu,hp.1,t8,rfl,f1,λw h s F=>#[#[w,h,s,F,rfl],rfl]],?_];rintro _ _⟨⟨w1,h1,s1,F1,rfl⟩,rfl⟩;k_places;refine#[_,#[rfl,rfl],_,eF IA,q.cls,q.cls_mem,gs,#[rfl,rfl],o2.fam,q,_,rfl,KD,hp.2,t8,rfl,f2,λw2 h2 s2 F2=>?_];obtain⟨a1,a2,a3,a4,a5,a6⟩:=f1.small F1;obtain⟨b1,b2,b3,b4,b5,b6⟩:=f2.small F2;exact#[w1,h1,s1,w2,h2,s2,rfl,a1,t8,a3,t8,a5,a6,b1,t8,b3,t8,b5,b6,λw h s A MR=>hR w h s (Pat.Fam.over F1 F2 MR)]
def Ee(hL:3<=n)(T:V.Tm "Shifted" "family" "Shifted.family" gU gW)(uS:V.a "Shifted" "form")(uF:∀x,x∈(["Motif","Over","Shifted","Mirror","Turn","Rehue"]:List t6)->V.Q n x "family" cv (ofX (bV j x))):V.Q (n+1) "Shifted" "family" gW (ofX (bV (j+1) "Shifted")):=by
 refine Txm.okM T CC (λds M R RX h=>?_) (λf cdv A outer s H E J hr hx=>#[_,((aF (aL (dz (hn:=IU) uF hx hr (aN uS (aq (aa 0))))))),λds M R RX e8 h=>?_])
 .obtain⟨_,_,rfl,_⟩:=h;rfl
 .obtain⟨p,v,rfl,hv,hp,hd,hc,hf,hR⟩:=h;cases p<;>simp only[Pat.cls]at hc<;>try exact absurd hc IA
  rename_i a b p;obtain⟨u,rfl,hu⟩:=hv;obtain⟨fs,rfl,o1⟩:=hu.objm;rw[Pat.depth]at hd;refine#[_,#[rfl,rfl],_,rfl,p.cls,p.cls_mem,fs,#[rfl,rfl],o1.fam,p,_,rfl,hu,hp.2.2,t8,rfl,hf.of_sh,λw h s F=>?_];exact hR w h s (F.sh a b)
def Ef(hL:3<=n)(T:V.Tm "Mirror" "family" "Mirror.family" gX gY)(KE:iS V)(uQ:V.a "Mirror" "form")(uF:∀x,x∈(["Motif","Over","Shifted","Mirror","Turn","Rehue"]:List t6)->V.Q n x "family" cv (ofX (bV j x))):V.Q (n+1) "Mirror" "family" gY (ofX (bV (j+1) "Mirror")):=by
 refine Txm.okM T CD (λds M R RX h=>?_) (λf cdv A outer s H E J hr hx=>#[_,((aF (aL (bb (hn:=IU) (CalD.toM KE) hx hr (aW (dz (hn:=IU) uF hx hr (aN uQ (aq (aa 0)))) bB))))),λds M R RX e8 h=>?_])
 .obtain⟨_,_,rfl,_⟩:=h;rfl
 .obtain⟨p,v,rfl,hv,hp,hd,hc,hf,hR⟩:=h;cases p<;>simp only[Pat.cls]at hc<;>try exact absurd hc IA
  rename_i p;obtain⟨u,rfl,hu⟩:=hv;obtain⟨fs,rfl,o1⟩:=hu.objm;rw[Pat.depth]at hd;refine#[_,#[rfl,rfl],_,rfl,p.cls,p.cls_mem,fs,#[rfl,rfl],o1.fam,p,_,rfl,hu,hp,t8,rfl,Pat.Fits.of_mir (p:=p) hp hf,λw h s F=>?_];exact#[w,h,s,rfl,F.f.w0,hR w h _ F.mir]
def Eg(hL:3<=n)(T:V.Tm "Turn" "family" "Turn.family" gZ hU)(KG:iT V)(uT:V.a "Turn" "form")(uF:∀x,x∈(["Motif","Over","Shifted","Mirror","Turn","Rehue"]:List t6)->V.Q n x "family" cv (ofX (bV j x))):V.Q (n+1) "Turn" "family" hU (ofX (bV (j+1) "Turn")):=by
 refine Txm.okM T CF (λds M R RX h=>?_) (λf cdv A outer s H E J hr hx=>#[_,((aF (aL (bb (hn:=IU) (CalD.toM KG) hx hr (aW (dz (hn:=IU) uF hx hr (aN uT (aq (aa 0)))) bB))))),λds M R RX e8 h=>?_])
 .obtain⟨_,_,rfl,_⟩:=h;rfl
 .obtain⟨p,v,rfl,hv,hp,hd,hc,hf,hR⟩:=h;cases p<;>simp only[Pat.cls]at hc<;>try exact absurd hc IA
  rename_i p;obtain⟨u,rfl,hu⟩:=hv;obtain⟨fs,rfl,o1⟩:=hu.objm;rw[Pat.depth]at hd;refine#[_,#[rfl,rfl],_,rfl,p.cls,p.cls_mem,fs,#[rfl,rfl],o1.fam,p,_,rfl,hu,hp,t8,rfl,Pat.Fits.of_tur (p:=p) hp hf,λw h s F=>?_];obtain⟨a1,a2,a3,a4,a5,a6⟩:=(Pat.Fits.of_tur (p:=p) hp hf).small F;exact#[w,h,s,rfl,a1,a3,t8,t8,a5,t8,λw' h' s' F'=>hR w' h' s' (F.tur F')]
def Eh(hL:3<=n)(T:V.Tm "Rehue" "family" "Rehue.family" hV hZ)(uP:V.a "Rehue" "form")(uF:∀x,x∈(["Motif","Over","Shifted","Mirror","Turn","Rehue"]:List t6)->V.Q n x "family" cv (ofX (bV j x))):V.Q (n+1) "Rehue" "family" hZ (ofX (bV (j+1) "Rehue")):=by
 refine Txm.okM T CG (λds M R RX h=>?_) (λf cdv A outer s H E J hr hx=>#[_,((aF (aL (dz (hn:=IU) uF hx hr (aN uP (aq (aa 0))))))),λds M R RX e8 h=>?_])
 .obtain⟨_,_,rfl,_⟩:=h;rfl
 .obtain⟨p,v,rfl,hv,hp,hd,hc,hf,hR⟩:=h;cases p<;>simp only[Pat.cls]at hc<;>try exact absurd hc IA
  rename_i f g p;obtain⟨u,rfl,hu⟩:=hv;obtain⟨fs,rfl,o1⟩:=hu.objm;rw[Pat.depth]at hd;refine#[_,#[rfl,rfl],_,rfl,p.cls,p.cls_mem,fs,#[rfl,rfl],o1.fam,p,_,rfl,hu,hp.2.2,t8,rfl,hf.of_hue,λw h s F=>?_];exact hR w h s (F.hue f g)
def Ei(Oi:V.Tm "Motif" "family" "Motif.family" gR cv)(Oj:V.Tm "Over" "family" "Over.family" gS gT)(Ol:V.Tm "Shifted" "family" "Shifted.family" gU gW)(Om:V.Tm "Mirror" "family" "Mirror.family" gX gY)(On:V.Tm "Turn" "family" "Turn.family" gZ hU)(Oo:V.Tm "Rehue" "family" "Rehue.family" hV hZ)(uK:V.a "Motif" "shifts")(IM:fJ V)(uO:V.a "Over" "above")(uR:V.a "Over" "below")(uS:V.a "Shifted" "form")(KE:iS V)(uQ:V.a "Mirror" "form")(KG:iT V)(uT:V.a "Turn" "form")(uP:V.a "Rehue" "form"):∀j x,x∈(["Motif","Over","Shifted","Mirror","Turn","Rehue"]:List t6)->V.Q (3+j) x "family" cv (ofX (bV j x)):=by
 intro j;induction j with
 |zero=>
  intro x hx;simp only[E8,F4,or_false]at hx;rcases hx with rfl|rfl|rfl|rfl|rfl|rfl
  .exact CalMth.never Oi (λds M R RX=>eI)
  .exact CalMth.never Oj (λds M R RX=>eI)
  .exact CalMth.never Ol (λds M R RX=>eI)
  .exact CalMth.never Om (λds M R RX=>eI)
  .exact CalMth.never On (λds M R RX=>eI)
  .exact CalMth.never Oo (λds M R RX=>eI)
 |succ j KH=>
  intro x hx;simp only[E8,F4,or_false]at hx;rcases hx with rfl|rfl|rfl|rfl|rfl|rfl
  .exact ok_Motif_family (n:=3+j) (j:=j) IU Oi uK
  .exact Ed (n:=3+j) (j:=j) IU Oj IM uO uR KH
  .exact Ee (n:=3+j) (j:=j) IU Ol uS KH
  .exact Ef (n:=3+j) (j:=j) IU Om KE uQ KH
  .exact Eg (n:=3+j) (j:=j) IU On KG uT KH
  .exact Eh (n:=3+j) (j:=j) IU Oo uP KH
abbrev ul(V:Bx):Prop:=V.MM 17 "form_from" cC (cR 6)
abbrev um(V:Bx):Prop:=∀x,x∈(["Motif","Over","Shifted","Mirror","Turn","Rehue"]:List t6)->V.Q 9 x "family" cv (ofX (bV 6 x))
abbrev pe(V:Bx):Prop:=V.X 18 "read" nA tT
def Ej(T:V.T "read" nz nA)(uB:V.m "len")(uH:ul V)(JN:V.gi "MOST" 720)(uL:V.a "Reading" "place")(MP:oY V)(MQ:oZ V)(uF:um V):pe V:=by
 refine CalMM.nilX (Tx.okM T sc_read (λds M R RX h=>?_) (λf cdv A outer s H E J hr hx=>⟨_,((aA (bc 1 sc_read.nd (zv MP hr (aC (ac (aa 0) ae))))
   (aA (bc 2 sc_read.nd (bb uH hx hr (aC (ac (aa 1) (ac ad ae)))))
   (aA (ce (rX (aN uL (aq (aa 1))) (aq (ck uB (ac (aa 0) ae)))) (aF gH) bZ)
   (aA (bc 3 sc_read.nd (dz uF hx hr (aq (aa 2))))
   (aA (ce (cb (fk (aw (af (aa 3) ad) (af (aa 3) ad)) (dS JN))) (aF gH) bZ)
   (aF (aL (aq (jK MQ hr (ac (aa 0) (ac (aa 3) (ac (aa 2) ae))))))))))))),λds M R RX e8 h=>?_⟩))
 .obtain⟨_,R0,Jy,⟨_,rfl,_⟩,_⟩:=h;rfl
 .obtain⟨rfl,R0,Jy,⟨p,rfl,ok,hG⟩,hR,hX⟩:=h;have a_:=Pat.text_short ok.wf ok.deep;have c7:At p.text 0 (p.tl++[]):=#[by rw[FN];exact cf p,FB _,t8];have P2:=ok.deep;have hl:p.text.length=p.tl.length:=by rw[<-bj,cf]
  refine#[λd M'=>∃a,d=.ptr a/\M'=RdM a p.text 0,#[_,rfl,λa _=>#[a,rfl,rfl]],?_];rintro _ _⟨a,rfl,rfl⟩;k_places;refine#[λv M'=>FormOf p v/\M'=RdM a p.text p.tl.length,#[a,p.text,0,p,[],0,rfl,rfl,c7,rfl,y8,ok.wf,t8,λv h=>#[h,by rw[Ij]]],?_];rintro v _⟨hv,rfl⟩;k_places;refine#[_,aT,_,eg,t8,ite2 (λc=>absurd (of_decide_eq_true c) t8) (λ_=>?_)];obtain⟨fs,rfl,o1⟩:=hv.objm;refine#[λd M'=>∃w h s,p.Fam w h s/\d=.tup [.int w,.int h,.int s],#[p.cls,p.cls_mem,fs,#[rfl,rfl],o1.fam,p,_,rfl,hv,ok.wf,t8,rfl,ok.fits,λw h s F=>#[w,h,s,F,rfl]],?_];rintro _ M'⟨w,h,s,F,rfl⟩;k_places;have a1:=ok.fits.small F;obtain⟨w',h',s',F',hb⟩:=ok.fits;obtain⟨rfl,rfl,_⟩:=F.uniq F';refine#[_,rfl,_,rfl,.inl #[t8,t8],ite2 (λc=>absurd (of_decide_eq_true c) t8) (λ_=>?_)];exact#[_,_,_,_,_,_,rfl,hR _ _ (hG _ #[_,_,s,_,rfl,rfl,eF IA,#[F,#[_,ki IA IA,hv],by simp[noLF,noL,noLs,o1.nl]]])]
abbrev iU(V:Bx):Prop:=V.D 1 "_law_whole" nC Ay
def El(T:V.T "_law_whole" nB nC)(uM:V.m "isinstance")(JO:V.m "bool")(uD:V.m "int"):iU V:=by
 refine Tx.okDW T CH (λds R h=>?_) (λf cdv A outer s H E J hr=>#[_,((aj (ar (gb (de uM uD (aa 0) PyProof.Rows.boot_int xW) (fZ (xS (de uM JO (aa 0) PyProof.Rows.boot_bool kit_bool))))))),λds R h=>?_])
 .obtain⟨i,rfl,_⟩:=h;rfl
 .obtain⟨i,rfl,hR⟩:=h;exact hR
def Em:SpD:=λds R=>∃(p q:Pat) (w h s w' h' s':Int),ds=[cj p w h s,cj q w' h' s']/\p.Ok/\q.Ok/\p.Least w h s/\q.Least w' h' s'/\∀b:Bool,(b=true↔∀x y,p.show x y=q.show x y)->R (.bl b)
abbrev pf(V:Bx):Prop:=V.D 2 "_law_equal" nE Em
def En(T:V.T "_law_equal" nD nE)(uM:V.m "isinstance")(x_:V.m "tuple")(uB:V.m "len")(uI:V.m "str")(JP:iU V):pf V:=by
 refine Tx.okDW T sc__law_equal (λds R h=>?_) (λf cdv A outer s H E J hr=>⟨_,((ag (fo 2 PassesOwn.never rfl sc__law_equal.nd (aH (ac (aa 0) (ac (aa 1) ae))) (ag (aJ (cF (cE (cx (bD (de uM x_ (aa 2) PyProof.Rows.boot_tuple kit_tuple))) (cE (bK (ck uB (ac (aa 2) ae)) ad) (dM (cx (bD (de uM x_ (af (aa 2) ad) PyProof.Rows.boot_tuple kit_tuple))))))) (aj (ar bq)) aE)
    (ag (rb 3 PassesOwn.never rfl sc__law_equal.nd (cq (aa 2) cm (cn ad)) (aj (aJ (cx (bD (ao JP hr (ac (aa 3) ae)))) (aj (ar bq)) aE)))
    (aj (rb 4 PassesOwn.never rfl sc__law_equal.nd (af (aa 2) ad) (aj (aJ (cx (bD (de uM uI (aa 4) PyProof.Rows.boot_str kit_str))) (aj (ar bq)) aE)))))))
   (aj (ar (gC (dJ hr) (aa 0) (aa 1)))))),λds R h=>?_⟩)
 .obtain⟨_,_,_,_,_,_,_,_,rfl,_⟩:=h;rfl
 .obtain⟨p,q,w,h,s,w',h',s',rfl,d5,b7,L,L',hR⟩:=h;show dSeq _ _ _ [_,_,_,_,_];refine#[J2,λk z=>∃o2 o3 o4,z=[be (cj p w h s),be (cj q w' h' s'),o2,o3,o4],#[_,_,_,rfl],?_,?_]
  .rintro k v z hk⟨o2,o3,o4,rfl⟩;k_places;obtain⟨p',a,b,c,rfl⟩:∃(p':Pat) (a b c:Int),v=cj p' a b c:=by
    have k_:k<2:=(Fj.mp hk).1;rcases(IU:k=0\/k=1)with rfl|rfl<;>cases hk
    .exact#[p,_,_,_,rfl]
    .exact#[q,_,_,_,rfl]
   rw[eL p'];refine#[_,rfl,?_];refine#[by show¬(0=0/\3=4);decide,λk z=>∃o3,z=[be (cj p w h s),be (cj q w' h' s'),be (.tup [.int a,.int b,.int c,.tup ((br p' a b).map D.str)]),o3,o4],#[_,rfl],?_,?_]
   .rintro k v z hk⟨o3,rfl⟩;k_places;obtain⟨i,rfl⟩:∃i:Int,v=.int i:=by
     rcases E8.mp (Gg hk)with e|e
     .exact#[_,e]
     rcases E8.mp e with e|e
     .exact#[_,e]
     exact#[_,E6.mp e]
    exact#[_,rfl,_,rfl]
   rintro z⟨o3,rfl⟩;k_places;refine#[_,rfl,λk z=>∃o4,z=[be (cj p w h s),be (cj q w' h' s'),be (.tup [.int a,.int b,.int c,.tup ((br p' a b).map D.str)]),o3,o4],#[_,rfl],?_,?_]
   .rintro k v z hk⟨o4,rfl⟩;k_places;obtain⟨i,_,rfl⟩:=FA.mp (Gg hk);exact#[_,rfl]
   rintro z⟨o4,rfl⟩;k_places;rw[<-eL];exact#[_,_,_,rfl]
  .rintro z⟨o2,o3,o4,rfl⟩;k_places;rw[eL,eL];refine#[?_,hR _ (ow d5 b7 L L')];have e2:∀a b:List t6,sh2 (.tup (a.map D.str)) (.tup (b.map D.str))=true:=λa b=>by
    show(false||(_&&_))=true;rw[eK,eK];rfl
   show(true&&(true&&(true&&(sh2 _ _&&true))))=true;rw[e2];rfl
abbrev ph(V:Bx):Prop:=V.X 1 "refuse_far" nG BT
def Eo(T:V.T "refuse_far" nF nG)(Jh:V.m "max")(uN:V.m "abs")(MU:V.gi "FAR" 1000000000000)(MV:V.n "TooFar"):ph V:=by
 refine Tx.okXW T CI (λds R RX h=>?_) (λf cdv A outer s H E J hr hx=>#[_,((aj (aJ (fk (jC rfl Jh (ac (dL uN (ac (aa 0) ae)) (ac (dL uN (ac (aa 1) ae)) ae))) (dS MU)) (aj (rL MV hx rfl (ac ax ae))) aE))),λds R RX e8 h=>?_])
 .obtain⟨_,_,rfl,_⟩:=h;rfl
 .obtain⟨x,y,rfl,h1,h2⟩:=h;refine ite2 (λc=>?_) (λc=>?_)
  .have c':=of_decide_eq_true c;refine#[KK,?_];rw[e8];refine h2 λ⟨⟨a1,a2⟩,a3,a4⟩=>?_;split at c'<;>split at c'<;>split at c'<;>lia
  .have c':¬_:=λz=>c (decide_eq_true z);refine h1 ?_;unfold bt;split at c'<;>split at c'<;>split at c'<;>lia
def ok_Motif_shows(hL:1<=n)(T:V.Tm "Motif" "shows" "Motif.shows" ia cw)(uX:eO V)(IH:V.a "Motif" "hues")(uK:V.a "Motif" "shifts"):V.Q (n+1) "Motif" "shows" cw (ofX (bW (j+1) "Motif")):=by
 refine Txm.okM T CJ (λds M R RX h=>?_) (λf cdv A outer s H E J hr hx=>#[_,((aF (aL (zX (dJ hr) (aN IH (aq (aa 0))) (aW (bb (hn:=IU) (CalD.toM uX) hx hr (aW (aN uK (aq (aa 0))) (aW (aq (aa 1)) (aW (aq (aa 2)) bB)))) (aW (aq ad) bB)))))),λds M R RX e8 h=>?_])
 .obtain⟨_,_,_,_,rfl,_⟩:=h;rfl
 .obtain⟨p,v,X,Y,rfl,hv,r_,hd,hc,hR⟩:=h;cases p<;>simp only[Pat.cls]at hc<;>try exact absurd hc IA
  rename_i L a b c d;obtain⟨k,w,h,s,rfl,F⟩:=hv;obtain⟨hL,ha,hb,H_,fI,hn⟩:=r_;unfold B12 at ha hb H_ fI;obtain⟨b1,b2,b3⟩:=F.bd (N:=288) (by
   have m1:=bO (a:=a) (d:=d) (A:=12) (B:=12) t8 t8;have m2:=bO (a:=b) (d:=c) (A:=12) (B:=12) t8 t8;lia)
  rw[Pat.show,<-motif_shows hL F hn X Y]at hR;exact#[_,#[rfl,rfl],_,BO,_,#[rfl,rfl],_,mo_shifts,w,h,s,X,Y,rfl,F.1,F.2.1,t8,F.2.2.1,t8,hR]
def Ep(hL:1<=n)(T:V.Tm "Over" "shows" "Over.shows" ib ic)(uO:V.a "Over" "above")(uR:V.a "Over" "below")(uE:∀x,x∈(["Motif","Over","Shifted","Mirror","Turn","Rehue"]:List t6)->V.Q n x "shows" cw (ofX (bW j x))):V.Q (n+1) "Over" "shows" ic (ofX (bW (j+1) "Over")):=by
 refine Txm.okM T sc_Over_shows (λds M R RX h=>?_) (λf cdv A outer s H E J hr hx=>⟨_,((aA (bc 3 sc_Over_shows.nd (aZ (hn:=IU) uE hx hr (aN uO (aq (aa 0))) (aC (ac (aa 1) (ac (aa 2) ae)))))
   (aF (aL (fq (cb (aV (aa 3) ad)) (aZ (hn:=IU) uE hx hr (aN uR (aq (aa 0))) (aC (ac (aa 1) (ac (aa 2) ae)))) (aq (aa 3))))))),λds M R RX e8 h=>?_⟩)
 .obtain⟨_,_,_,_,rfl,_⟩:=h;rfl
 .obtain⟨p,v,X,Y,rfl,hv,r_,hd,hc,hR⟩:=h;cases p<;>simp only[Pat.cls]at hc<;>try exact absurd hc IA
  rename_i p q;obtain⟨u,u',rfl,hu,KD⟩:=hv;obtain⟨fs,rfl,o1⟩:=hu.objm;obtain⟨gs,rfl,o2⟩:=KD.objm;rw[Pat.depth]at hd;refine#[λd M'=>d=.int (p.show X Y)/\M'=M,#[_,#[rfl,rfl],_,rfl,p.cls,p.cls_mem,fs,#[rfl,rfl],o1.shw,p,_,X,Y,rfl,hu,r_.1,t8,rfl,rfl,rfl],?_];rintro _ _⟨rfl,rfl⟩;k_places;rw[Pat.show]at hR;show if decide (p.show X Y=0)=true then _ else _
  refine ite2 (λe=>?_) (λe=>?_)
  .have e':=of_decide_eq_true e;rw[if_neg (λz=>z e')]at hR;exact#[_,#[rfl,rfl],_,eF IA,q.cls,q.cls_mem,gs,#[rfl,rfl],o2.shw,q,_,X,Y,rfl,KD,r_.2,t8,rfl,hR]
  .have e':p.show X Y≠0:=λz=>e (decide_eq_true z);rw[if_pos e']at hR;exact hR
def Er(hL:1<=n)(T:V.Tm "Shifted" "shows" "Shifted.shows" ie ig)(uS:V.a "Shifted" "form")(IJ:V.a "Shifted" "y")(II:V.a "Shifted" "x")(uE:∀x,x∈(["Motif","Over","Shifted","Mirror","Turn","Rehue"]:List t6)->V.Q n x "shows" cw (ofX (bW j x))):V.Q (n+1) "Shifted" "shows" ig (ofX (bW (j+1) "Shifted")):=by
 refine Txm.okM T CK (λds M R RX h=>?_) (λf cdv A outer s H E J hr hx=>#[_,((aF (aL (aZ (hn:=IU) uE hx hr (aN uS (aq (aa 0))) (aW (jO (aq (aa 1)) (aN II (aq (aa 0)))) (aW (jO (aq (aa 2)) (aN IJ (aq (aa 0)))) bB)))))),λds M R RX e8 h=>?_])
 .obtain⟨_,_,_,_,rfl,_⟩:=h;rfl
 .obtain⟨p,v,X,Y,rfl,hv,r_,hd,hc,hR⟩:=h;cases p<;>simp only[Pat.cls]at hc<;>try exact absurd hc IA
  rename_i a b p;obtain⟨u,rfl,hu⟩:=hv;obtain⟨fs,rfl,o1⟩:=hu.objm;rw[Pat.depth]at hd;exact#[_,#[rfl,rfl],_,rfl,p.cls,p.cls_mem,fs,#[rfl,rfl],o1.shw,_,#[rfl,rfl],_,eF IA,_,#[rfl,rfl],_,ki IA IA,p,_,X-a,Y-b,rfl,hu,r_.2.2,t8,rfl,hR]
def Es(hL:1<=n)(T:V.Tm "Mirror" "shows" "Mirror.shows" ii ij)(uQ:V.a "Mirror" "form")(uE:∀x,x∈(["Motif","Over","Shifted","Mirror","Turn","Rehue"]:List t6)->V.Q n x "shows" cw (ofX (bW j x))):V.Q (n+1) "Mirror" "shows" ij (ofX (bW (j+1) "Mirror")):=by
 refine Txm.okM T CL (λds M R RX h=>?_) (λf cdv A outer s H E J hr hx=>#[_,((aF (aL (aZ (hn:=IU) uE hx hr (aN uQ (aq (aa 0))) (aC (ac (bY (aa 1)) (ac (aa 2) ae))))))),λds M R RX e8 h=>?_])
 .obtain⟨_,_,_,_,rfl,_⟩:=h;rfl
 .obtain⟨p,v,X,Y,rfl,hv,r_,hd,hc,hR⟩:=h;cases p<;>simp only[Pat.cls]at hc<;>try exact absurd hc IA
  rename_i p;obtain⟨u,rfl,hu⟩:=hv;obtain⟨fs,rfl,o1⟩:=hu.objm;rw[Pat.depth]at hd;exact#[_,#[rfl,rfl],_,rfl,p.cls,p.cls_mem,fs,#[rfl,rfl],o1.shw,p,_,-X,Y,rfl,hu,r_,t8,rfl,hR]
def Et(hL:1<=n)(T:V.Tm "Turn" "shows" "Turn.shows" ik il)(uT:V.a "Turn" "form")(uE:∀x,x∈(["Motif","Over","Shifted","Mirror","Turn","Rehue"]:List t6)->V.Q n x "shows" cw (ofX (bW j x))):V.Q (n+1) "Turn" "shows" il (ofX (bW (j+1) "Turn")):=by
 refine Txm.okM T CM (λds M R RX h=>?_) (λf cdv A outer s H E J hr hx=>#[_,((aF (aL (aZ (hn:=IU) uE hx hr (aN uT (aq (aa 0))) (aC (ac (aa 2) (ac (bY (aa 1)) ae))))))),λds M R RX e8 h=>?_])
 .obtain⟨_,_,_,_,rfl,_⟩:=h;rfl
 .obtain⟨p,v,X,Y,rfl,hv,r_,hd,hc,hR⟩:=h;cases p<;>simp only[Pat.cls]at hc<;>try exact absurd hc IA
  rename_i p;obtain⟨u,rfl,hu⟩:=hv;obtain⟨fs,rfl,o1⟩:=hu.objm;rw[Pat.depth]at hd;exact#[_,#[rfl,rfl],_,rfl,p.cls,p.cls_mem,fs,#[rfl,rfl],o1.shw,p,_,Y,-X,rfl,hu,r_,t8,rfl,hR]
def Eu(hL:1<=n)(T:V.Tm "Rehue" "shows" "Rehue.shows" im io)(uP:V.a "Rehue" "form")(IK:V.a "Rehue" "old")(IL:V.a "Rehue" "new")(uE:∀x,x∈(["Motif","Over","Shifted","Mirror","Turn","Rehue"]:List t6)->V.Q n x "shows" cw (ofX (bW j x))):V.Q (n+1) "Rehue" "shows" io (ofX (bW (j+1) "Rehue")):=by
 refine Txm.okM T sc_Rehue_shows (λds M R RX h=>?_) (λf cdv A outer s H E J hr hx=>⟨_,((aA (bc 3 sc_Rehue_shows.nd (aZ (hn:=IU) uE hx hr (aN uP (aq (aa 0))) (aC (ac (aa 1) (ac (aa 2) ae)))))
   (aF (aL (fq (gz (aq (aa 3)) (aN IK (aq (aa 0)))) (aN IL (aq (aa 0))) (aq (aa 3))))))),λds M R RX e8 h=>?_⟩)
 .obtain⟨_,_,_,_,rfl,_⟩:=h;rfl
 .obtain⟨p,v,X,Y,rfl,hv,r_,hd,hc,hR⟩:=h;cases p<;>simp only[Pat.cls]at hc<;>try exact absurd hc IA
  rename_i f g p;obtain⟨u,rfl,hu⟩:=hv;obtain⟨fs,rfl,o1⟩:=hu.objm;rw[Pat.depth]at hd;refine#[λd M'=>d=.int (p.show X Y)/\M'=M,#[_,#[rfl,rfl],_,rfl,p.cls,p.cls_mem,fs,#[rfl,rfl],o1.shw,p,_,X,Y,rfl,hu,r_.2.2,t8,rfl,rfl,rfl],?_];rintro _ _⟨rfl,rfl⟩;k_places;rw[Pat.show]at hR;unfold bG at hR;refine#[_,#[rfl,rfl],_,eF IA,ite2 (λe=>?_) (λe=>?_)]
  .rw[if_pos (of_decide_eq_true e)]at hR;exact#[_,#[rfl,rfl],_,ki IA IA,hR]
  .rw[if_neg (λz=>e (decide_eq_true z))]at hR;exact hR
def Ev(Op:V.Tm "Motif" "shows" "Motif.shows" ia cw)(Oq:V.Tm "Over" "shows" "Over.shows" ib ic)(Ot:V.Tm "Shifted" "shows" "Shifted.shows" ie ig)(Ou:V.Tm "Mirror" "shows" "Mirror.shows" ii ij)(Ov:V.Tm "Turn" "shows" "Turn.shows" ik il)(Ow:V.Tm "Rehue" "shows" "Rehue.shows" im io)(uX:eO V)(IH:V.a "Motif" "hues")(uK:V.a "Motif" "shifts")(uO:V.a "Over" "above")(uR:V.a "Over" "below")(uS:V.a "Shifted" "form")(IJ:V.a "Shifted" "y")(II:V.a "Shifted" "x")(uQ:V.a "Mirror" "form")(uT:V.a "Turn" "form")(uP:V.a "Rehue" "form")(IK:V.a "Rehue" "old")(IL:V.a "Rehue" "new"):∀j x,x∈(["Motif","Over","Shifted","Mirror","Turn","Rehue"]:List t6)->V.Q (1+j) x "shows" cw (ofX (bW j x)):=by
 intro j;induction j with
 |zero=>
  intro x hx;simp only[E8,F4,or_false]at hx;rcases hx with rfl|rfl|rfl|rfl|rfl|rfl
  .exact CalMth.never Op (λds M R RX=>eJ)
  .exact CalMth.never Oq (λds M R RX=>eJ)
  .exact CalMth.never Ot (λds M R RX=>eJ)
  .exact CalMth.never Ou (λds M R RX=>eJ)
  .exact CalMth.never Ov (λds M R RX=>eJ)
  .exact CalMth.never Ow (λds M R RX=>eJ)
 |succ j KI=>
  intro x hx;simp only[E8,F4,or_false]at hx;rcases hx with rfl|rfl|rfl|rfl|rfl|rfl
  .exact ok_Motif_shows (n:=1+j) (j:=j) IU Op uX IH uK
  .exact Ep (n:=1+j) (j:=j) IU Oq uO uR KI
  .exact Er (n:=1+j) (j:=j) IU Ot uS IJ II KI
  .exact Es (n:=1+j) (j:=j) IU Ou uQ KI
  .exact Et (n:=1+j) (j:=j) IU Ov uT KI
  .exact Eu (n:=1+j) (j:=j) IU Ow uP IK IL KI
abbrev uo(V:Bx):Prop:=∀x,x∈(["Motif","Over","Shifted","Mirror","Turn","Rehue"]:List t6)->V.Q 7 x "shows" cw (ofX (bW 6 x))
abbrev iV(V:Bx):Prop:=V.X 8 "cell_at" nI BU
def Ew(T:V.T "cell_at" nH nI)(MX:ph V)(JM:V.a "Pattern" "form")(uE:uo V):iV V:=by
 refine CalMM.nilX (Tx.okM T CN (λds M R RX h=>?_) (λf cdv A outer s H E J hr hx=>⟨_,((aA (cu (bb (CalX.toM MX) hx hr (aC (ac (aa 1) (ac (aa 2) ae)))))
   (aF (aL (aZ uE hx hr (aN JM (aq (aa 0))) (aC (ac (aa 1) (ac (aa 2) ae)))))))),λds M R RX e8 h=>?_⟩))
 .obtain⟨_,R0,Jy,⟨_,_,_,_,rfl,_⟩,_⟩:=h;rfl
 .obtain⟨rfl,R0,Jy,⟨p,d,x,y,rfl,⟨w,h,s,fs,rfl,e1,e2,hp⟩,ok,h1,h2⟩,hR,hX⟩:=h;obtain⟨v,e3,hv⟩:=hp.form;obtain⟨gs,rfl,o1⟩:=hv.objm;have P2:=ok.deep;refine#[x,y,rfl,λhn=>?_,λhn=>?_]
  .exact#[_,#[rfl,rfl],_,e3,p.cls,p.cls_mem,gs,#[rfl,rfl],o1.shw,p,_,x,y,rfl,hv,ok.wf,t8,rfl,hR _ _ (h1 hn)]
  .rw[e8];exact hX _ _ _ (h2 hn)
abbrev iW(V:Bx):Prop:=V.D 9 "row_from" nJ BV
def Ey(T:V.T "row_from" ip nJ)(uA:V.m "range")(Jq:iV V)(x9:V.gs "SIGNS" ".123456"):iW V:=by
 refine Tx.okDW T CO (λds R h=>?_) (λf cdv A outer s H E J hr=>#[_,((aj (ar (jD (jI rfl (compScope (by change cA _ (ah ip) ["pattern","x","y","many"] _=true;decide+kernel)) uA (aa 3) (λcl s0 H0 fp=>(af (gq x9) (ao (CalX.no Jq) hr (ac (aa 0) (ac (am (aa 1) (aa 4)) (ac (aa 2) ae))))))))))),λds R h=>?_])
 .obtain⟨_,_,_,_,_,rfl,_⟩:=h;rfl
 .obtain⟨p,d,x,y,n,rfl,hd,ok,hn,Jv,n5,hy,hR⟩:=h;obtain⟨w,h,s,fs,rfl,_⟩:=id hd;refine#[#[t8,t8],by rw[bx];lia,λk ys=>ys=rowD p x y k,rfl,?_,?_]
  .rintro k v ys hk hl rfl;obtain⟨k_,rfl⟩:=bF hk;obtain⟨b0,b6⟩:=Pat.show_le ok.wf (by have:=ok.deep;lia) (x+(k:Int)) y;unfold bt at Jv n5;exact#[p,.obj "Pattern" fs,x+(k:Int),y,rfl,hd,ok,λ_=>#[_,#[y8,tQ b0 b6],BW p x y k],λz=>z #[#[t8,t8],hy]]
  .rintro ys hl rfl;rw[bx,GF];obtain⟨ys,e1,e2,e3⟩:=BX p x y hn;refine#[ys,e1,e2,?_];rw[e3];exact hR
abbrev pi(V:Bx):Prop:=V.D 10 "field_rows" nK B3
def Ez(T:V.T "field_rows" iq nK)(uA:V.m "range")(JQ:iW V)(uZ:V.a "Pattern" "shifts"):pi V:=by
 refine Tx.okDW T CP (λds R h=>?_) (λf cdv A outer s H E J hr=>#[_,((aj (ar (jI rfl (compScope (by change cA _ (ah iq) ["pattern"] _=true;decide+kernel)) uA (af (jJ uZ (aa 0)) ad) (λcl s0 H0 fp=>(ao JQ hr (ac (aa 0) (ac ad (ac (aa 1) (ac (af (jJ uZ (aa 0)) ad) ae)))))))))),λds R h=>?_])
 .obtain⟨_,_,rfl,_⟩:=h;rfl
 .obtain⟨p,d,rfl,hd,ok,hR⟩:=h;obtain⟨w,h,s,fs,rfl,e1,e2,hp⟩:=id hd;have F:=hp.toFam;have sm:=ok.fits.small F;have wh:w*h<=720:=by
   obtain⟨w',h',s',f',hb⟩:=ok.fits;obtain⟨rfl,rfl,_⟩:=F.uniq f';exact hb
  refine#[rfl,_,e2,_,rfl,#[t8,t8],by rw[bx];lia,λk ys=>ys=(E7 k).map λ(y:Nat)=>D.str (aB p 0 (y:Int) w.toNat),rfl,?_,?_]
  .rintro k v ys hk hl rfl;obtain⟨k_,rfl⟩:=bF hk;refine#[rfl,_,e2,_,rfl,p,.obj "Pattern" fs,0,k,w.toNat,by rw[FE t8],hd,ok,t8,#[t8,t8],#[t8,t8],#[t8,t8],?_];show _=G1 _ (E7 (k+1));rw[Gm,FD];rfl
  .rintro ys hl rfl;rw[bx];exact hR w h s F wh sm.2.1 sm.2.2.2.1
abbrev C_measures(V:Bx):Prop:=V.D 1 "measures" nM B6
def EA(T:V.T "measures" ir nM)(uA:V.m "range"):C_measures V:=by
 refine Tx.okDW T CQ (λds R h=>?_) (λf cdv A outer s H E J hr=>#[_,((aj (ar (Ab rfl (compScope (by change cA _ (ah ir) ["number"] _=true;decide+kernel)) uA ad (am (aa 0) ad) (λcl s0 H0 fp=>(aV (av (aa 0) (aa 1)) ad)) (λcl s0 H0 fp=>(aa 1)))))),λds R h=>?_])
 .obtain⟨_,rfl,_⟩:=h;rfl
 .obtain⟨n,rfl,n0,n1,hR⟩:=h;refine#[#[t8,t8,t8,t8],Nw,λk ys=>∃ns:List Int,ys=ns.map D.int/\ns.length<=k/\∀m,m∈ns↔1<=m/\m<=k/\n%m=0,#[[],rfl,E5 _,λm=>Nw],?_,?_]
  .rintro k v ys hk⟨ns,rfl,hl,hm⟩;k_places;obtain⟨k_,rfl⟩:=range2_int hk;refine#[t8,?_];refine okF (λc=>?_) (λc=>?_)
   .have c':=of_decide_eq_true c;refine#[ns++[1+(k:Int)],IV,Nw,λm=>?_];rw[Fy,hm,E6];constructor
    .rintro(q|rfl)
     .lia
     .exact#[t8,t8,c']
    .rintro⟨a,b,c⟩;by_cases e:m=1+(k:Int)
     .exact .inr e
     .exact .inl #[a,t8,c]
   .have c':=of_decide_eq_false c;refine#[ns,rfl,t8,λm=>?_];rw[hm];constructor
    .rintro⟨a,b,c⟩;exact#[a,t8,c]
    .rintro⟨a,b,c⟩;refine#[a,?_,c];by_cases e:m=1+(k:Int)
     .subst e;exact absurd c c'
     .lia
  .rintro ys⟨ns,rfl,hl,hm⟩;k_places;have e:((E7 (n+1-1).toNat).map λk=>D.int (1+((k:Nat):Int))).length=n.toNat:=by simp
   rw[e]at hl hm;exact hR ns t8 λm=>by rw[hm];lia
abbrev pj(V:Bx):Prop:=V.D 2 "round_row" nO B4
def EB(T:V.T "round_row" nN nO)(uX:eO V):pj V:=by
 refine Tx.okDW T sc_round_row (λds R h=>?_) (λf cdv A outer s H E J hr=>⟨_,((ag (ai 4 sc_round_row.nd (ao uX hr (ac (aa 0) (ac (aa 2) (ac (aa 3) ae)))))
   (ag (ai 5 sc_round_row.nd (af (aa 1) (af (aa 4) ad)))
   (aj (ar (am (cq (aa 5) (cn (af (aa 4) ad)) cm) (cq (aa 5) cm (cn (af (aa 4) ad))))))))),λds R h=>?_⟩)
 .obtain⟨_,_,_,_,_,_,rfl,_⟩:=h;rfl
 .obtain⟨p,w,h,s,x,y,rfl,F,w7,h7,hR⟩:=h;have f:=F.f;have y0:=FF y (show h≠0 by have:=f.h0;lia);have y1:=FG y f.h0;refine#[λd=>d=.tup [.int (hmX w h s x y),.int (y%h)],#[w,h,s,x,y,rfl,f.w0,f.h0,t8,f.s0,by have:=f.sw;lia,rfl],?_];rintro _ rfl;k_places;refine#[λd=>d=.str (aB p 0 (y%h) w.toNat),#[_,rfl,_,?_,rfl],?_]
  .have e:y%h=(((y%h).toNat:Nat):Int):=by lia
   rw[e];exact bI (by rw[Fg,FS t8];simp)
  rintro _ rfl;k_places;have l:=tP p 0 (y%h) w.toNat;refine#[_,rfl,t8,_,rfl,t8,?_];have e:=tY f.w0 f.h0 (λ_ _ q=>F.keeps q) x y;refine#[?_,?_]
  .rw[<-bj,<-bj,<-Fn,<-bw,e,cS];simp;lia
  .rw[e];exact hR
abbrev iX(V:Bx):Prop:=V.D 3 "changes_nothing" nQ B7
def EC(T:V.T "changes_nothing" nP nQ)(Jo:V.m "enumerate")(MY:pj V):iX V:=by
 refine Tx.okDW T sc_changes_nothing (λds R h=>?_) (λf cdv A outer s H E J hr=>⟨_,((ag (Ai PassesOwn.never rfl Jo (aa 1) (dg_cons 4 sc_changes_nothing.nd (dg_cons 5 sc_changes_nothing.nd cy)) (aj (aJ (bK (ao MY hr (ac (aa 0) (ac (aa 1) (ac (aa 2) (ac (am (aa 3) (aa 4)) ae))))) (aa 5)) (aj (ar cL)) aE)))
   (aj (ar cL)))),λds R h=>?_⟩)
 .obtain⟨_,_,_,_,_,_,rfl,_⟩:=h;rfl
 .obtain⟨p,w,h,s,x,y,rfl,ok,F,w7,h7,hR⟩:=h;have e0:∀k:Nat,k<h.toNat->((E7 h.toNat).map λ(y:Nat)=>D.str (aB p 0 (y:Int) w.toNat))[k]?=be (.str (aB p 0 (k:Int) w.toNat)):=λk hk=>by simp[hk]
  refine#[λk z=>∃o1 o2,z=[be (.tup [.int w,.int h,.int s]),be (aX p w h),be (.int x),be (.int y),o1,o2]/\∀j:Nat,j<k->aB p x (y+j) w.toNat=aB p 0 j w.toNat,#[_,_,rfl,λj hj=>absurd hj (F8 j)],?_,?_]
  .rintro k v z hk⟨o1,o2,rfl,hj⟩;k_places;have k_:k<h.toNat:=by simpa using(Fj.mp hk).1
   rw[e0 k k_]at hk;cases hk;refine#[p,w,h,s,x,y+k,rfl,F,w7,h7,ite2 (λc=>?_) (λc=>?_)]
   .refine hR false ?_;have c':¬aB p x (y+k) w.toNat=aB p 0 k w.toNat:=λz=>by simp[z]at c
    rw[<-gK ok F.k];exact#[(λz=>nomatch z),λz=>absurd (z k k_) c']
   .have c':aB p x (y+k) w.toNat=aB p 0 k w.toNat:=by simpa using c
    refine#[_,_,rfl,λj Ml=>?_];by_cases e:j=k
    .subst e;exact c'
    .exact hj j t8
  .rintro z⟨o1,o2,rfl,hj⟩;k_places;rw[show((E7 h.toNat).map λ(y:Nat)=>D.str (aB p 0 (y:Int) w.toNat)).length=h.toNat by simp]at hj;exact hR true ((gK ok F.k x y).mp hj|>λz=>#[λ_=>z,λ_=>rfl])
abbrev pp(V:Bx):Prop:=V.D 4 "least_width" nR B8
def EE(T:V.T "least_width" iu nR)(JR:V.m "min")(JS:C_measures V)(JT:iX V):pp V:=by
 refine Tx.okDW T CS (λds R h=>?_) (λf cdv A outer s H E J hr=>#[_,((aj (ar (sF rfl JR (ac (sE rfl (compScope (by change cA _ (ah iu) ["family","rows"] _=true;decide+kernel)) (ao JS hr (ac (af (aa 0) ad) ae)) (λcl s0 H0 fp=>(bD (ao JT hr (ac (aa 0) (ac (aa 1) (ac (aa 2) (ac ad ae))))))) (λcl s0 H0 fp=>(aa 2))) ae))))),λds R h=>?_])
 .obtain⟨_,_,_,_,rfl,_⟩:=h;rfl
 .obtain⟨p,w,h,s,rfl,ok,F,w7,h7,hR⟩:=h;have w0:=F.f.w0;refine#[_,rfl,w,rfl,w0,t8,λns hl hm=>#[Nw,λk ys=>∃ms:List Int,ys=ms.map D.int/\∀m,m∈ms↔(∃j:Nat,j<k/\ns[j]?=be m)/\p.Keeps m 0,#[[],rfl,λm=>IV],?_,?_]]
  .rintro k v ys hk⟨ms,rfl,v4⟩;k_places;obtain⟨m,em,rfl⟩:∃m,ns[k]?=be m/\v=.int m:=by
    rw[Fg]at hk;cases q:ns[k]? with
    |none=>rw[q]at hk;cases hk
    |some m=>rw[q]at hk;cases hk;exact#[m,rfl,rfl]
   refine#[p,w,h,s,m,0,rfl,ok,F,w7,h7,λb hb=>okF (λc=>?_) (λc=>?_)]
   .refine#[ms++[m],IV,λm'=>?_];rw[Fy,v4,E6];constructor
    .rintro(⟨⟨j,h1,h2⟩,h3⟩|rfl)
     .exact#[#[j,t8,h2],h3]
     .exact#[#[k,t8,em],hb.mp c]
    .rintro⟨⟨j,h1,h2⟩,h3⟩;by_cases e:j=k
     .subst e;rw[em]at h2;cases h2;exact .inr rfl
     .exact .inl #[#[j,t8,h2],h3]
   .refine#[ms,rfl,λm'=>?_];rw[v4];constructor
    .rintro⟨⟨j,h1,h2⟩,h3⟩;exact#[#[j,t8,h2],h3]
    .rintro⟨⟨j,h1,h2⟩,h3⟩;by_cases e:j=k
     .subst e;rw[em]at h2;cases h2;rw[hb.mpr h3]at c;cases c
     .exact#[#[j,t8,h2],h3]
  .rintro ys⟨ms,rfl,v4⟩;k_places;rw[E9]at v4;have q9:∀m,m∈ms↔(1<=m/\m<=w/\w%m=0)/\p.Keeps m 0:=λm=>by
    rw[v4,<-hm,Iw];constructor
    .rintro⟨⟨j,_,h2⟩,h3⟩;exact#[#[j,h2],h3]
    .rintro⟨⟨j,h2⟩,h3⟩;exact#[#[j,(Fj.mp h2).1,h2],h3]
   have hw:w∈ms:=(q9 w).mpr #[#[t8,t8,Int.emod_self],F.keeps (InF.one w h s)];refine#[ms,rfl,Ix hw,λm MZ Jr=>hR m ?_];obtain⟨⟨a,b,c⟩,d⟩:=(q9 m).mp MZ;exact#[a,b,c,d,λd' h1 h2 h3 h4=>Jr d' ((q9 d').mpr #[#[h1,h2,h3],h4])]
abbrev pq(V:Bx):Prop:=V.D 4 "slant_at" nU B9
def EF(T:V.T "slant_at" nS nU)(uA:V.m "range")(JT:iX V):pq V:=by
 refine Tx.okDW T sc_slant_at (λds R h=>?_) (λf cdv A outer s H E J hr=>⟨_,((ag (bL 4 PassesOwn.never rfl sc_slant_at.nd uA (aa 2) (aj (aJ (bD (ao JT hr (ac (aa 0) (ac (aa 1) (ac (aa 4) (ac (aa 3) ae)))))) (aj (ar (aa 4))) aE)))
   (aj (ar bq)))),λds R h=>?_⟩)
 .obtain⟨_,_,_,_,_,_,rfl,_⟩:=h;rfl
 .obtain⟨p,w,h,s,m,y,rfl,ok,F,w7,h7,m0,m7,hR,hN⟩:=h;refine#[#[t8,t8],λk z=>∃o1,z=[be (.tup [.int w,.int h,.int s]),be (aX p w h),be (.int m),be (.int y),o1]/\∀u,0<=u->u<(k:Int)->¬p.Keeps u y,#[_,rfl,λu a b=>t8],?_,?_]
  .rintro k v z hk⟨o1,rfl,hj⟩;k_places;obtain⟨k_,rfl⟩:=bF hk;refine#[p,w,h,s,k,y,rfl,ok,F,w7,h7,λb hb=>ite2 (λc=>?_) (λc=>?_)]
   .exact hR k t8 t8 (hb.mp c) hj
   .refine#[_,rfl,λu a b'=>?_];by_cases e:u=k
    .subst e;exact λz=>c (hb.mpr z)
    .exact hj u a t8
  .rintro z⟨o1,rfl,hj⟩;k_places;rw[bx]at hj;exact hN λt a b=>hj t a t8
abbrev iY(V:Bx):Prop:=V.D 11 "least_shifts" nV Cb
def EG(T:V.T "least_shifts" iy nV)(JR:V.m "min")(M0:pi V)(M4:pp V)(JS:C_measures V)(Lc:pq V)(uZ:V.a "Pattern" "shifts"):iY V:=by
 refine Tx.okDW T sc_least_shifts (λds R h=>?_) (λf cdv A outer s H E J hr=>⟨_,((ag (ai 1 sc_least_shifts.nd (jJ uZ (aa 0)))
   (ag (ai 2 sc_least_shifts.nd (ao M0 hr (ac (aa 0) ae)))
   (ag (ai 3 sc_least_shifts.nd (ao M4 hr (ac (aa 1) (ac (aa 2) ae))))
   (ag (ai 4 sc_least_shifts.nd (sF rfl JR (ac (sE rfl (compScope (by change cA _ (ah iy) ["pattern","family","rows","width","height"] _=true;decide+kernel)) (ao JS hr (ac (af (aa 1) ad) ae)) (λcl s0 H0 fp=>(qZ (ao Lc hr (ac (aa 1) (ac (aa 2) (ac (aa 3) (ac (aa 5) ae))))) bq)) (λcl s0 H0 fp=>(aa 5))) ae)))
   (aj (ar (au (ac (aa 3) (ac (aa 4) (ac (ao Lc hr (ac (aa 1) (ac (aa 2) (ac (aa 3) (ac (aa 4) ae))))) ae))))))))))),λds R h=>?_⟩)
 .obtain⟨_,_,rfl,_⟩:=h;rfl
 .obtain⟨p,d,rfl,hd,ok,hR⟩:=h;obtain⟨w,h,s,fs,rfl,e1,e2,hp⟩:=id hd;have F:=hp.toFam;have sm:=ok.fits.small F;refine#[λd=>d=.tup [.int w,.int h,.int s],#[rfl,_,e2,rfl],?_];rintro _ rfl;k_places;refine#[λd=>d=aX p w h/\w*h<=720,#[p,_,rfl,hd,ok,λw' h' s' F' hb _ _=>?_],?_]
  .obtain⟨rfl,rfl,rfl⟩:=F.uniq F';exact#[rfl,hb]
  rintro _⟨rfl,hb⟩;k_places;obtain⟨w',h',s',L,d1,d2,N_,Oa,Jj⟩:=Pat.least_ex F.k;have w0:=L.f.w0;have h0:=L.f.h0;refine#[λd=>d=.int w',#[p,w,h,s,rfl,ok,F,sm.2.1,sm.2.2.2.1,λm lw=>by rw[lw.eq F L]],?_];rintro _ rfl;k_places;refine#[λd=>d=.int h',#[_,rfl,h,rfl,sm.2.2.1,t8,λns hl hm=>#[Nw,λk ys=>∃ms:List Int,ys=ms.map D.int/\∀m,m∈ms↔(∃j:Nat,j<k/\ns[j]?=be m)/\∃t,p.Keeps t m,#[[],rfl,λm=>IV],?_,?_]],?_]
  .rintro k v ys hk⟨ms,rfl,v4⟩;k_places;obtain⟨m,em,rfl⟩:∃m,ns[k]?=be m/\v=.int m:=by
    rw[Fg]at hk;cases q:ns[k]? with
    |none=>rw[q]at hk;cases hk
    |some m=>rw[q]at hk;cases hk;exact#[m,rfl,rfl]
   have P4:(∃t,p.Keeps t m)->∃zs:List Int,ms.map D.int++[D.int m]=zs.map D.int/\∀m,m∈zs↔(∃j:Nat,j<k+1/\ns[j]?=be m)/\∃t,p.Keeps t m:=λc=>by
    refine#[ms++[m],IV,λm'=>?_];rw[Fy,v4,E6];constructor
    .rintro(⟨⟨j,h1,h2⟩,h3⟩|rfl)
     .exact#[#[j,t8,h2],h3]
     .exact#[#[k,t8,em],c]
    .rintro⟨⟨j,h1,h2⟩,h3⟩;by_cases e:j=k
     .subst e;rw[em]at h2;cases h2;exact .inr rfl
     .exact .inl #[#[j,t8,h2],h3]
   refine#[p,w,h,s,w',m,rfl,ok,F,sm.2.1,sm.2.2.2.1,t8,t8,λt _ _ kt _=>P4 #[t,kt],λno=>?_];show ∃zs:List Int,ms.map D.int=zs.map D.int/\∀m,m∈zs↔(∃j:Nat,j<k+1/\ns[j]?=be m)/\∃t,p.Keeps t m;refine#[ms,rfl,λm'=>?_];rw[v4];constructor
   .rintro⟨⟨j,h1,h2⟩,h3⟩;exact#[#[j,t8,h2],h3]
   .rintro⟨⟨j,h1,h2⟩,h3⟩;by_cases e:j=k
    .subst e;rw[em]at h2;cases h2;obtain⟨t,kt⟩:=h3;exact absurd (L.row kt) (no _ (FF _ t8) (FG _ w0))
    .exact#[#[j,t8,h2],h3]
  .rintro ys⟨ms,rfl,v4⟩;k_places;rw[E9]at v4;have q9:∀m,m∈ms↔(1<=m/\m<=h/\h%m=0)/\∃t,p.Keeps t m:=λm=>by
    rw[v4,<-hm,Iw];constructor
    .rintro⟨⟨j,_,h2⟩,h3⟩;exact#[#[j,h2],h3]
    .rintro⟨⟨j,h2⟩,h3⟩;exact#[#[j,(Fj.mp h2).1,h2],h3]
   have hh:h'∈ms:=(q9 h').mpr #[#[t8,Jj,Int.emod_eq_zero_of_dvd d2],s',(L.lat _ _).mp (InF.two _ _ _)];refine#[ms,rfl,Ix hh,λm MZ Jr=>?_];obtain⟨⟨a,b,c⟩,t,kt⟩:=(q9 m).mp MZ;have h1:=(L.down kt t8).1;have h2:=Jr h' hh;show D.int m=D.int h';rw[show m=h' by lia]
  rintro _ rfl;k_places;refine#[p,w,h,s,w',h',rfl,ok,F,sm.2.1,sm.2.2.2.1,t8,t8,λt a b kt _=>#[by show(3:Nat)<=1000;decide,?_],λno=>absurd ((L.lat _ _).mp (InF.two _ _ _)) (no s' L.f.s0 L.f.sw)];rw[L.slant a b kt];exact hR w' h' s' L t8 t8 t8
abbrev iZ(V:Bx):Prop:=V.D 12 "least_form" nW Cd
def EH(T:V.T "least_form" iz nW)(uA:V.m "range")(x_:V.m "tuple")(Js:iY V)(JQ:iW V):iZ V:=by
 refine Tx.okDW T sc_least_form (λds R h=>?_) (λf cdv A outer s H E J hr=>⟨_,((ag (ai 1 sc_least_form.nd (ao Js hr (ac (aa 0) ae)))
   (ag (yw 2 rfl (compScope (by change cA _ (ah iz) ["pattern","family","rows"] _=true;decide+kernel)) sc_least_form.nd uA (af (aa 1) ad) (λcl s0 H0 fp=>(ao JQ hr (ac (aa 0) (ac ad (ac (aa 3) (ac (af (aa 1) ad) ae)))))))
   (aj (ar (au (ac (af (aa 1) ad) (ac (af (aa 1) ad) (ac (af (aa 1) ad) (ac (Af x_ (ac (aa 2) ae)) ae)))))))))),λds R h=>?_⟩)
 .obtain⟨_,_,rfl,_⟩:=h;rfl
 .obtain⟨p,d,rfl,hd,ok,hR⟩:=h;obtain⟨w0,h0,s0,fs,rfl,e1,e2,hp⟩:=id hd;refine#[λd=>∃w h s,d=.tup [.int w,.int h,.int s]/\p.Least w h s/\w*h<=720/\w<=720/\h<=720,#[p,_,rfl,hd,ok,λw h s L a b c=>#[w,h,s,rfl,L,a,b,c]],?_];rintro _⟨w,h,s,rfl,L,hb,w7,h7⟩;k_places;have w0:=L.f.w0;have h0:=L.f.h0;refine#[λd=>d=aX p w h,#[_,rfl,#[t8,t8],by rw[bx];lia,λk ys=>ys=(E7 k).map λ(y:Nat)=>D.str (aB p 0 (y:Int) w.toNat),rfl,?_,?_],?_]
  .rintro k v ys hk hl rfl;obtain⟨k_,rfl⟩:=bF hk;refine#[_,rfl,p,.obj "Pattern" fs,0,k,w.toNat,by rw[FE t8],hd,ok,t8,#[t8,t8],#[t8,t8],#[t8,t8],?_];show _=G1 _ (E7 (k+1));rw[Gm,FD];rfl
  .rintro ys hl rfl;rw[bx];rfl
  rintro _ rfl;k_places;exact#[_,rfl,_,rfl,_,rfl,by show(4:Nat)<=1000;decide,hR w h s L hb w7 h7]
def EI:SpD:=λds R=>∃(p q:Pat) (d e:D),ds=[d,e]/\aR p d/\aR q e/\p.Ok/\q.Ok/\∀b:Bool,(b=true↔∀x y,p.show x y=q.show x y)->R (.bl b)
abbrev pr(V:Bx):Prop:=V.D 13 "one_pattern" nY EI
def EJ(T:V.T "one_pattern" nX nY)(IN:iZ V):pr V:=by
 refine Tx.okDW T CT (λds R h=>?_) (λf cdv A outer s H E J hr=>#[_,((aj (ar (gC (dJ hr) (ao IN hr (ac (aa 0) ae)) (ao IN hr (ac (aa 1) ae)))))),λds R h=>?_])
 .obtain⟨_,_,_,_,rfl,_⟩:=h;rfl
 .obtain⟨p,q,d,e,rfl,hd,he,d5,b7,hR⟩:=h;obtain⟨wd,fI,sd,fs,rfl,q1,q2,fam⟩:=hd;have hd:aR p (.obj "Pattern" fs):=#[wd,fI,sd,fs,rfl,q1,q2,fam];obtain⟨v5,k8,v6,g_,rfl,q3,q4,f_⟩:=he;have he:aR q (.obj "Pattern" g_):=#[v5,k8,v6,g_,rfl,q3,q4,f_];refine#[p,_,rfl,hd,d5,λw h s L _ _ _=>#[q,_,rfl,he,b7,λw' h' s' L' _ _ _=>?_]];rw[eL,eL];refine#[?_,hR _ (ow d5 b7 L L')];have e2:∀a b:List t6,sh2 (.tup (a.map D.str)) (.tup (b.map D.str))=true:=λa b=>by
   show(false||(_&&_))=true;rw[eK,eK];rfl
  show(true&&(true&&(true&&(sh2 _ _&&true))))=true;rw[e2];rfl
def EK:SpX:=λds R RX=>∃(p q:Pat) (d e:D),ds=[d,e]/\aR p d/\aR q e/\p.Ok/\q.Ok/\∀w h s,ComF p q w h s->(w*h<=720->R (.tup [.int w,.int h,.int s]))/\(720<w*h->RX "TooGreat" [])
abbrev pv(V:Bx):Prop:=V.X 12 "common_field" oa EK
def EL(T:V.T "common_field" nZ oa)(IM:fJ V)(Js:iY V)(JN:V.gi "MOST" 720)(M5:V.n "TooGreat"):pv V:=by
 refine Tx.okXW T sc_common_field (λds R RX h=>?_) (λf cdv A outer s H E J hr hx=>⟨_,((ag (ai 2 sc_common_field.nd (ao IM hr (ac (ao Js hr (ac (aa 0) ae)) (ac (ao Js hr (ac (aa 1) ae)) ae))))
   (ag (aJ (fk (aw (af (aa 2) ad) (af (aa 2) ad)) (dS JN)) (aj (rL M5 hx rfl (ac ax ae))) aE)
   (aj (ar (aa 2)))))),λds R RX e8 h=>?_⟩)
 .obtain⟨_,_,_,_,rfl,_⟩:=h;rfl
 .obtain⟨p,q,d,e,rfl,hd,he,d5,b7,hR⟩:=h;obtain⟨wd,fI,sd,fs,rfl,q1,q2,fam⟩:=hd;have hd:aR p (.obj "Pattern" fs):=#[wd,fI,sd,fs,rfl,q1,q2,fam];obtain⟨v5,k8,v6,g_,rfl,q3,q4,f_⟩:=he;have he:aR q (.obj "Pattern" g_):=#[v5,k8,v6,g_,rfl,q3,q4,f_];refine#[λx=>∃w h s,x=.tup [.int w,.int h,.int s]/\ComF p q w h s/\w*h<=518400,#[p,_,rfl,hd,d5,λw1 h1 s1 L1 P5 a1 b1=>#[q,_,rfl,he,b7,λw2 h2 s2 L2 Ox a2 b2=>#[w1,h1,s1,w2,h2,s2,rfl,L1.f.w0,IU,L1.f.h0,IU,L1.f.s0,L1.f.sw,L2.f.w0,IU,L2.f.h0,IU,L2.f.s0,L2.f.sw,λw h s A M=>#[w,h,s,rfl,ComF.of L1 L2 M,M.le2 L1.f L2.f P5 Ox]]]],?_];rintro _⟨w,h,s,rfl,C,wh⟩;k_places;have pl:=bU C.f.w0 C.f.h0;have w0:=C.f.w0;refine#[_,rfl,_,rfl,.inl #[IU,IU],ite2 (λc=>?_) (λc=>?_)]
  .have c':=of_decide_eq_true c;refine#[KK,?_];rw[e8];exact(hR w h s C).2 c'
  .have c':¬(720<w*h):=λz=>c (decide_eq_true z);exact(hR w h s C).1 IU
def EM:SpD:=λds R=>∃(p q:Pat) (d e:D) (w h:Int),ds=[d,e,.int w,.int h]/\aR p d/\aR q e/\p.Ok/\q.Ok/\0<=w/\w<=720/\0<=h/\h<=720/\((∀x y:Int,0<=x->x<w->0<=y->y<h->p.show x y=q.show x y)->R .non)/\∀x y:Int,0<=x->x<w->0<=y->y<h->p.show x y≠q.show x y->(∀x' y':Int,0<=x'->x'<w->0<=y'->(y'<y\/(y'=y/\x'<x))->p.show x' y'=q.show x' y')->R (.tup [.int x,.int y])
abbrev pw(V:Bx):Prop:=V.D 9 "first_unlike" oh EM
def EN(T:V.T "first_unlike" og oh)(uA:V.m "range")(Jq:iV V):pw V:=by
 refine Tx.okDW T sc_first_unlike (λds R h=>?_) (λf cdv A outer s H E J hr=>⟨_,((ag (bL 4 PassesOwn.never rfl sc_first_unlike.nd uA (aa 3) (aj (bL 5 PassesOwn.never rfl sc_first_unlike.nd uA (aa 2) (aj (aJ (bK (ao (CalX.no Jq) hr (ac (aa 0) (ac (aa 5) (ac (aa 4) ae)))) (ao (CalX.no Jq) hr (ac (aa 1) (ac (aa 5) (ac (aa 4) ae))))) (aj (ar (au (ac (aa 5) (ac (aa 4) ae))))) aE)))))
   (aj (ar bq)))),λds R h=>?_⟩)
 .obtain⟨_,_,_,_,_,_,rfl,_⟩:=h;rfl
 .obtain⟨p,q,d,e,w,h,rfl,hd,he,d5,b7,w0,w7,h0,h7,hN,hS⟩:=h;obtain⟨wd,fI,sd,fs,rfl,q1,q2,fam⟩:=hd;have hd:aR p (.obj "Pattern" fs):=#[wd,fI,sd,fs,rfl,q1,q2,fam];obtain⟨v5,k8,v6,g_,rfl,q3,q4,f_⟩:=he;have he:aR q (.obj "Pattern" g_):=#[v5,k8,v6,g_,rfl,q3,q4,f_];refine#[#[IU,IU],λk z=>∃o4 o5,z=[be (.obj "Pattern" fs),be (.obj "Pattern" g_),be (.int w),be (.int h),o4,o5]/\∀x y:Int,0<=x->x<w->0<=y->y<k->p.show x y=q.show x y,#[_,_,rfl,λx y _ _ a b=>IU],?_,?_]
  .rintro k v z hk⟨o4,o5,rfl,hj⟩;k_places;obtain⟨k_,rfl⟩:=bF hk;refine#[#[IU,IU],λi z=>∃o5,z=[be (.obj "Pattern" fs),be (.obj "Pattern" g_),be (.int w),be (.int h),be (.int k),o5]/\∀x:Int,0<=x->x<i->p.show x k=q.show x k,#[_,rfl,λx a b=>IU],?_,?_]
   .rintro i v z hi⟨o5,rfl,g5⟩;k_places;obtain⟨Jn,rfl⟩:=bF hi;have nn:bt (i:Int)/\bt (k:Int):=#[#[IU,IU],IU,IU];refine#[p,_,i,k,rfl,hd,d5,λ_=>#[q,_,i,k,rfl,he,b7,λ_=>?_,λn=>n nn],λn=>n nn];refine ite2 (λc=>?_) (λc=>?_)
    .refine#[J2,hS i k IU IU IU IU (λz=>by simp[z]at c) λx' y' a b c d=>?_];rcases d with d|⟨rfl,d⟩
     .exact hj x' y' a b c IU
     .exact g5 x' a IU
    .have c':p.show i k=q.show i k:=by simpa using c
     refine#[_,rfl,λx a b=>?_];by_cases e:x=i
     .rw[e];exact c'
     .exact g5 x a IU
   .rintro z⟨o5,rfl,g5⟩;k_places;rw[bx]at g5;refine#[_,_,rfl,λx y a b c d=>?_];by_cases e:y=k
    .rw[e];exact g5 x a IU
    .exact hj x y a b c IU
  .rintro z⟨o4,o5,rfl,hj⟩;k_places;rw[bx]at hj;exact hN λx y a b c d=>hj x y a b c IU
def uq:SpX:=λds R RX=>∃(p q:Pat) (d e:D),ds=[d,e]/\aR p d/\aR q e/\p.Ok/\q.Ok/\∀w h s,ComF p q w h s->(720<w*h->RX "TooGreat" [])/\(w*h<=720->((∀x y:Int,p.show x y=q.show x y)->R .non)/\∀x y:Int,0<=x->x<w->0<=y->y<h->p.show x y≠q.show x y->(∀x' y':Int,0<=x'->x'<w->0<=y'->(y'<y\/(y'=y/\x'<x))->p.show x' y'=q.show x' y')->R (.tup [.int x,.int y]))
abbrev pz(V:Bx):Prop:=V.X 13 "first_parting" oj uq
def EO(T:V.T "first_parting" oi oj)(M6:pv V)(M7:pw V):pz V:=by
 refine Tx.okXW T sc_first_parting (λds R RX h=>?_) (λf cdv A outer s H E J hr hx=>⟨_,((ag (ai 2 sc_first_parting.nd (rH M6 hx hr (ac (aa 0) (ac (aa 1) ae))))
   (aj (ar (ao M7 hr (ac (aa 0) (ac (aa 1) (ac (af (aa 2) ad) (ac (af (aa 2) ad) ae))))))))),λds R RX e8 h=>?_⟩)
 .obtain⟨_,_,_,_,rfl,_⟩:=h;rfl
 .obtain⟨p,q,d,e,rfl,hd,he,d5,b7,hR⟩:=h;obtain⟨wd,fI,sd,fs,rfl,q1,q2,fam⟩:=hd;have hd:aR p (.obj "Pattern" fs):=#[wd,fI,sd,fs,rfl,q1,q2,fam];obtain⟨v5,k8,v6,g_,rfl,q3,q4,f_⟩:=he;have he:aR q (.obj "Pattern" g_):=#[v5,k8,v6,g_,rfl,q3,q4,f_];refine#[λx=>∃w h s,x=.tup [.int w,.int h,.int s]/\ComF p q w h s/\w*h<=720,#[p,q,_,_,rfl,hd,he,d5,b7,λw h s C=>#[λwh=>#[w,h,s,rfl,C,wh],λwh=>by rw[e8];exact(hR w h s C).1 wh]],?_];rintro _⟨w,h,s,rfl,C,wh⟩;k_places;have pl:=bU C.f.w0 C.f.h0;have w0:=C.f.w0;have h0:=C.f.h0;obtain⟨r1,r2⟩:=(hR w h s C).2 wh;exact#[_,rfl,_,rfl,p,q,_,_,w,h,rfl,hd,he,d5,b7,IU,IU,IU,IU,λe=>r1 λx y=>C.all e x y,r2]
def EQ:SpD:=λds R=>∃(p q:Pat) (d e:D),ds=[d,e]/\aR p d/\aR q e/\p.Ok/\q.Ok/\(∀x,Told p q false x->R x)/\(Told p q true .non->R (.tup [.str "great"]))
abbrev ut(V:Bx):Prop:=V.Ek ["MotifError","WrongSign","OneLine","TooGreat","TooFar"]
abbrev pA(V:Bx):Prop:=V.D 14 "_law_told" om EQ
def ER(T:V.T "_law_told" ol om)(M8:pz V)(ek:ut V):pA V:=by
 refine Tx.okDW T sc__law_told (λds R h=>?_) (λf cdv A outer s H E J hr=>⟨_,((ag (ai 2 sc__law_told.nd bq)
   (ag (ze (λpn xe J hp hx=>(aj (ai 2 sc__law_told.nd (rH M8 hx hr (ac (aa 0) (ac (aa 1) ae)))))) (yM ek (λe=>(aj (ai 2 sc__law_told.nd (au (ac ax ae))))) yL))
   (aj (ar (aa 2)))))),λds R h=>?_⟩)
 .obtain⟨_,_,_,_,rfl,_⟩:=h;rfl
 .obtain⟨p,q,d,e,rfl,hd,he,d5,b7,hR,hG⟩:=h;obtain⟨wd,fI,sd,fs,rfl,q1,q2,fam⟩:=hd;have hd:aR p (.obj "Pattern" fs):=#[wd,fI,sd,fs,rfl,q1,q2,fam];obtain⟨v5,k8,v6,g_,rfl,q3,q4,f_⟩:=he;have he:aR q (.obj "Pattern" g_):=#[v5,k8,v6,g_,rfl,q3,q4,f_];refine#[λx=>x=.non,rfl,?_];rintro _ rfl;k_places;refine#[λz x l5=>z=[be (.obj "Pattern" fs),be (.obj "Pattern" g_),be .non]/\x="TooGreat"/\Told p q true .non,λJ' hJ=>?_,?_]
  .refine#[λx=>Told p q false x,?_,?_]
   .show uq [.obj "Pattern" fs,.obj "Pattern" g_] _ (J'.RX _);rw[hJ];exact#[p,q,_,_,rfl,hd,he,d5,b7,λw h s C=>#[λbig=>#[rfl,rfl,.big C big],λwh=>#[λe=>.same C wh e,λx y a b c d ne bf=>.part C wh #[a,b,c,d,ne,bf]]]]
   rintro x hx;cases hx with
   |same c b e=>exact hR _ (.same c b e)
   |part c b f=>exact hR _ (.part c b f)
  .rintro z x l5⟨rfl,rfl,hx⟩;k_places;refine#[#[y8,y8],?_];rw[if_pos IA];refine#[λx=>x=.tup [.str "great"],#[KK,rfl],?_];rintro _ rfl;k_places;exact hG hx
abbrev pB(V:Bx):Prop:=V.D 2 "_law_numbers" ot Ce
def ES(T:V.T "_law_numbers" oq ot)(uB:V.m "len")(uM:V.m "isinstance")(x_:V.m "tuple")(uA:V.m "range")(JP:iU V):pB V:=by
 refine Tx.okDW T sc__law_numbers (λds R h=>?_) (λf cdv A outer s H E J hr=>⟨_,((ag (aJ (cF (cE (cx (bD (de uM x_ (aa 0) PyProof.Rows.boot_tuple kit_tuple))) (dM (bK (ck uB (ac (aa 0) ae)) (ck uB (ac (aa 1) ae)))))) (aj (ar cL)) aE)
   (ag (bL 2 PassesOwn.never rfl sc__law_numbers.nd uA (ck uB (ac (aa 1) ae)) (aj (aJ (cF (cE (cx (bD (ao JP hr (ac (af (aa 0) (aa 2)) ae)))) (dM (bK (af (aa 0) (aa 2)) (af (aa 1) (aa 2)))))) (aj (ar cL)) aE)))
   (aj (ar cL))))),λds R h=>?_⟩)
 .obtain⟨xs,rfl,_⟩:=h;rfl
 .obtain⟨xs,rfl,xl,hR⟩:=h;refine ite2 (λc=>absurd c IV) λ_=>?_;refine#[#[IU,by rw[E9];omega],λk z=>∃o,z=[be (.tup (xs.map D.int)),be (.tup (xs.map D.int)),o],#[_,rfl],?_,?_]
  .rintro k v z hk⟨o,rfl⟩;k_places;obtain⟨k_,rfl⟩:=bF hk;rw[E9]at k_;have P6:k<xs.length:=by omega
   have ak:atI (xs.map D.int) (k:Int)=be (.int xs[k]):=bI (by rw[Fg,Fo P6];rfl);exact#[_,ak,_,rfl,_,ak,_,ak,ite2 (λc=>absurd c IV) λ_=>#[_,rfl]]
  .rintro z⟨o,rfl⟩;k_places;exact hR
def ET{fa:KF}{fd:QR}(F:Fun V.K "law" "law" iA fa fd)(uM:V.m "isinstance")(JO:V.m "bool")(JI:iI V)(M9:oF V)(uU:iC V)(M_:oI V)(Na:oJ V)(Nb:oK V)(Ld:oQ V)(uW:eN V)(Le:oR V)(Lf:pe V)(Nd:pf V)(IN:iZ V)(Nf:pr V)(Ng:pA V)(JH:iH V)(Nh:pB V):FnOk V.P V.w V.K V.mg V.base (Exc.CX1 V.P V.w) 19 fa fd ou (lSp V.K dQ):=by
 refine Fun.okDW F sc_law (λds R h=>?_) (λcdv A outer s H E J hr=>⟨_,((ag (ai 1 sc_law.nd (ao JI hr (ac (aa 0) (ac ad ae))))
   (ag (ai 2 sc_law.nd (ao M9 hr (ac (ao M_ hr (ac (aa 1) (ac (aa 0) (ac ad (ac (ao uU hr (ac (aa 0) (ac ad ae))) ae))))) (ac (ao uU hr (ac (aa 0) (ac ad ae))) ae))))
   (ag (cG (aV (av (ao uU hr (ac (aa 0) (ac ad ae))) ad) ad) (aj (jE rfl (ao Na hr (ac (aI (ao uU hr (ac (aa 0) (ac ad ae))) ad) ae)) (dg_cons 1 sc_law.nd (dg_cons 2 sc_law.nd cy)))) aE)
   (ag (cG (aV (av (ao uU hr (ac (aa 0) (ac ad ae))) ad) ad) (aj (jE rfl (ao Nb hr (ac (aI (ao uU hr (ac (aa 0) (ac ad ae))) ad) ae)) (dg_cons 1 sc_law.nd (dg_cons 2 sc_law.nd cy)))) aE)
   (ag (ai 3 sc_law.nd (aH (ac (ao Ld hr (ac (aa 1) ae)) (ac (ao Ld hr (ac (aa 2) ae)) ae))))
   (ag (ai 4 sc_law.nd (ao uW hr (ac (am (af (aa 1) ad) (af (aa 2) ad)) ae)))
   (ag (ai 5 sc_law.nd (gC (dJ hr) (af (aa 3) ad) (af (aa 3) ad)))
   (ag (cG (qZ (aa 4) bq) (aj (ai 5 sc_law.nd (qU (ao Le hr (ac (af (aa 1) ad) (ac (af (aa 2) ad) (ac (aa 4) ae)))) bq))) aE)
   (ag (ai 6 sc_law.nd (ao (CalX.no Lf) hr (ac (af (aa 1) ad) ae)))
   (ag (ai 7 sc_law.nd (ao (CalX.no Lf) hr (ac (af (aa 2) ad) ae)))
   (ag (ai 8 sc_law.nd (ao Nd hr (ac (ao IN hr (ac (aa 6) ae)) (ac (ao IN hr (ac (aa 7) ae)) ae))))
   (ag (ai 9 sc_law.nd (ao Nf hr (ac (aa 6) (ac (aa 7) ae))))
   (ag (aJ (cF (cE (fY (aa 8) bq) (cE (bK (aa 8) (aa 5)) (cE (cx (bD (de uM JO (aa 9) PyProof.Rows.boot_bool kit_bool))) (dM (bK (aa 9) (aa 5))))))) (aj (ar cL)) aE)
   (ag (ai 10 sc_law.nd (ao Ng hr (ac (aa 6) (ac (aa 7) ae))))
   (ag (aJ (bD (aa 5)) (aj (ar (qU (aa 10) bq))) aE)
   (ag (ai 4 sc_law.nd (ao JH hr (ac (af (af (aa 3) ad) ad) (ac (af (af (aa 3) ad) ad) ae))))
   (ag (aJ (fY (aa 4) bq) (aj (ar (gC (dJ hr) (aa 10) (au (ac ax ae))))) aE)
   (aj (ar (ao Nh hr (ac (aa 10) (ac (ao Le hr (ac (af (aa 1) ad) (ac (af (aa 2) ad) (ac (aa 4) ae)))) ae))))))))))))))))))))))),λds R h=>?_⟩)
 .obtain⟨ns,rfl,_⟩:=h;rfl
 .obtain⟨ns,rfl,hl,hR⟩:=h;refine#[PatD,#[ns,2,rfl,y8,λp ok=>#[p,rfl,ok]],?_];rintro _⟨p,rfl,d5⟩;k_places;refine#[PatD,#[ns,0,rfl,y8,p,ns,22,_,rfl,d5,y8,λq b7=>#[ns,21,rfl,y8,q,_,rfl,b7,λr P7=>#[r,rfl,P7]]],?_];rintro _⟨q,rfl,b7⟩;k_places;refine#[λz=>∃p q:Pat,z=[be (.rol (ns.map D.int)),be p.D,be q.D,m_,m_,m_,m_,m_,m_,m_,m_]/\p.Ok/\q.Ok,#[ns,1,rfl,y8,y8,ite2 (λ_=>#[ns,1,rfl,y8,#[y8,y8],_,rfl,λp q k1 k2=>#[rfl,p,q,rfl,k1,k2]]) (λ_=>#[p,q,rfl,d5,b7])],?_];clear d5 b7 p q;rintro _⟨p,q,rfl,d5,b7⟩;k_places;refine#[λz=>∃p q:Pat,z=[be (.rol (ns.map D.int)),be p.D,be q.D,m_,m_,m_,m_,m_,m_,m_,m_]/\p.Ok/\q.Ok,#[ns,1,rfl,y8,y8,ite2 (λ_=>#[ns,1,rfl,y8,#[y8,y8],_,rfl,λp q k1 k2=>#[rfl,p,q,rfl,k1,k2]]) (λ_=>#[p,q,rfl,d5,b7])],?_];clear d5 b7 p q;rintro _⟨p,q,rfl,d5,b7⟩;k_places;refine#[λx=>∃w h s w' h' s',x=.lst [.lst [.tup [.int w,.int h,.int s],aX p w h],.lst [.tup [.int w',.int h',.int s'],aX q w' h']]/\p.Least w h s/\q.Least w' h' s'/\w*h<=720/\w'*h'<=720,#[p,rfl,d5,λw h s L a b=>#[q,rfl,b7,λw' h' s' L' a' b'=>#[J2,w,h,s,w',h',s',rfl,L,L',a,a']]],?_];rintro _⟨w,h,s,w',h',s',rfl,L,L',wh,Od⟩;k_places;have l1:=Pat.leaves_32 d5.deep;have l2:=Pat.leaves_32 b7.deep;refine#[uj p q,#[_,rfl,_,rfl,by rw[E9,E9];omega,C1 d5 b7],?_];rintro x hx;clear l1 l2;obtain⟨o1,o2⟩:=C3 d5 b7 L L';refine#[λx=>∃t:Bool,x=.bl t/\(t=true↔∀x y,p.show x y=q.show x y),#[_,rfl,_,rfl,o1,_,rfl,o2],?_];rintro _⟨t,rfl,ht⟩;k_places;clear o1 o2;refine#[λz=>∃t:Bool,z=[be (.rol (ns.map D.int)),be p.D,be q.D,be (.lst [.lst [.tup [.int w,.int h,.int s],aX p w h],.lst [.tup [.int w',.int h',.int s'],aX q w' h']]),be x,be (.bl t),m_,m_,m_,m_,m_]/\(t=true↔∀x y,p.show x y=q.show x y),?_,?_]
  .rcases hx with rfl|⟨W,Hh,S,rfl,b⟩
   .exact#[t,rfl,ht]
   .refine#[λx=>∃t:Bool,x=.bl t/\(t=true↔∀x y,p.show x y=q.show x y),#[_,rfl,_,rfl,p,q,W,Hh,S,rfl,d5,b7,b.f.w0,b.w7,b.f.h0,b.h7,λe=>#[true,rfl,#[λ_=>b.all e,λ_=>rfl]],λx y _ _ _ _ ne _=>#[false,rfl,(λz=>nomatch z),λz=>absurd (z x y) ne]],?_];rintro _⟨t,rfl,ht⟩;k_places;exact#[t,rfl,ht]
  clear hx ht t;rintro _⟨t,rfl,ht⟩;k_places;refine#[λx=>aR p x,#[_,rfl,tU d5 λd hd=>hd],?_];rintro _⟨wd,hd,sd,fs,rfl,e1,e2,fam⟩;k_places;have Ni:aR p (.obj "Pattern" fs):=#[wd,hd,sd,fs,rfl,e1,e2,fam];refine#[λx=>aR q x,#[_,rfl,tU b7 λd hd=>hd],?_];rintro _⟨v5,k8,v6,g_,rfl,e3,e4,f_⟩;k_places;have Nj:aR q (.obj "Pattern" g_):=#[v5,k8,v6,g_,rfl,e3,e4,f_];clear fam f_ e1 e2 e3 e4;refine#[λx=>x=.bl t,#[p,_,rfl,Ni,d5,λw2 h2 s2 L2 _ _ _=>#[q,_,rfl,Nj,b7,λw3 h3 s3 L3 _ _ _=>#[p,q,w2,h2,s2,w3,h3,s3,rfl,d5,b7,L2,L3,λb hb=>?_]]],?_]
  .rw[show b=t by rw[F6,hb,ht]]
  rintro _ rfl;k_places;refine#[λx=>x=.bl t,#[p,q,_,_,rfl,Ni,Nj,d5,b7,λb hb=>?_],?_]
  .rw[show b=t by rw[F6,hb,ht]]
  rintro _ rfl;k_places;refine ite2 (λc=>absurd c IV) λ_=>?_;refine ite2 (λc=>absurd c IV) λ_=>?_;refine#[λx=>Told p q false x\/(x=.tup [.str "great"]/\Told p q true .non),#[p,q,_,_,rfl,Ni,Nj,d5,b7,λx T=>.inl T,λT=>.inr #[rfl,T]],?_];rintro fd hf;refine ite2 (λc=>?_) λc=>?_
  .have sm:=ht.mp c;have kk:∀X Y,q.Keeps X Y↔p.Keeps X Y:=λX Y=>by
    unfold Pat.Keeps;simp only[sm]
   rcases hf with T|⟨_,T⟩
   .cases T with
    |same c b e=>exact hR
    |part c b f=>exact absurd (sm _ _) f.ne
   .cases T with
    |big C b=>
     obtain⟨rfl,rfl,_⟩:=L.uniq #[C.f,λx y=>(C.lat x y).trans #[λz=>z.1,λz=>#[z,(kk x y).mpr z]]];omega
  have pl:=bU L.f.w0 L.f.h0;have QD:=bU L'.f.w0 L'.f.h0;refine#[λx=>(∃w h s,x=.tup [.int w,.int h,.int s]/\ComF p q w h s/\w*h<=720)\/(x=.non/\∃w h s,ComF p q w h s/\720<w*h),#[_,rfl,_,rfl,_,rfl,_,rfl,w,h,s,w',h',s',rfl,#[L.f.w0,IU,L.f.h0,IU,L.f.s0,L.f.sw],#[L'.f.w0,IU,L'.f.h0,IU,L'.f.s0,L'.f.sw],λw2 h2 s2 A M=>#[λwh=>.inl #[w2,h2,s2,rfl,ComF.of L L' M,wh],λbig=>.inr #[rfl,w2,h2,s2,ComF.of L L' M,big]]],?_];rintro QE Nk;rcases Nk with⟨w2,h2,s2,rfl,C,Ox⟩|⟨rfl,w2,h2,s2,C,big⟩
  .have QF:=bU C.f.w0 C.f.h0;obtain⟨X,Y,rfl,f⟩:∃X Y,fd=.tup [.int X,.int Y]/\First p q w2 h2 X Y:=by
    rcases hf with T|⟨_,T⟩
    .cases T with
     |same c b e=>exact absurd (ht.mpr e) (by assumption)
     |part c b f=>
      obtain⟨rfl,rfl,rfl⟩:=C.uniq c;exact#[_,_,rfl,f]
    .cases T with
     |big c b=>
      obtain⟨rfl,rfl,rfl⟩:=C.uniq c;omega
   refine#[_,rfl,_,rfl,p,q,w2,h2,s2,rfl,d5,b7,C.f.w0,IU,C.f.h0,IU,λe=>absurd (C.all e X Y) f.ne,λx y a b c d ne bf=>?_];obtain⟨rfl,rfl⟩:=f.uniq #[a,b,c,d,ne,bf];exact#[[_,_],rfl,J2,hR]
  .obtain rfl:fd=.tup [.str "great"]:=by
    rcases hf with T|⟨e,_⟩
    .cases T with
     |same c b e=>exact absurd (ht.mpr e) (by assumption)
     |part c b f=>
      obtain⟨rfl,rfl,rfl⟩:=C.uniq c;omega
    .exact e
   exact#[KK,rfl,hR]
end
abbrev EU:P3:=bi (top 2) 0
abbrev EV:P3:=bi (top 3) 0
local macro_rules | `(tactic| walk_at "b1") => `(tactic| exact zZ λ_ _ _ _ _ _ _ => rfl)
local macro_rules | `(tactic| walk_at "b2") => `(tactic| exact bind2 λ_ _ _ _ _ _ _ _ => rfl)
local macro_rules | `(tactic| walk_at "b3") => `(tactic| exact bind3 λ_ _ _ _ _ _ _ _ _ => rfl)
local macro_rules | `(tactic| walk_at "b4") => `(tactic| exact bind4 λ_ _ _ _ _ _ _ _ _ _ => rfl)
local macro_rules | `(tactic| walk_at "b5") => `(tactic| exact bind5 λ_ _ _ _ _ _ _ _ _ _ _ => rfl)
structure TopIn(K:Ex):Prop where
 uEY:FnIn K "_law_at" km
 uGX:FnIn K "_law_draws" kr
 uIL:FnIn K "_law_lines" ky
 uIP:FnIn K "_law_shift_pair" kA
 uHA:FnIn K "_law_motif_text" kC
 uIO:FnIn K "_law_motif" kE
 uIK:FnIn K "_law_wrapped" gL
 uEJ:FnIn K "_law_gcd" kH
 uEN:FnIn K "_law_on" kJ
 uHY:FnIn K "_law_leaf_family" kL
 uGC:FnIn K "_law_in_family" kN
 uGY:FnIn K "_law_both" kP
 uGM:FnIn K "_law_family" kR
 uGP:FnIn K "_law_over" kT
 uEO:FnIn K "_law_pattern" kW
 uGH:FnIn K "_law_veiled" kY
 uGK:FnIn K "_law_shifted_home" lf
 uEL:FnIn K "_law_respelled" lm
 uIF:FnIn K "_law_twin" lr
 uFU:FnIn K "_law_bricks" lv
 uHB:FnIn K "_law_bound_pair" lz
 uIQ:FnIn K "_law_keeps" lD
 uJL:FnIn K "_law_least" lG
 uGJ:FnIn K "_law_leaf_shows" lJ
 uGO:FnIn K "_law_shows" lL
 uIW:FnIn K "_law_table" gM
 uFA:FnIn K "_law_own" lP
 uJG:FnIn K "_law_unlike" lR
 uFW:FnIn K "line_from" lZ
 uHR:FnIn K "lines_from" me
 uII:FnIn K "number_from" mi
 uGR:FnIn K "shift_from" mm
 uHU:FnIn K "levelled" mo
 uIJ:FnIn K "spread" mv
 uJI:FnIn K "home" mz
 uFC:FnIn K "hues_by_home" mC
 uFK:FnIn K "motif_from" mH
 uJU:FnIn K "over_from" gN
 uEW:FnIn K "shifted_from" gO
 uFR:FnIn K "rehue_from" gP
 uEK:FnIn K "form_from" gQ
 uHM:FnIn K "measure" nh
 uGW:FnIn K "met" nq
 uGQ:FnIn K "mirrored" nu
 uJY:FnIn K "turned" nw
 uIG:FnIn K "read" nz
 uHG:FnIn K "_law_whole" nB
 uHV:FnIn K "_law_equal" nD
 uIS:FnIn K "refuse_far" nF
 uJQ:FnIn K "cell_at" nH
 uIB:FnIn K "row_from" ip
 uHH:FnIn K "field_rows" iq
 uIT:FnIn K "measures" ir
 uJH:FnIn K "round_row" nN
 uIY:FnIn K "changes_nothing" nP
 uFF:FnIn K "least_width" iu
 uIN:FnIn K "slant_at" nS
 uEH:FnIn K "least_shifts" iy
 uHL:FnIn K "least_form" iz
 uJM:FnIn K "one_pattern" nX
 uJV:FnIn K "common_field" nZ
 uJN:FnIn K "first_unlike" og
 uEM:FnIn K "first_parting" oi
 uFG:FnIn K "_law_told" ol
 uJK:FnIn K "_law_numbers" oq
 uGL:FnIn K "law" iA
 uHQ:NnIn K "len"
 uFP:NnIn K "range"
 uHS:NnIn K "int"
 uGI:NnIn K "str"
 uFI:NnIn K "list"
 uID:NnIn K "abs"
 uIV:NnIn K "max"
 uHF:NnIn K "enumerate"
 uJZ:NnIn K "isinstance"
 uJO:NnIn K "bool"
 uGV:NnIn K "tuple"
 uKC:NnIn K "min"
 uCA:ClIn K "Reading"
 uBT:ClIn K "Motif"
 uDM:ClIn K "Mirror"
 uCT:ClIn K "Turn"
 uCB:ClIn K "Over"
 uBN:ClIn K "Shifted"
 uBO:ClIn K "Rehue"
 uDG:ClIn K "Pattern"
 uGG:InIn K "Motif" "Motif.__init__" mF
 uJR:InIn K "Mirror" "Mirror.__init__" mJ
 uJX:InIn K "Turn" "Turn.__init__" mL
 uEX:InIn K "Over" "Over.__init__" mN
 uFO:InIn K "Shifted" "Shifted.__init__" mQ
 uKD:InIn K "Rehue" "Rehue.__init__" mU
 uJD:InIn K "Reading" "Reading.__init__" mW
 uFQ:InIn K "Pattern" "Pattern.__init__" mZ
 uHJ:MtIn K "Reading" "may_take" "Reading.may_take" lV
 uHE:MtIn K "Reading" "take" "Reading.take" lX
 uIX:MtIn K "Motif" "family" "Motif.family" gR
 uFH:MtIn K "Over" "family" "Over.family" gS
 uFD:MtIn K "Shifted" "family" "Shifted.family" gU
 uGT:MtIn K "Mirror" "family" "Mirror.family" gX
 uJJ:MtIn K "Turn" "family" "Turn.family" gZ
 uEP:MtIn K "Rehue" "family" "Rehue.family" hV
 uES:MtIn K "Motif" "shows" "Motif.shows" ia
 uJP:MtIn K "Over" "shows" "Over.shows" ib
 uJE:MtIn K "Shifted" "shows" "Shifted.shows" ie
 uIA:MtIn K "Mirror" "shows" "Mirror.shows" ii
 uJB:MtIn K "Turn" "shows" "Turn.shows" ik
 uFV:MtIn K "Rehue" "shows" "Rehue.shows" im
 uGD:NoIn K "Reading" "text"
 uJC:NoIn K "Reading" "place"
 uEI:NoIn K "Motif" "place"
 uFT:NoIn K "Motif" "shifts"
 uHP:NoIn K "Motif" "hues"
 uET:NoIn K "Mirror" "form"
 uGE:NoIn K "Turn" "form"
 uFL:NoIn K "Over" "above"
 uHW:NoIn K "Over" "below"
 uJF:NoIn K "Shifted" "form"
 uIZ:NoIn K "Shifted" "x"
 uEQ:NoIn K "Shifted" "y"
 uHZ:NoIn K "Rehue" "form"
 uER:NoIn K "Rehue" "old"
 uHN:NoIn K "Rehue" "new"
 uFX:NoIn K "Pattern" "text"
 uHX:NoIn K "Pattern" "shifts"
 uFS:NoIn K "Pattern" "form"
 uFZ:CsIn K "SIGNS" ".123456"
 uJW:CiIn K "LONGEST" 8
 uGS:CiIn K "DEEP" 5
 uIH:CiIn K "MOST" 720
 uGU:CiIn K "FAR" 1000000000000
 eb:EbIn K
 uFE:E1In K "WrongSign" "WrongSign.__init__" EU
 uGN:E1In K "OneLine" "OneLine.__init__" EV
 uDV:E0In K "TooGreat"
 uDX:E0In K "TooFar"
 uHT:EmIn K "MotifError" "MotifError"
 uIC:EmIn K "MotifError" "WrongSign"
 uGA:EmIn K "MotifError" "OneLine"
 uHD:EmIn K "MotifError" "TooGreat"
 uHO:EmIn K "MotifError" "TooFar"
 uJA:EmIn K "WrongSign" "MotifError"
 uIE:EmIn K "WrongSign" "WrongSign"
 uKB:EmIn K "WrongSign" "OneLine"
 uFJ:EmIn K "WrongSign" "TooGreat"
 uGB:EmIn K "WrongSign" "TooFar"
 uEU:EmIn K "OneLine" "MotifError"
 uHI:EmIn K "OneLine" "WrongSign"
 uIM:EmIn K "OneLine" "OneLine"
 uHC:EmIn K "OneLine" "TooGreat"
 uGF:EmIn K "OneLine" "TooFar"
 uEV:EmIn K "TooGreat" "MotifError"
 uFN:EmIn K "TooGreat" "WrongSign"
 uFM:EmIn K "TooGreat" "OneLine"
 uIR:EmIn K "TooGreat" "TooGreat"
 uKA:EmIn K "TooGreat" "TooFar"
 uHK:EmIn K "TooFar" "MotifError"
 uFB:EmIn K "TooFar" "WrongSign"
 uJT:EmIn K "TooFar" "OneLine"
 uFY:EmIn K "TooFar" "TooGreat"
 uEZ:EmIn K "TooFar" "TooFar"
def EW{V:Bx}{h:QN}(t:TopIn V.K)(X:V.K.In h)(G:h.Ns Pi V.mg){fa:KF}{fd:QR}(F:Fun V.K "law" "law" iA fa fd):FnOk V.P V.w V.K V.mg V.base (Exc.CX1 V.P V.w) 19 fa fd ou (lSp V.K dQ):=by
 have uB:=mg_none_of X G t.uHQ;have uA:=mg_none_of X G t.uFP;have uD:=mg_none_of X G t.uHS;have uI:=mg_none_of X G t.uGI;have JB:=mg_none_of X G t.uFI;have uN:=mg_none_of X G t.uID;have Jh:=mg_none_of X G t.uIV;have Jo:=mg_none_of X G t.uHF;have uM:=mg_none_of X G t.uJZ;have JO:=mg_none_of X G t.uJO;have x_:=mg_none_of X G t.uGV;have JR:=mg_none_of X G t.uKC;have IG:=t.uCA.a t.uGD;have uL:=t.uCA.a t.uJC;have MF:=t.uBT.a t.uEI;have uK:=t.uBT.a t.uFT;have IH:=t.uBT.a t.uHP;have uQ:=t.uDM.a t.uET;have uT:=t.uCT.a t.uGE;have uO:=t.uCB.a t.uFL;have uR:=t.uCB.a t.uHW;have uS:=t.uBN.a t.uJF;have II:=t.uBN.a t.uIZ;have IJ:=t.uBN.a t.uEQ;have uP:=t.uBO.a t.uHZ;have IK:=t.uBO.a t.uER;have IL:=t.uBO.a t.uHN;have MN:=t.uDG.a t.uFX;have uZ:=t.uDG.a t.uHX;have JM:=t.uDG.a t.uFS;have x9:=t.uFZ.g X G;have La:=t.uJW.g X G;have Kx:=t.uGS.g X G;have JN:=t.uIH.g X G;have MU:=t.uGU.g X G;have M5:=t.uDV.k t.eb X G;have MV:=t.uDX.k t.eb X G;have ek:ut V:=Aa #[(let ⟨C,N,bm,k,_⟩:=t.eb.k X G;#[C,N,bm,k]),(t.uFE.c t.eb X G),(t.uGN.c t.eb X G),(let ⟨C,N,bm,k,_⟩:=t.uDV.k t.eb X G;#[C,N,bm,k]),(let ⟨C,N,bm,k,_⟩:=t.uDX.k t.eb X G;#[C,N,bm,k]),trivial] #[#[t.uHT,t.uIC,t.uGA,t.uHD,t.uHO,trivial],#[t.uJA,t.uIE,t.uKB,t.uFJ,t.uGB,trivial],#[t.uEU,t.uHI,t.uIM,t.uHC,t.uGF,trivial],#[t.uEV,t.uFN,t.uFM,t.uIR,t.uKA,trivial],#[t.uHK,t.uFB,t.uJT,t.uFY,t.uEZ,trivial],trivial];have uU:iC V:=C4 (t.uEY.tx X G J4) uB;have JA:iD V:=C5 (t.uGX.tx X G Mn) uA uU;have L8:oA V:=C6 (t.uIL.tx X G KS) uA uB;have L9:oB V:=C7 (t.uIP.tx X G KS) uD;have uV:eM V:=C8 (t.uHA.tx X G Mn) uI;have Ji:iE V:=C9 (t.uIO.tx X G J4) JA L8 L9 uV;have uJ:fF V:=Da (t.uIK.tx X G J4) uI JB uD;have JF:iF V:=Db (t.uEJ.tx X G J4) uN;have JG:iG V:=Dc (t.uEN.tx X G NB);have K8:oC V:=Dd (t.uHY.tx X G KS) uN JF JG;have Mi:oE V:=De (t.uGC.tx X G Mn);have JH:iH V:=Df (t.uGY.tx X G J4) JF Mi;have uW:eN V:=Dg (t.uGM.tx X G KS) K8 JH;have uY:fG V:=Dh (t.uGP.tx X G J4) Jh uW;have JI:iI V:=Di (t.uEO.tx X G J4) uA JA Ji uJ uY;have M9:oF V:=Dk (t.uGH.tx X G J4) uY uV;have Ms:oG V:=Dm (t.uGK.tx X G J4) uW uJ;have Mt:oH V:=Do (t.uEL.tx X G Mn) uB JB;have M_:oI V:=Dq (t.uIF.tx X G NB) uJ uY Ms Ji Mt JI;have Na:oJ V:=Ds (t.uFU.tx X G KS) uV;have Nb:oK V:=Du (t.uHB.tx X G KS) uI uV;have K9:oM V:=Dv (t.uIQ.tx X G NB) uA;have MB:oN V:=Dw (t.uJL.tx X G J4) K9;have Mz:oO V:=Dx (t.uGJ.tx X G Mn) uA uB uD JG;have Jl:iJ V:=Dy (t.uGO.tx X G Mn) Mz;have K':oP V:=Dz (t.uIW.tx X G J4) uA Jl;have Ld:oQ V:=DC (t.uFA.tx X G KS) uW MB K';have Le:oR V:=DF (t.uJG.tx X G Mn) uA Jl;have uG:cT V:=DG (t.uHJ.txm t.uCA J4) uB IG uL;have uC:cD V:=DJ (t.uHE.txm t.uCA J4) uG;have K_:oS V:=DK (t.uFW.tx X G Mn) uA x9 uC uG;have MG:oU V:=DL (t.uHR.tx X G KS) uB K_ La uG;have Lb:oV V:=DM (t.uII.tx X G KS) uD uG uC;have G':fH V:=DN (t.uGR.tx X G KS) Lb uC;have JK:iK V:=DO (t.uHU.tx X G J4);have JL:iL V:=DP (t.uIJ.tx X G J4) uN JK;have uX:eO V:=DQ (t.uJI.tx X G Mn);have MD:oW V:=DR (t.uFC.tx X G J4) Jo uX x9;have MH:oX V:=DU (t.uGG.txi X G (by walk_at "b5")) JL MD MF uK IH;have Kw:iM V:=DV (t.uFK.tx X G KS) MG G' uL MH uC;have Ky:iN V:=DX (t.uJR.txi X G J4) uQ;have Kz:iO V:=DY (t.uJX.txi X G J4) uT;have Kt:iP V:=DZ (t.uEX.txi X G Mn) uO uR;have Ku:iQ V:=D0 (t.uFO.txi X G NB) uS II IJ;have Kv:iR V:=D1 (t.uKD.txi X G NB) uP IK IL;have uH:ul V:=D6 (t.uJU.tx X G J4) (t.uEW.tx X G J4) (t.uFR.tx X G J4) (t.uEK.tx X G J4) Kt uC G' Ku uD Kv Kw Kx Ky Kz uG 6;have MP:oY V:=D7 (t.uJD.txi X G J4) IG uL;have MQ:oZ V:=D8 (t.uFQ.txi X G NB) MN uZ JM;have KC:pd V:=D9 (t.uHM.tx X G J4) JK;have IM:fJ V:=Ea (t.uGW.tx X G J4) KC;have KE:iS V:=Eb (t.uGQ.tx X G KS);have KG:iT V:=Ec (t.uJY.tx X G KS) JL;have uF:um V:=Ei (t.uIX.txm t.uBT KS) (t.uFH.txm t.uCB KS) (t.uFD.txm t.uBN KS) (t.uGT.txm t.uDM KS) (t.uJJ.txm t.uCT KS) (t.uEP.txm t.uBO KS) uK IM uO uR uS KE uQ KG uT uP 6;have Lf:pe V:=Ej (t.uIG.tx X G KS) uB uH JN uL MP MQ uF;have JP:iU V:=El (t.uHG.tx X G KS) uM JO uD;have Nd:pf V:=En (t.uHV.tx X G J4) uM x_ uB uI JP;have MX:ph V:=Eo (t.uIS.tx X G J4) Jh uN MU MV;have uE:uo V:=Ev (t.uES.txm t.uBT Mn) (t.uJP.txm t.uCB Mn) (t.uJE.txm t.uBN Mn) (t.uIA.txm t.uDM Mn) (t.uJB.txm t.uCT Mn) (t.uFV.txm t.uBO Mn) uX IH uK uO uR uS IJ II uQ uT uP IK IL 6;have Jq:iV V:=Ew (t.uJQ.tx X G Mn) MX JM uE;have JQ:iW V:=Ey (t.uIB.tx X G NB) uA Jq x9;have M0:pi V:=Ez (t.uHH.tx X G KS) uA JQ uZ;have JS:C_measures V:=EA (t.uIT.tx X G KS) uA;have MY:pj V:=EB (t.uJH.tx X G NB) uX;have JT:iX V:=EC (t.uIY.tx X G NB) Jo MY;have M4:pp V:=EE (t.uFF.tx X G J4) JR JS JT;have Lc:pq V:=EF (t.uIN.tx X G NB) uA JT;have Js:iY V:=EG (t.uEH.tx X G KS) JR M0 M4 JS Lc uZ;have IN:iZ V:=EH (t.uHL.tx X G KS) uA x_ Js JQ;have Nf:pr V:=EJ (t.uJM.tx X G J4) IN;have M6:pv V:=EL (t.uJV.tx X G J4) IM Js JN M5;have M7:pw V:=EN (t.uJN.tx X G NB) uA Jq;have M8:pz V:=EO (t.uEM.tx X G J4) M6 M7;have Ng:pA V:=ER (t.uFG.tx X G J4) M8 ek;have Nh:pB V:=ES (t.uJK.tx X G J4) uB uM x_ uA JP;exact ET F uM JO JI M9 uU M_ Na Nb Ld uW Le Lf Nd IN Nf Ng JH Nh
def all_mk{l:G5}{w:QL}{K:Ex}{h:QN}{mg:t6->Option KB}{fa:KF}(X:K.In h)(G:h.Ns Pi mg)(LS:mg "law"=be (.ref fa))(t:TopIn K):
  ∃fd:QR,(∀(s:KM) (v:KB),RN s fd #[[v],[]] [("_law_script",v)])/\∀base:QN,K.In base->base.Ns Pi mg->FnOk l.prog w K mg base (Exc.CX1 l.prog w) 19 fa fd ["_law_script"] (lSp K dQ):=by
 obtain⟨fd,b,F⟩:=t.uGL.law X G LS (λ_ _ _ _ _ _ _=>rfl);exact#[fd,b,λbase _ _=>EW (V:=#[l.prog,w,K,mg,base]) t X G F]
def law_walk{l:G5}{q:QH}{i6:List t6}{XP:(t6->Option KB)->QN->Prop}{YP:QL->QN->Prop}{d:DefRec}{K:Params->Ex}(hn:l.most=be 63)(J0:d.params.defaults=[])
  (hY:∀(w:QL) (h:QN),YP w h->(K w.params).In h)
  (F:∀(w:QL) (mg:t6->Option KB) (fa:KF) (h:QN),(K w.params).In h->h.Ns Pi mg->mg d.name=be (.ref fa)->
   ∃fd:QR,(∀(s:KM) (u:KB),RN s fd #[[u],[]] [("_law_script",u)])/\∀base:QN,(K w.params).In base->base.Ns Pi mg->FnOk l.prog w (K w.params) mg base (Exc.CX1 l.prog w) 19 fa fd ["_law_script"] (lSp (K w.params) dQ)):
  Hx q i6 XP YP l.row.toRowW d [] (λf vs=>PySem.call f vs):=
 L2.walk_of (n:=63) (k:=19) (x:="_law_script") (CX:=λw=>Exc.CX1 l.prog w) (sp:=λw=>lSp (K w.params) dQ) hn y8 J0 #[rfl,y8,y8] hY F (λ_ _ a ns hl _ hS=>yb hl hS) λ_ _ _ _ _ h=>by obtain⟨_,_,_,_,_,_,_,_,_,_,_,_,_,_,_,z⟩:=h;exact z
end My
open PySem PySem.W PyProof.Rows
set_option maxRecDepth 100000 in
set_option maxHeartbeats 0 in
theorem PySem.Challenge.cw_motiffield_k39_whole_one_form_holds : PySem.Challenge.rw_motiffield_k39_whole_one_form.Holds := by
  w_on;o_law;k_head;(case hw =>w_witness2)
  k_fill
  refine My.law_walk (l :=PySem.Challenge.rw_motiffield_k39_whole_one_form) rfl rfl (λw h Y =>kIn_of Y) ?F
  case F =>
    intro w mg fa h KX G j_;refine My.all_mk KX G j_ ?_;constructor
    all_goals first|((with_reducible refine' My.fnIn_mk ?a ?l ?c ?k);(case a =>k_is);(case l =>k_is);(case c =>k_is);(case k =>k_is))|((with_reducible refine' My.nnIn_mk ?a);(case a =>k_is))|((with_reducible refine' My.noIn_mk ?a ?b);(case a =>k_is);(case b =>k_is))|((with_reducible refine' My.mtIn_mk ?a ?b ?i ?l ?c ?k);(case a =>k_is);(case b =>k_is);(case i =>k_is);(case l =>k_is);(case c =>k_is);(case k =>k_is))|((with_reducible refine' My.inIn_mk ?a ?mk ?b ?i ?kp ?l ?c ?k);(case a =>k_is);(case mk =>k_is);(case b =>k_is);(case i =>k_is);(case kp =>k_is);(case l =>k_is);(case c =>k_is);(case k =>k_is))|((with_reducible refine' My.clIn_mk ?a ?pg ?hd ?po ?sa ?ha ?hn ?ht ?hm);(case a =>k_is);(case pg =>k_is);(case hd =>k_is);(case po =>k_is);(case sa =>k_is);(case ha =>k_is);(case hn =>k_is);(case ht =>k_is);(case hm =>k_is))|((with_reducible refine' My.ciIn_mk ?a);(case a =>k_is))|((with_reducible refine' My.csIn_mk ?a);(case a =>k_is))|((with_reducible refine' My.ebIn_mk ?a ?kp ?o ?nk ?al ?ni);(case a =>k_is);(case kp =>k_is);(case o =>k_is);(case nk =>k_is);(case al =>rfl);(case ni =>k_is))|((with_reducible refine' My.e0In_mk ?b ?a ?kp ?o ?nk ?al ?ni);(case b =>k_is);(case a =>k_is);(case kp =>k_is);(case o =>k_is);(case nk =>k_is);(case al =>rfl);(case ni =>k_is))|((with_reducible refine' My.e1In_mk ?b ?a ?kp ?o ?j ?i ?l ?c ?k);(case b =>k_is);(case a =>k_is);(case kp =>k_is);(case o =>k_is);(case j =>k_is);(case i =>k_is);(case l =>k_is);(case c =>k_is);(case k =>k_is))|((with_reducible refine' My.emIn_mkT ?e ?a ?c ?d);(case e =>decide);(case a =>k_is);(case c =>k_is);(case d =>k_is))|((with_reducible refine' My.emIn_mkF ?e ?a ?c ?d);(case e =>decide);(case a =>k_is);(case c =>k_is);(case d =>k_is))
end
