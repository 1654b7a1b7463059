import PyProof.Rows.All
import Wide.All
import OpenK.AllK
import Wide.FinOn
import Lean
import PyProof.EqAt
import PyProof.EqKinds
import PyProof.TupleCall
import PySem.Challenge.RW_motiffield_k45_whole_least_again
set_option compiler.extract_closed false
set_option Elab.async false
set_option linter.all false
set_option maxRecDepth 100000
set_option maxHeartbeats 4000000
open PySem renaming Str->x9
open Option renaming some->be,none->q_
open PySem renaming Value->KB,Addr->KF,Shared->KM,wpAny_bind->Os,mainGlobals->O8,Program->O9,Expr->O_,wpAny_pure->Pa,Stmt->Pb,model->Pc,wpAny->Pd,World->Pe,Around->Pf,starEach->Pg,FuncData->Ph,attributeBase->Pi,eval->Pj,assignEach->Pk,Pos->Pm,wpAny_mono->Pn,wpAny_Call_Name_kw->Po,compareOp->Pp,wpAny_newObj_type->Pq,bootBuiltins->Pr,swapsWith->Pt,Obj->Pu,binaryOp->Pw,wpAny_passesOwn->Px,behindInMarks->Py,wpAny_loadPart_at->Pz,sysModules->PB,excClassObj->PC,PassesOwn->PF,Scope->PH,wpAny_getItem_str_slice->PJ,wpAny_field->PK,sliceBounds->PL,keywordEach->PM,NameKind->PN,backTo->PP,codeAny_mono->PQ,bindArgs->PR,Env->PU,wpAny_truthy_bool->PV,wpAny_pyIter_enum->PX,wpAny_assign_Name->PY,tupleKind->P0,wpAny_pyNext_range_end->P1,wpAny_pyIter_rangeiter->P2,wpAny_call->P3,codeAny->P4,wpAny_execs_nil->P5,post_val_or_str->P6,letOwnedTupleGo->P7,wpAny_setField->P8,sizeLine_eq->P9,rawInt->P',backToKw->P_,assign->Qa,IsRangeIter->Qb,Keyword->Qc,wpAny_standAt->Qd,standAt->Qe,callerA->Qf,cLine->Qg,BindsTo->Qi,plainObj_wpAny_Assign_Attribute->Qj,noteFrame->Qk,getMethod->Ql,IsPart->Qm,atKey->Qn,valueAt->Qo,wpAny_letOwnedTupleGo_enum->Qp,dictSetDefault->Qq,compEnvC->Qr,wpAny_holding->Qs,wpAny_comprehension_free->Qt,bindL->Qu,bindC->Qv,leaving->Qx,holding->Qy,getItem->Qz,codeAny_compStart_list->QA,call_meetsIn->QB,Sem->QC,wpAny_newFunctionEnv->QD,lookup_relabel_local->QE,codeAny_call_builtin->QF,wpAny_isSubtype_exc->QG,wpAny_call_exc_subT->QH,wpAny_pyIter_range->QI,wpAny_entryPlaceOf->QJ,wpAny_Name->QK,typeIs_str->QL,tupleKind_room_in1->QM,isInstance->QN,builtinsNs->QO,wpAny_frameOf_fun->QQ,relabel->QR,foldedSetIterable->QS,CmpOp->QT
open PyProof.Rows renaming envOfC->Pl,AllBare->PZ,IntsAre->Qh,subscriptTail_builtinR->Qw,boot_range->QP
open PySem.W renaming Frag->DR,findIn->D3,mroIn->E6,OpenLaw->FW,clsIn->FZ,WalkO->Gq
open Nat renaming le_refl->DU,ne_of_lt->D8,le_trans->D9,zero_le->Ej,lt_of_lt_of_le->Ep,pow_succ->Ey,pow_le_pow_right->EL,pow_pos->ES,ne_of_gt->ET,le_succ->EV,lt_irrefl->E3,not_lt_zero->Fc,zero_add->Fg,le_of_not_lt->Fj,lt_or_ge->Fq,le_of_lt->Fw,le_of_eq->Fz,succ_mul->FI,mul_le_mul->F8,le_max_left->Ga,le_max_right->Gb,pow_add->Gc,lt_succ_self->Gk,lt_of_le_of_lt->Gr,lt_trans->Gs,log2_lt->Gw,lt_succ_of_lt->Gz,add_sub_add_right->GA,succ_ne_self->GF,lt_of_succ_lt_succ->GH,mod_eq_of_lt->GW,add_zero->GZ
open List renaming range->DV,mem_singleton->DY,length_map->DZ,length_cons->D0,size_toArray->D1,mem_cons->D2,mem_cons_of_mem->D4,getElem?_map->D5,length_append->D7,mem_cons_self->Ea,map_cons->Eb,getElem?_eq_some_iff->Ec,mem_append_right->Ed,lookup_cons->Ee,getElem?_set_ne->Eh,getElem?_eq_getElem->Ei,mem_map->El,set_cons_succ->En,set_cons_zero->Eo,mem_append->Et,length_range->Eu,map_append->Ew,getElem?_range->Ex,append_assoc->Ez,append_nil->EA,getD->EB,getElem?_eq_none->EC,cons_append->EF,getElem?_set_self->EG,getElem?_append_left->EH,all_cons->EI,getElem_mem->EJ,nodup_cons->EM,replicate->EN,map_nil->EO,all_eq_true->EQ,lookup->EU,getElem?_append_right->EW,range_succ->EY,not_mem_nil->E1,length->E7,any_cons->E8,find?_cons->E9,map->Fb,length_drop->Fi,length_nil->Fl,getElem?_set->Fo,length_set->Fp,nodup_append->Fs,map_map->Fu,filterMap_cons->Fx,mem_append_left->Fy,length_take->FA,ext_getElem?->FC,map_congr_left->FE,getElem_toArray->FG,drop_eq_getElem_cons->FJ,of_mem_zip->FT,getElem?_replicate->FU,mem_of_getElem?->FV,all_map->FY,drop->F4,eq_nil_of_length_eq_zero->F5,drop_eq_nil_of_le->Gg,mem_filter->Gh,mem_filterMap->Gj,getElem?_take_of_lt->Gm,filterMap_map->Gn,nodup_nil->Gu,contains_cons->Gv,range_succ_eq_map->Gx,forIn_cons->Gy,take_succ->GC,take_of_length_le->GD,dropLast_cons₂->GE,nil_append->GO,take_length->G2,drop_length->G3,mem_iff_getElem?->G4,length_pos_of_mem->G5
open Bool renaming false_ne_true->D6,and_eq_true->Ek,eq_iff_iff->E5,eq_false_iff->Fh,and_true->FF,or_true->FX,and_false->Gp
open Int renaming mul_le_mul_of_nonneg_right->Ef,mul_pos->Eg,emod_lt_of_pos->Em,mul_comm->Er,emod_nonneg->Es,toNat_of_nonneg->Ev,mul_ediv_cancel->EE,emod_def->EK,neg_mul->ER,mul_neg->EZ,add_mul->E2,mul_nonpos_of_nonpos_of_nonneg->Fd,eq_of_mul_eq_mul_right->Fe,lt_trichotomy->Ff,toNat->Ft,sub_zero->Fv,mul_emod_left->FH,emod_add_mul_ediv->FK,sub_mul->FL,add_zero->FM,mul_zero->FN,mul_neg_of_neg_of_pos->FO,neg_add->FP,add_comm->FQ,toNat_natCast->FR,le_trans->FS,natAbs_mul->F6,fmod_eq_zero_of_dvd->F7,eq_of_mul_eq_mul_left->F9,mul_eq_zero->Gd,zero_add->Ge,mul_assoc->Gf,fmod_nonneg_of_pos->GI,fmod_lt_of_pos->GJ,mul_le_mul_of_nonneg_left->GK,mul_fdiv_cancel_of_fmod_eq_zero->GL,dvd_mul_of_dvd_right->GM,mul_le_mul->GN,add_mul_emod_self_right->GQ,dvd_add_left->GR,dvd_mul_right->GS,add_assoc->GT,sub_eq_add_neg->GU,natCast_add->GV,zero_mul->GX,neg_neg->GY,natCast_zero->G0
open Array renaming length_toList->E4,getElem?_eq_some_iff->FB,toList->Gi,all_toList->GB,toList_inj->GP
open Option renaming bind_some->Fk,map_some->FD,getD_none->Go,bind->G1
open PySem.W (InitBack any_some callWith_K callWith_K0 cellsFrom_some cls_value codeIn codeRec_of emptyDict eq_bytes findCls findObj_own fnOf get_value handedIn hasDictIn hideAll hideAll_get hideAll_none hideAll_size instObj isFn isNs_of_in kIn_of keepIn kia_one kitOne kitx_bool kitx_dict kitx_float kitx_int kitx_list kitx_none kitx_own kitx_str kitx_tuple len_bytes lookIn make_core makesIn makes_of methodCall_KW methodObj method_cls method_fn mg_none_of mg_of ne_bytes nsIn nsMap_none_of_in nsOkIn of_hideAll osa_open plainGet plainGet_of plainOver readsIn specialIn tailIn tail_of_in takerIn takesIn truthy_bytes)
def qZ0(_:0=0:=by rfl):=0
def zA0:=qZ0._auto_1
def qZ1(_:0=0:=by decide):=0
def zA1:=qZ1._auto_1
def qZ2(_:0=0:=by exact λ_=>rfl):=0
def zA2:=qZ2._auto_1
def qZ3(_:0=0:=by first|exact .inl rfl|exact .inr rfl|assumption):=0
def zA3:=qZ3._auto_1
def qZ4(_:0=0:=by first|exact Or.inl rfl|exact Or.inr rfl):=0
def zA4:=qZ4._auto_1
def qZ5(_:0=0:=by first|exact Or.inl rfl|exact Or.inr (Or.inl rfl)|exact Or.inr (Or.inr rfl)):=0
def zA5:=qZ5._auto_1
def qZ6(_:0=0:=by exact λ_ _=>rfl):=0
def zA6:=qZ6._auto_1
namespace PySem.W.Fast
def tw8740983623995313544:=Nat
def tw14582134247990721604:=Nat
def tw2131937215669631547:=Nat
def tw16185663693732854199:=Nat
def tw17820684562881545421:=Nat
def tw15734507625397759591:=Nat
def tw17798503754800756804:=Nat
def tw134855162196731406:=Nat
def tw4383644843872416702:=Nat
def tw2511643551493151080:=Nat
def tw1090231092099132411:=Nat
def tw435019682501299768:=Nat
def tw11336350840380058554:=Nat
def tw13002733844931231734:=Nat
def tw7565860716695579045:=Nat
def tw135128194433177510:=Nat
def tw14071826705125553716:=Nat
def tw990679725689049769:=Nat
def tw15204878123347021986:=Nat
def tw7370060674772245435:=Nat
def tw14420116633118460344:=Nat
def tw16457659921866527487:=Nat
def tw1830286102870672072:=Nat
def tw6511745734871820397:=Nat
def tw12213712934645878439:=Nat
def tw4784253100113096302:=Nat
def tw16707017320863315686:=Nat
def tw10509986304628889087:=Nat
def tw3561207744846929863:=Nat
def tw15976361213291092094:=Nat
def tw17564366461071820408:=Nat
def tw6680922008454289607:=Nat
def tw14534300336741459122:=Nat
def tw546789255959889237:=Nat
def tw4578831085927429471:=Nat
def tw11941935549836280665:=Nat
def tw6036503996167006968:=Nat
def tw10734230403609670854:=Nat
def tw565859825749624612:=Nat
def tw8330292030370140879:=Nat
def tw6234814414860579815:=Nat
def tw15402110473951079556:=Nat
def tw9610862281896424565:=Nat
def tw10585940630176249246:=Nat
def tw10805423461231686655:=Nat
def tw8513153406819087368:=Nat
def tw14519101041176142414:=Nat
def tw13342757457546349059:=Nat
def tw15671054500859320649:=Nat
def tw708279428215521716:=Nat
def tw1050093916315217035:=Nat
def tw4549674327077971070:=Nat
def tw5838211889202450731:=Nat
def tw7777367590986286430:=Nat
def tw12731835813924822675:=Nat
def tw9336697586564964908:=Nat
def tw11241145952032417284:=Nat
def tw6115953621749611267:=Nat
def tw10912875240720649379:=Nat
def tw7119554465392074886:=Nat
def tw16116621009416961430:=Nat
def tw9511052239612120233:=Nat
def tw13880922662569266670:=Nat
def tw8672355484069650602:=Nat
def tw7176051008470827149:=Nat
def tw12362013476422885631:=Nat
def tw13359492841679076813:=Nat
def tw9925150534301628522:=Nat
def tw13305310163749708545:=Nat
def tw10704985999935271162:=Nat
def tw4858838208385394265:=Nat
def tw6220265209552885416:=Nat
def tw9559685025450472213:=Nat
def tw17995014710222302672:=Nat
def tw2845680378437324940:=Nat
def tw4344294029195865074:=Nat
def tw3353129576131096857:=Nat
def tw6282935565020109909:=Nat
def tw16001703685271420113:=Nat
def tw15956471790258165906:=Nat
def tw7096396396086491615:=Nat
def tw10551217272082576637:=Nat
def tw4249902097285699520:=Nat
def tw3065765907734869467:=Nat
def tw17822218863940663788:=Nat
def tw5392457177898899912:=Nat
def tw14428106488201578339:=Nat
def tw2983561157454437042:=Nat
def tw7413008365549989810:=Nat
def tw4094363902470145116:=Nat
def tw9625474693986713300:=Nat
def tw7206766385080763357:=Nat
def tw234215262123986615:=Nat
def tw627702694092326366:=Nat
def tw14760119529708138203:=Nat
def tw14838950067023487441:=Nat
def tw5655524068404981376:=Nat
def tw1777947245503546966:=Nat
def tw2002914537786180993:=Nat
def tw1276509745577818209:=Nat
def tw15600755679867413831:=Nat
def tw957353119089842481:=Nat
def tw17677192647607805074:=Nat
def tw2503214026386729612:=Nat
def tw5153533858049140324:=Nat
def tw1964213590419093707:=Nat
def tw9387641456185117099:=Nat
def tw1710001382223241356:=Nat
def tw8119702851413936373:=Nat
def tw12650679902676745122:=Nat
def tw17961238645751199366:=Nat
def tw14756131190535072089:=Nat
def tw1282664431187789487:=Nat
def tw3219145081628408327:=Nat
def tw17166207950631469983:=Nat
def tw1159189170327564057:=Nat
def tw5926545928179556262:=Nat
def tw7459272565191365501:=Nat
def tw10273702984233479219:=Nat
def tw3041082025052290886:=Nat
def tw10880461322645193894:=Nat
def tw15163811668370436605:=Nat
def tw5305580529259165382:=Nat
def tw6290075050735905349:=Nat
def tw9061998152762084769:=Nat
def tw15990203519763895334:=Nat
def tw14643925678615415893:=Nat
def tw6392559327766677508:=Nat
def tw2301402326196621319:=Nat
def tw511975943270162523:=Nat
def tw8389931186868865508:=Nat
def tw3742669773520752564:=Nat
def tw8992575305127906374:=Nat
def tw2213876345548673116:=Nat
def tw11051420845592550155:=Nat
def tw314305989188505976:=Nat
def tw12851800820295876983:=Nat
def tw8801662313240474712:=Nat
def tw4548097279360194349:=Nat
def tw2382535902376104890:=Nat
def tw6415212373527400272:=Nat
def tw9518446079037117948:=Nat
def tw5892877703290410265:=Nat
def tw4256975732623973457:=Nat
def tw1102608225489916247:=Nat
def tw9646788481879676097:=Nat
def tw1161443619153107116:=Nat
def tw1738763830657153003:=Nat
def tw2254183028092630418:=Nat
def tw2628490527053055541:=Nat
def tw12157892277713349807:=Nat
def tw2242904635855446590:=Nat
def tw14506019672207376652:=Nat
def tw14816087234749345104:=Nat
def tw8286227599430753414:=Nat
def tw17821295564405580026:=Nat
def tw14971307491072047367:=Nat
def tw17276326647344641895:=Nat
def tw13636601411582409144:=Nat
def tw10932379993399082841:=Nat
def tw18220822975120271342:=Nat
def tw13751137062895818213:=Nat
def tw10318301474305893332:=Nat
def tw16002270280876307133:=Nat
def tw13054073439206021778:=Nat
def tw16364734069439128116:=Nat
def tw12026810812953405563:=Nat
def tw7565993833096110523:=Nat
def tw8450619676872054518:=Nat
def tw136412432633688111:=Nat
def tw13429403263503934328:=Nat
def tw6594209820303382591:=Nat
def tw6466777572998808420:=Nat
def tw10177638511057967799:=Nat
def tw6676822445787919160:=Nat
def tw1115387421432132149:=Nat
def tw17388118764098681727:=Nat
def tw11648917064069900486:=Nat
def tw17264077427761705893:=Nat
def tw15333069376714042867:=Nat
def tw18211081210241218501:=Nat
def tw3906659697166604584:=Nat
def tw9788027280221843374:=Nat
def tw12859570877314950895:=Nat
def tw14124680986266848687:=Nat
def tw2201987423888718558:=Nat
def tw5819913203373202017:=Nat
def tw2980660564841800178:=Nat
def tw1563890241807833732:=Nat
def tw3483744597668558209:=Nat
def tw6157255133526863036:=Nat
def tw5416447797633858320:=Nat
def tw8391052237766241430:=Nat
def tw1811227906195292186:=Nat
def tw784335284296030760:=Nat
def tw6782445437343020349:=Nat
def tw2519584282133333450:=Nat
def tw10096200657214449479:=Nat
def tw16442812699621750290:=Nat
def tw2044199617311413152:=Nat
def tw4459368934649923961:=Nat
def tw13636870373112167049:=Nat
def tw4089716340434319044:=Nat
def tw15806731975166305330:=Nat
def tw7925648872323622542:=Nat
def tw3101040243862381158:=Nat
def tw9132525231994324193:=Nat
def tw1736860440707620925:=Nat
def tw1828352594505084268:=Nat
def tw14646157092438846025:=Nat
def tw12080383478580734542:=Nat
def tw12607205758110133168:=Nat
def tw3204898595712627022:=Nat
def tw5821905409126895774:=Nat
def tw2008858869134091958:=Nat
def tw13137395365123831398:=Nat
def tw8907940345341749780:=Nat
def tw17314236090584174779:=Nat
def tw7030749966156796835:=Nat
def tw3052787930768446153:=Nat
def tw14221642608604993193:=Nat
def tw14517495377007745190:=Nat
def tw4653577410621348258:=Nat
def tw6939591806546686954:=Nat
def tw15386476086409443780:=Nat
def tw9347864910692435099:=Nat
def tw5569156737930493957:=Nat
def tw14167550646871209623:=Nat
def tw2138843092445248841:=Nat
def tw8063347452903834088:=Nat
def tw18248301554185655734:=Nat
def tw2408302886064860289:=Nat
def tw2032727670217539613:=Nat
def tw5091026734193392274:=Nat
def tw16989090425639532470:=Nat
def tw16122539314863479754:=Nat
def tw15819737607380195216:=Nat
def tw2387213158218200163:=Nat
def tw16414041488810717832:=Nat
def tw1125917683140766645:=Nat
def tw13844140011988960928:=Nat
def tw9166610520785720203:=Nat
def tw7095154275705574819:=Nat
def tw16487649984305835459:=Nat
def tw14881648427074321558:=Nat
def tw17271313714675134246:=Nat
def tw10367671921628719390:=Nat
def tw5327925027827874093:=Nat
def tw12422841162787794017:=Nat
def tw4552469815123708459:=Nat
def tw10640239869483987265:=Nat
def tw3603958889070069630:=Nat
def tw18123427892129399892:=Nat
def tw6503853974720867995:=Nat
def tw11956470859293722775:=Nat
def tw18229259860951095835:=Nat
def tw7798196023273446405:=Nat
def tw16045192748110894681:=Nat
def tw3004945516967296203:=Nat
def tw7216161998099719006:=Nat
def tw17707801095869991772:=Nat
def tw2318883671976033686:=Nat
def tw13123778252320345659:=Nat
def tw6283788168293271758:=Nat
def tw5868607903639950103:=Nat
def tw563554252444649287:=Nat
def tw8227717857807716773:=Nat
def tw3570000281140408909:=Nat
def tw8943373738698053242:=Nat
def tw1041780787815738304:=Nat
def tw7217084840068968872:=Nat
def tw1402584473962078771:=Nat
def tw5621268112195328077:=Nat
def tw13237537418933168945:=Nat
def tw5756422269351363609:=Nat
def tw9336520117171426816:=Nat
def tw13662285572151416153:=Nat
def tw13604897696112196520:=Nat
def tw322112151766564306:=Nat
def tw6619547583600222638:=Nat
def tw4552277579217331428:=Nat
def tw2390404082797989385:=Nat
def tw16823623256609911196:=Nat
def tw6680644976453364306:=Nat
def tw16429377074356935077:=Nat
def tw2448075646284944196:=Nat
def tw6192679386224577954:=Nat
def tw16843337927371618526:=Nat
def tw7274950914603301662:=Nat
def tw7535718158177006897:=Nat
def tw1621498911107720750:=Nat
def tw914155382403367183:=Nat
def tw12925345757540147425:=Nat
def tw7253537086332186752:=Nat
def tw17484547024061678477:=Nat
def tw4224004006113418927:=Nat
def tw11651080365809738446:=Nat
def tw12800874428993032873:=Nat
def tw677326844562224307:=Nat
def tw13102338995243976069:=Nat
def tw6822724925290819625:=Nat
def tw768645279680094674:=Nat
def tw9775959870248324028:=Nat
def tw14288888876855354116:=Nat
def tw6939986493482663400:=Nat
def tw406729656416935445:=Nat
def tw8866749355243916595:=Nat
def tw11337847632817761588:=Nat
def tw11920465634180757494:=Nat
def tw11603029415402283044:=Nat
def tw7236235995233013851:=Nat
def tw11987433188648095265:=Nat
def tw6964263274194866281:=Nat
def tw12366674669238494833:=Nat
def tw14364858793744970001:=Nat
def tw4565317023294558694:=Nat
def tw18202596928108430672:=Nat
def tw4445411408750181698:=Nat
def tw8515355076753516173:=Nat
def tw10425769282908222522:=Nat
def tw14324552188139668010:=Nat
def tw2720643399343750740:=Nat
def tw4631328456355062951:=Nat
def tw12966640058957274999:=Nat
def tw6858998180370094108:=Nat
def tw1798167570855676488:=Nat
def tw7527494518271847365:=Nat
def tw13759912548164286964:=Nat
def tw10726896189739794027:=Nat
def tw1189591105307411550:=Nat
def tw1866008339517946081:=Nat
def tw2520443793307949411:=Nat
def tw5760445627629035630:=Nat
def tw15869771735930766019:=Nat
def tw13104090648247740231:=Nat
def tw1973527159717594779:=Nat
def tw12531338890786783144:=Nat
def tw15585112364721348742:=Nat
def tw3051962863354276132:=Nat
def tw18380975810638687288:=Nat
def tw14673386598792125157:=Nat
def tw713321224903990234:=Nat
def tw4760958977635730041:=Nat
def tw2235682019147919488:=Nat
def tw2191260496915192140:=Nat
def tw17033558604396802950:=Nat
def tw5056349238485287339:=Nat
def tw15449634649139254562:=Nat
def tw13703731705160095617:=Nat
def tw13137077362233859093:=Nat
def tw16956358440095406433:=Nat
def tw12727798155164797257:=Nat
def tw8644961445744368076:=Nat
def tw17567241052175843662:=Nat
def tw499512464007706725:=Nat
def tw1663991271496781228:=Nat
def tw2351305653436459913:=Nat
def tw5260323667901933901:=Nat
def tw15122215846274950234:=Nat
def tw3089714178250553122:=Nat
def tw5079486193410504034:=Nat
def tw9334111948379493210:=Nat
def tw709787489017497705:=Nat
def tw1966790910598091672:=Nat
def tw11472580317894713963:=Nat
def tw3717424204470101818:=Nat
def tw9154991347668345744:=Nat
def tw2726694775946049830:=Nat
def tw5897561491216800281:=Nat
def tw6602938626938964158:=Nat
def tw4305819457134729082:=Nat
def tw3010652254235654661:=Nat
def tw17965410483124342394:=Nat
def tw18163212403181730783:=Nat
def tw8429363628556731991:=Nat
def tw12732856863388529005:=Nat
def tw10505463714731402055:=Nat
def tw11112597331446739484:=Nat
def tw4395377651083477337:=Nat
def tw4738216454622227353:=Nat
def tw5849994051482897739:=Nat
def tw7713937784265133703:=Nat
def tw17604226795858084238:=Nat
def tw4963740605139643342:=Nat
def tw17956694929724613743:=Nat
def tw15314454288333457972:=Nat
def tw14472173655693548764:=Nat
def tw17702181441095605153:=Nat
def tw8902292255885716013:=Nat
def tw10566777341896362598:=Nat
def tw1926359672458285846:=Nat
def tw8917231264902298930:=Nat
def tw17046156725479756535:=Nat
def tw8694521382041617252:=Nat
def tw4705105169348155438:=Nat
def tw9748857528051822204:=Nat
def tw11303164375338746877:=Nat
def tw12471893295813628762:=Nat
def tw10432678078199138347:=Nat
def tw3252047180507237286:=Nat
def tw5965939332938646180:=Nat
def tw11539766261042992753:=Nat
def tw3811321987576684092:=Nat
def tw4056513192743048338:=Nat
def tw12218304742910535492:=Nat
def tw13688071976606653022:=Nat
def tw223612271435547996:=Nat
def tw2667703600762537732:=Nat
def tw17488978910636196969:=Nat
def tw1427495883984225536:=Nat
def tw7298363514991578070:=Nat
def tw2335716508082652838:=Nat
def tw7519099675853081911:=Nat
def tw8330336242788758941:=Nat
def tw10044332550850273454:=Nat
def tw12640973902950764174:=Nat
def tw4357443981330275584:=Nat
def tw14362788518656570524:=Nat
def tw15012786475353368698:=Nat
def tw9725401061169143927:=Nat
def tw9081240689311662139:=Nat
def tw1106999266713439267:=Nat
def tw17788607062302956419:=Nat
def tw14052561080937810258:=Nat
def tw401596645666660331:=Nat
def tw7662066245393239447:=Nat
def tw9922062384840572798:=Nat
def tw2331123932239010828:=Nat
def tw8470186591721383518:=Nat
def tw574725712904185521:=Nat
def tw18221282034063324831:=Nat
def tw16875619842595293292:=Nat
def tw13860884101066947615:=Nat
def tw341289799534471765:=Nat
def tw5871189009993182389:=Nat
def tw3850057241757068320:=Nat
def tw1204903074897636430:=Nat
def tw15680943180297791362:=Nat
def tw11399462876209112666:=Nat
def tw16912561376977027351:=Nat
def tw13350166575294701549:=Nat
def tw6728261619149846453:=Nat
def tw13980159095143766422:=Nat
end PySem.W.Fast
section
namespace L2
open PySem PySem.Spec PyProof.Rows
abbrev Key:=Sum Int x9
def dP:Key->KB->Bool
 | .inl k,v=>Value.isInt k v
 | .inr x,v=>Value.isStrOf x v
def keyH(w:Pe):Key->Int
 | .inl k=>hashInt k
 | .inr x=>hashStr w x
def keyIs_shape:∀ {k:Key} {v:KB},dP k v=true->(∃ i t,k=Sum.inl i/\v=Value.int i t)\/(∃ x t,k=Sum.inr x/\v=Value.str x t)
 | .inl i,v,h=>by
  obtain⟨t,e⟩:=Value.isInt_shape (k:=i) (v:=v) h;exact .inl ⟨i,t,rfl,e⟩
 | .inr x,v,h=>by
  obtain⟨t,e⟩:=Value.isStrOf_shape (x:=x) (v:=v) h;exact .inr ⟨x,t,rfl,e⟩
def sQ(i:Int)(t:Tok):dP (.inl i) (.int i t)=true:=by simp[dP,Value.isInt]
def sR(x:x9)(t:Tok):dP (.inr x) (.str x t)=true:=by simp[dP,Value.isStrOf]
def sS(a b:Int):decide ((Sum.inl a:Key)=Sum.inl b)=(a==b):=by
 by_cases e:a=b
 .subst e;simp
 .have h:¬ (Sum.inl a:Key)=Sum.inl b:=λq=>e (Sum.inl.inj q);rw[decide_eq_false h];exact(beq_eq_false_iff_ne.mpr e).symm
def sT(a b:x9):decide ((Sum.inr a:Key)=Sum.inr b)=decide (a=b):=by
 by_cases e:a=b
 .subst e;simp
 .have h:¬ (Sum.inr a:Key)=Sum.inr b:=λq=>e (Sum.inr.inj q);rw[decide_eq_false h,decide_eq_false e]
def sU(a:Int)(b:x9):decide ((Sum.inl a:Key)=Sum.inr b)=false:=decide_eq_false (λq=>nomatch q)
def sV(a:x9)(b:Int):decide ((Sum.inr a:Key)=Sum.inl b)=false:=decide_eq_false (λq=>nomatch q)
def bF(prog:O9)(w:Pe):PySem.KeyKind prog w Key where
 is:=dP
 hash:=keyH w
 inj:=λv a b ha hb=>by
  rcases keyIs_shape ha with⟨i,t,rfl,rfl⟩|⟨x,t,rfl,rfl⟩
  .rcases keyIs_shape hb with⟨j,u,rfl,e⟩|⟨y,u,rfl,e⟩
   .injection e with e1 _;rw[e1]
   .exact nomatch e
  .rcases keyIs_shape hb with⟨j,u,rfl,e⟩|⟨y,u,rfl,e⟩
   .exact nomatch e
   .injection e with e1 _;rw[e1]
 byValue:=λk v h=>by
  rcases keyIs_shape h with⟨i,t,rfl,rfl⟩|⟨x,t,rfl,rfl⟩<;>rfl
 pyHash:=λhv h=>by
  rcases keyIs_shape hv with⟨i,t,rfl,rfl⟩|⟨x,t,rfl,rfl⟩
  .exact wpAny_pyHash_int h
  .exact wpAny_pyHash_str h
 eqBool:=λhu hv h=>by
  rcases keyIs_shape hu with⟨i,t,rfl,rfl⟩|⟨x,t,rfl,rfl⟩
  .rcases keyIs_shape hv with⟨j,u,rfl,rfl⟩|⟨y,u,rfl,rfl⟩
   .rw[sS] at h;exact wpAny_eqBool_int h
   .rw[sU] at h;exact SeqAt.EqAt.int_str i t y u _ _ _ _ h
  .rcases keyIs_shape hv with⟨j,u,rfl,rfl⟩|⟨y,u,rfl,rfl⟩
   .rw[sV] at h;exact SeqAt.EqAt.str_int x t j u _ _ _ _ h
   .rw[sT] at h;exact wpAny_eqBool_str h
 «strs»:=λk x t v h=>by
  rcases keyIs_shape h with⟨i,u,rfl,e⟩|⟨y,u,rfl,e⟩
  .exact nomatch e
  .injection e with e1 _;subst e1;cases v<;>rfl
def mixKind_int(prog:O9)(w:Pe)(i:Int)(t:Tok):(bF prog w).is (.inl i) (.int i t)=true:=sQ i t
def sW(prog:O9)(w:Pe)(x:x9)(t:Tok):(bF prog w).is (.inr x) (.str x t)=true:=sR x t
inductive V where
 |non|bl (b:Bool)|int (i:Int)|str (x:Str)|byt (b:Array UInt8)|flt (b:UInt64)|ref (a:KF)|ty (n:String)
 deriving DecidableEq
def RelV:V->KB->Prop
 | .non,u=>u=Value.none
 | .bl b,u=>u=Value.bool b
 | .int i,u=>∃ t,u=Value.int i t
 | .str x,u=>∃ t,u=Value.str x t
 | .byt b,u=>∃ t,u=Value.bytes b t
 | .flt b,u=>∃ t,u=Value.float b t
 | .ref a,u=>u=Value.ref a
 | .ty n,u=>u=Value.type n
abbrev Vals:List V->List KB->Prop:=Paired RelV
variable{xs:List V}{us:List KB}
def Vals.length(r:Vals xs us):xs.length=us.length:=Paired.length r
def Vals.get:∀ {xs:List V} {us:List KB} {i:Nat} {x:V},Vals xs us->xs[i]?=be x->∃ u,us[i]?=be u/\RelV x u
 |_,_,_,_,.nil,e=>by simp at e
 |_,_,0,_,.cons r _,e=>by simp at e;subst e;exact⟨_,rfl,r⟩
 |_,_,i+1,x,.cons _ t,e=>by
  obtain⟨u,h1,h2⟩:=Vals.get (i:=i) (x:=x) t (by simpa using e);exact⟨u,by simpa using h1,h2⟩
def Vals.set{x:V}{u:KB}(r:RelV x u):∀ {xs:List V} {us:List KB} (i:Nat),Vals xs us->Vals (xs.set i x) (us.set i u)
 |_,_,_,.nil=> .nil
 |_,_,0,.cons _ t=> .cons r t
 |_,_,i+1,.cons q t=> .cons q (Vals.set r i t)
def Vals.append:∀ {xs ys:List V} {us ws:List KB},Vals xs us->Vals ys ws->Vals (xs++ys) (us++ws):=by
 intro xs ys us ws h s;induction h with
 |nil=>exact s
 |cons r _ e=>exact .cons r e
def Vals.take:∀ {xs:List V} {us:List KB} (n:Nat),Vals xs us->Vals (xs.take n) (us.take n)
 |_,_,0,_=> .nil
 |_,_,_+1,.nil=> .nil
 |_,_,n+1,.cons r t=> .cons r (Vals.take n t)
def Vals.drop:∀ {xs:List V} {us:List KB} (n:Nat),Vals xs us->Vals (xs.drop n) (us.drop n)
 |_,_,0,r=>r
 |_,_,_+1,.nil=> .nil
 |_,_,n+1,.cons _ t=>Vals.drop n t
def RelO:Option V->Option KB->Prop
 |some v,be u=>RelV v u
 |none,q_=>True
 |_,_=>False
def KV{κ:Type}:List (κ × V)->List (κ × KB)->Prop:=Paired λ(p:κ × V) (q:κ × KB)=>p.1=q.1/\RelV p.2 q.2
def kV:Key->V
 | .inl i=> .int i
 | .inr x=> .str x
inductive HO where
  |lst (xs:List V)
  |tup (xs:List V)
  |dK (a8:List (Key × V))|dT (a8:List (List Key × V))
  |set (S:Int->Bool) (n:Nat)
  |ins (C dx:KF) (fs:List (x9 × V))
  |own (x:KF)
  |xd (fs:List (x9 × V))
  |met (f x:KF)
  |rng (lo hi:Int)
  |frz (o:Pu) (u:HO)
  |tbl (ps:Array KB)
  |ext (φ:Heap->Prop)
abbrev Hp:=KF->Option HO
def upd(H:Hp)(a:KF)(o:HO):Hp:=λb=>if b=a then be o else H b
variable{H:Hp}{a:KF}{o:HO}
def aC:upd H a o a=be o:=by unfold upd;rw[if_pos rfl]
variable{b:KF}
def au(h:b≠a):upd H a o b=H b:=by unfold upd;rw[if_neg h]
def sX{u:HO}(h:H a=be o)(h':H b=be u)(d:o≠u):a≠b:=by
 intro e;subst e;rw[h] at h';exact d (Option.some.inj h')
def bP(h:H a=be o)(h':H b=q_):a≠b:=by
 intro e;subst e;rw[h] at h';cases h'
section
variable (P:O9)(w:Pe)
def ObjOk(H:Hp)(h:Heap)(a:KF):HO->Prop
 | .lst xs=>xs.length<=sizeLine/\∃ (its:List KB) (n:Nat),Vals xs its/\h.get? a=be {cls:= .type "list",data:= .seq its.toArray n}
 | .tup xs=>xs.length<=sizeLine/\∃ its:List KB,Vals xs its/\IsTup h a its.toArray
 | .dK a8=>a8.length<=sizeLine/\(a==PB)=false/\∃ vs,KV a8 vs/\h.DictOf (bF P w) a vs
 | .dT a8=>a8.length<=sizeLine/\(a==PB)=false/\∃ xs:List (List Key × KF × KB),
   Paired (λ(p:List Key × V) (q:List Key × KF × KB)=>p.1=q.1/\H q.2.1=be (.tup (p.1.map kV))/\RelV p.2 q.2.2) a8 xs/\
   ∃ o es ep,h.get? a=be o/\o.ExactDict/\o.data= .dict es ep/\es.toList=xs.map (entryOfKey (P0 (bF P w)))/\(xs.map (·.1)).Nodup
 | .set S n=>h.SetOf (intKind P w) a S n
 | .ins C dx fs=>H dx=be (.own a)/\fs.length<=1000/\dx≠a/\h.get? a=be (instObj C dx)/\
   ∃ mA,h.Ns1 dx mA/\(∀ f,RelO (fs.lookup f) (mA f))/\PySem.Within mA (fs.map (·.1))
 | .own _=>∃ o,h.get? a=be o
 | .xd fs=>∃ mA,h.Ns1 a mA/\∀ f,RelO (fs.lookup f) (mA f)
 | .rng lo hi=>∃ t u v,h.get? a=be {cls:= .type "range",data:= .fields #[.int lo t,.int hi u,.int 1 v]}
 | .frz o u=>h.get? a=be o/\ObjOk H h a u
 | .tbl ps=>h.get? a=be {cls:= .none,data:= .fields ps}
 | .met f x=>h.get? a=be (methodObj (.ref f) (.ref x))
 | .ext φ=>φ h/\(∃ o,h.get? a=be o)/\∀ h1 h2:Heap,φ h1->(∀ o,h1.get? a=be o->h2.get? a=be o)->φ h2
def HOk(H:Hp)(h:Heap):Prop:=∀ a o,H a=be o->ObjOk P w H h a o
end
section
variable {P:O9}{w:Pe}{H H':Hp}{h h':Heap}{a:KF}{o:HO}
def ObjOk.lt(x:ObjOk P w H h a o):a<h.objs.size:=by
 cases o with
 |lst xs=>obtain⟨_,_,_,_,e⟩:=x;exact Heap.lt_size e
 |tup xs=>obtain⟨_,_,_,p⟩:=x;exact p.lt
 |dK a8=>obtain⟨_,_,_,_,o,_,_,e,_⟩:=x;exact Heap.lt_size e
 |dT a8=>obtain⟨_,_,_,_,o,_,_,e,_⟩:=x;exact Heap.lt_size e
 |set S n=>obtain⟨o,_,_,_,e,_⟩:=x;exact Heap.lt_size e
 |ins C dx fs=>obtain⟨_,_,_,e,_⟩:=x;exact Heap.lt_size e
 |own y=>obtain⟨_,e⟩:=x;exact Heap.lt_size e
 |xd fs=>obtain⟨_,⟨_,_,_,e,_⟩,_⟩:=x;exact Heap.lt_size e
 |rng lo hi=>obtain⟨_,_,_,e⟩:=x;exact Heap.lt_size e
 |frz ob u=>obtain⟨e,_⟩:=x;exact Heap.lt_size e
 |tbl ps=>exact Heap.lt_size (show h.get? a=be _ from x)
 |met f y=>exact Heap.lt_size (show h.get? a=be _ from x)
 |ext φ=>obtain⟨_,⟨_,e⟩,_⟩:=x;exact Heap.lt_size e
def Paired.mapP{α β:Type}{F G:α->β->Prop}:∀ {l₁:List α} {l₂:List β},Paired F l₁ l₂->(∀ a b,F a b->G a b)->Paired G l₁ l₂:=by
 intro l₁ l₂ h f;induction h with
 |nil=>exact .nil
 |cons r _ e=>exact .cons (f _ _ r) e
def ObjOk.stay(x:ObjOk P w H h a o)(k:∀ b u,(b=a\/H b=be (.own a))->h.get? b=be u->h'.get? b=be u)
  (ho:∀ b,H b=be (.own a)->H' b=be (.own a)) (ht:∀ b xs,H b=be (.tup xs)->H' b=be (.tup xs)):ObjOk P w H' h' a o:=by
 induction o with
 |lst xs=>obtain⟨z,its,n,r,e⟩:=x;exact⟨z,its,n,r,k _ _ (.inl rfl) e⟩
 |tup xs=>obtain⟨z,its,r,ob,e,c⟩:=x;exact⟨z,its,r,ob,k _ _ (.inl rfl) e,c⟩
 |dK a8=>obtain⟨z,y,vs,r,ob,es,ep,e,c⟩:=x;exact⟨z,y,vs,r,ob,es,ep,k _ _ (.inl rfl) e,c⟩
 |dT a8=>
  obtain⟨z,y,xs,r,ob,es,ep,e,c⟩:=x;exact⟨z,y,xs,Paired.mapP r λp q z=>⟨z.1,ht _ _ z.2.1,z.2.2⟩,ob,es,ep,k _ _ (.inl rfl) e,c⟩
 |set S n=>obtain⟨ob,es,ep,t,e,c⟩:=x;exact⟨ob,es,ep,t,k _ _ (.inl rfl) e,c⟩
 |ins C dx fs=>
  obtain⟨d,z,ne,e,mA,⟨od,es,ep,e2,c⟩,r⟩:=x;exact⟨ho _ d,z,ne,k _ _ (.inl rfl) e,mA,⟨od,es,ep,k _ _ (.inr d) e2,c⟩,r⟩
 |own y=>obtain⟨ob,e⟩:=x;exact⟨ob,k _ _ (.inl rfl) e⟩
 |xd fs=>obtain⟨mA,⟨od,es,ep,e,c⟩,r⟩:=x;exact⟨mA,⟨od,es,ep,k _ _ (.inl rfl) e,c⟩,r⟩
 |rng lo hi=>obtain⟨t,u,v,e⟩:=x;exact⟨t,u,v,k _ _ (.inl rfl) e⟩
 |frz ob u ih=>obtain⟨e,q⟩:=x;exact⟨k _ _ (.inl rfl) e,ih q⟩
 |tbl ps=>
  have e:h.get? a=be {cls:= .none,data:= .fields ps}:=x;show h'.get? a=be {cls:= .none,data:= .fields ps};exact k a _ (.inl rfl) e
 |met f y=>
  have e:h.get? a=be (methodObj (.ref f) (.ref y)):=x;show h'.get? a=be (methodObj (.ref f) (.ref y));exact k a _ (.inl rfl) e
 |ext φ=>obtain⟨p,⟨o,e⟩,st⟩:=x;exact⟨st _ _ p λo q=>k _ _ (.inl rfl) q,⟨o,k _ _ (.inl rfl) e⟩,st⟩
def HOk.lt(x:HOk P w H h)(e:H a=be o):a<h.objs.size:=(x a o e).lt
def HOk.fresh(x:HOk P w H h)(e:h.objs.size<=a):H a=none:=by
 cases q:H a with
 |none=>rfl
 |some u=>exact absurd (Ep (x.lt q) e) (E3 _)
def HOk.kept(x:HOk P w H h)(k:∀ b u,h.get? b=be u->h'.get? b=be u):HOk P w H h':=λa o e=>
 (x a o e).stay (λb u _ q=>k b u q) (λ_ q=>q) λ_ _ q=>q
def HOk.laid(x:HOk P w H h)(k:∀ b u,h.get? b=be u->h'.get? b=be u)(hp:h.objs.size<=a)(new:ObjOk P w (upd H a o) h' a o):HOk P w (upd H a o) h':=λb u e=>by
 have hn:=x.fresh hp;by_cases hb:b=a
 .subst hb;rw[aC] at e;cases e;exact new
 .rw[au hb] at e;exact(x b u e).stay (λc v _ q=>k c v q) (λc q=>by rw[au (bP q hn)];exact q) λc xs q=>by rw[au (bP q hn)];exact q
end
def Rd(H:Hp)(a:KF)(u:HO):Prop:=H a=be u\/∃ o,H a=be (.frz o u)
def Rd.of{u:HO}(h:H a=be u):Rd H a u:= .inl h
variable{P:O9}{w:Pe}{h:Heap}
def Rd.ok{u:HO}(r:Rd H a u)(x:HOk P w H h):ObjOk P w H h a u:=by
 rcases r with r|⟨o,r⟩
 .exact x a u r
 .obtain⟨_,q⟩:=x a _ r;exact q
def Mut:Option HO->Prop
 |some (.lst _)=>True
 |some (.dK _)=>True
 |some (.dT _)=>True
 |some (.set _ _)=>True
 |some (.ins _ _ _)=>True
 |some (.ext _)=>True
 |_=>False
section
variable {P:O9}{w:Pe}{H:Hp}{h h':Heap}{x e:KF}{o':HO}
def HOk.write(ok:HOk P w H h)(mu:Mut (H x))(he:e=x\/H e=be (.own x))(k:∀ b u,b≠e->h.get? b=be u->h'.get? b=be u)(v9:∃ u,h'.get? e=be u)
  (new:ObjOk P w (upd H x o') h' x o'):HOk P w (upd H x o') h':=λb u q=>by
 have Ik:∀ c y,H c=be (.own y)->c≠x:=λc y r z=>by subst z;rw[r] at mu;exact mu
 have J4:∀ c xs,H c=be (.tup xs)->c≠x:=λc xs r z=>by subst z;rw[r] at mu;exact mu
 by_cases hb:b=x
 .subst hb;rw[aC] at q;cases q;exact new
 .rw[au hb] at q;by_cases Hk:b=e
  .have q':H b=be (.own x):=by
    rcases he with z|z
    .exact absurd (Hk.trans z) hb
    .rw[Hk];exact z
   rw[q] at q';cases q';obtain⟨v,hv⟩:=v9;exact⟨v,by rw[Hk];exact hv⟩
  .refine(ok b u q).stay (λc v hc r=>k c v ?_ r) (λc r=>by rw[au (Ik c b r)];exact r) λc xs r=>by rw[au (J4 c xs r)];exact r
   rcases hc with rfl|hc
   .exact Hk
   .rintro rfl;rcases he with z|z
    .exact Ik c b hc z
    .rw[hc] at z;cases z;exact hb rfl
end
structure Un(fs ex:List KF)(H H':Hp)(h h':Heap):Prop where
 keep:∀ b o,h.get? b=be o->H b=q_->b ∉ fs->b ∉ ex->h'.get? b=be o
 slot:∀ b o,h.get? b=be o->H b=q_->b∈fs->b ∉ ex->∃ sl,h'.get? b=be {o with slots:=sl}
 free:∀ b o,h.get? b=be o->H b=q_->b ∉ ex->H' b=q_
 there:∀ b o,h.get? b=be o->b ∉ ex->∃ o',h'.get? b=be o'
 tups:∀ b xs,H b=be (.tup xs)->H' b=be (.tup xs)
 frzs:∀ b o u,H b=be (.frz o u)->H' b=be (.frz o u)
 tbls:∀ b ps,H b=be (.tbl ps)->∃ more,H' b=be (.tbl (ps++more))
section
variable {fs n_ ex L5:List KF}{H H1 H2:Hp}{h h1 h2 h':Heap}{a x e:KF}{o:HO}
def Un.any(u:Un fs ex H H1 h h1){b:KF}{ob:Pu}(q:h.get? b=be ob)(n:H b=q_)(hx:b ∉ ex):∃ sl,h1.get? b=be {ob with slots:=sl}:=by
 by_cases hb:b∈fs
 .exact u.slot b ob q n hb hx
 .exact⟨ob.slots,u.keep b ob q n hb hx⟩
def Un.kept(k:∀ b u,h.get? b=be u->h'.get? b=be u):Un fs ex H H h h':=
 ⟨λb ob q _ _ _=>k b ob q,λb ob q _ _ _=>⟨ob.slots,k b ob q⟩,λ_ _ _ n _=>n,λb ob q _=>⟨ob,k b ob q⟩,λ_ _ q=>q,λ_ _ _ q=>q,λ_ ps q=>⟨#[],by rw[q];simp⟩⟩
def Un.refl:Un fs ex H H h h:=Un.kept λ_ _ q=>q
def Un.laid(k:∀ b u,h.get? b=be u->h'.get? b=be u)(hp:h.objs.size<=a)(hn:H a=q_):Un fs ex H (upd H a o) h h' where
 keep:=λb u q _ _ _=>k b u q
 slot:=λb u q _ _ _=>⟨u.slots,k b u q⟩
 free:=λb u q n _=>by rw[au (D8 (Ep (Heap.lt_size q) hp))];exact n
 there:=λb u q _=>⟨u,k b u q⟩
 tups:=λb xs q=>by rw[au (bP q hn)];exact q
 frzs:=λb u xs q=>by rw[au (bP q hn)];exact q
 tbls:=λb ps q=>⟨#[],by rw[au (bP q hn),q];simp⟩
def Un.write(mu:Mut (H x))(he:e=x\/H e=be (.own x))(k:∀ b u,b≠e->h.get? b=be u->h'.get? b=be u)(v9:∃ u,h'.get? e=be u):Un fs ex H (upd H x o) h h':=by
 have hx:∀ b,H b=q_->b≠x:=λb n z=>by subst z;rw[n] at mu;exact mu
 have hb:∀ b,H b=q_->b≠e:=λb n z=>by
  subst z;rcases he with r|r
  .exact hx b n r
  .rw[n] at r;cases r
 have hm:∀ b u,H b=be u->¬ Mut (be u)->b≠x:=λb u q nm z=>by subst z;rw[q] at mu;exact nm mu
 refine⟨λb u q n _ _=>k b u (hb b n) q,λb u q n _ _=>⟨u.slots,k b u (hb b n) q⟩,λb u q n _=>by rw[au (hx b n)];exact n,λb u q _=>?_,
  λb xs q=>by rw[au (hm b _ q λz=>z)];exact q,λb u xs q=>by rw[au (hm b _ q λz=>z)];exact q,λb ps q=>⟨#[],by rw[au (hm b _ q λz=>z),q];simp⟩⟩
 by_cases Hk:b=e
 .subst Hk;exact v9
 .exact⟨u,k b u Hk q⟩
end
def trk(h:Heap)(H:Hp):List KF:=(DV h.objs.size).filter λa=>(H a).isSome
def hidT(h:Heap)(H:Hp):Heap:=hideAll h (trk h H)
def sY(h:Heap)(H:Hp):(hidT h H).objs.size=h.objs.size:=hideAll_size _ _
def sZ{o:Pu}(e:h.get? b=be o)(n:H b=q_):(hidT h H).get? b=be o:=
 hideAll_get _ e λhm=>by
  have q:(H b).isSome=true:=(Gh.mp hm).2;rw[n] at q;simp at q
def tf{o:Pu}(e:(hidT h H).get? b=be o):h.get? b=be o/\H b=none:=by
 have e':h.get? b=be o:=of_hideAll (trk h H) e;refine⟨e',?_⟩;cases q:H b with
 |none=>rfl
 |some x=>
  have hm:b∈trk h H:=Gh.mpr ⟨List.mem_range.mpr (Heap.lt_size e'),by simp[q]⟩;have z:(hidT h H).get? b=none:=hideAll_none (trk h H) hm;rw[z] at e;cases e
def allNews(g h:Heap)(L:KF):List (KF × Pu):=(DV h.objs.size).filterMap λa=>if a=L\/(g.get? a).isSome=true then q_ else(h.get? a).map λo=>(a,o)
def rest(g h:Heap)(L d:KF):List (KF × Pu):=(allNews g h L).filter λp=>decide (p.1≠d)
structure Mod(K:DR)(mg:Str->Option KB)(base:Heap):Prop where
 kin:K.In base
 glob:base.Ns O8 mg
 blt:∃ mb,base.Ns QO mb/\∀ x:x9,x≠"__name__"->mb x=Pr x
 nolimit:base.NoLimit
structure Cx where
 prog:O9
 w:Pe
 K:DR
 mg:x9->Option KB
 base:Heap
 A:Pf
 N:List x9
 s₀:KM
 H₀:Hp
 env:PU
 outer:List PU
 stack:List PU
 ex:List KF
 fn:x9->Bool
 calm:Bool
 pn:List (KF × Pu)
 xe:KB->KM->Prop
abbrev zSE(X:Cx)(e:O_)(es:List O_):Prop:=Pg (e::es) X.env=(false,Pj e X.env)::Pg es X.env
abbrev zPL(X:Cx)(p:Pm)(es:List O_):Prop:=(PP p (Pg es X.env)).any (·.1)=false
abbrev zHF(X:Cx)(p:Pm)(es:List O_):Prop:=((PP p (Pg es X.env)).all (λx=>!x.1) && (P_ p (PM [] X.env)).all (λx=>x.1.isSome) && decide (es.length+([]:List Qc).length+(if([]:List Qc).isEmpty then 0 else 1)<30))=true
abbrev zFN(X:Cx)(x:x9):Prop:=X.fn x=true\/X.env.scope.names.lookup x=be .local
abbrev zND(x:x9):Prop:=(x==("__debug__":x9))=false
abbrev zNC(x:x9):Prop:=(x==("__classdict__":x9))=false
abbrev zFS(X:Cx)(e:O_)(y:KB):Prop:=QS e X.env y=pure y
def frs(l:List PU):List KF:=l.filterMap (·.frame)
abbrev Cx.fs(X:Cx):List KF:=frs X.outer
def Vis(sc:PH)(x:x9):Prop:=sc.names.lookup x=be .local\/sc.names.lookup x=be .cell\/sc.names.lookup x=be .free
def Loc(sc:PH)(x:x9):Prop:=sc.names.lookup x=be .local\/sc.names.lookup x=be .cell
def Look(env:PU)(h:Heap)(m:x9->Option KB)(x:x9)(u:KB):Prop:=
 (env.kindOf x=be .local/\m x=be u)\/((env.kindOf x=be .cell\/env.kindOf x=be .free)/\∃ c,env.cells.lookup x=be c/\h.IsCell c (be u))
structure Cx.Ok(X:Cx):Prop where
 mod:Mod X.K X.mg X.base
 kind:X.env.scope.kind= .function
 glob:X.env.globals=O8
 blt:X.env.builtins=QO
 above:X.s₀.heap.objs.size<=X.env.locals
 inj:∀ x y c,X.env.cells.lookup x=be c->X.env.cells.lookup y=be c->x=y
 has:∀ x,(X.env.kindOf x=be .cell\/X.env.kindOf x=be .free)->∃ c,X.env.cells.lookup x=be c
 cab:∀ x c,X.fn x=true->X.env.cells.lookup x=be c->X.s₀.heap.objs.size<=c
 hd:X.calm=true->X.A.handled=q_
 frames:X.A.frames=be X.stack
 stk:X.stack=X.outer\/(X.stack=X.env::X.outer/\X.env.frame=be X.env.locals)
 exf:∀ b∈X.ex,b≠X.env.locals/\∀ x c,X.env.cells.lookup x=be c->c≠b
 bs:∀ b o,X.base.get? b=be o->X.s₀.heap.get? b=be o/\X.H₀ b=q_
 bsz:X.base.objs.size<=X.s₀.heap.objs.size
 noex:∀ b o,X.base.get? b=be o->b ∉ X.ex
 exfs:∀ b∈X.ex,b ∉ X.fs
 funs:X.s₀.heap.FunFrames X.base X.outer
 frf:∀ b∈X.fs,X.H₀ b=q_
structure Inv(X:Cx)(pins:List (KF × Pu))(σ:List (Option V))(H:Hp)(s:KM):Prop where
 ok:X.Ok
 os:s.os=X.s₀.os
 bare:PZ s.gens
 base:Un X.fs X.ex X.H₀ H X.s₀.heap s.heap
 loc:∃ m,s.heap.Ns X.env.locals m/\∀ (i:Nat) (x:x9) (v:V),X.N[i]?=be x->σ[i]?=be (be v)->Vis X.env.scope x->∃ u,RelV v u/\Look X.env s.heap m x u
 cell:∀ x c,X.env.cells.lookup x=be c->∃ v,s.heap.IsCell c v
 free:H X.env.locals=q_
 freeC:∀ x c,X.env.cells.lookup x=be c->H c=q_
 pin:∀ p∈X.pn++pins,s.heap.get? p.1=be p.2/\H p.1=q_/\p.1≠X.env.locals/\p.1 ∉ X.fs/\∀ v,p.2.data≠.cell v
 hok:HOk X.prog X.w H s.heap
 len:σ.length=X.N.length
section
variable {X:Cx}{pins:List (KF × Pu)}{σ:List (Option V)}{H H':Hp}{s:KM}{h':Heap}
def Cx.Ok.nofr(ok:X.Ok){b:KF}{o:Pu}(e:X.base.get? b=be o):b ∉ X.fs:=λhb=>by
 have:=(ok.funs.mem hb).1;rw[e] at this;cases this
def Inv.bs(I:Inv X pins σ H s):∀ b o,X.base.get? b=be o->s.heap.get? b=be o/\H b=none:=λb o e=>
 ⟨I.base.keep b o (I.ok.bs b o e).1 (I.ok.bs b o e).2 (I.ok.nofr e) (I.ok.noex b o e),I.base.free b o (I.ok.bs b o e).1 (I.ok.bs b o e).2 (I.ok.noex b o e)⟩
def Inv.bk(I:Inv X pins σ H s):∀ b o,X.base.get? b=be o->s.heap.get? b=be o:=λb o e=>(I.bs b o e).1
def Inv.mod(I:Inv X pins σ H s):Mod X.K X.mg X.base:=I.ok.mod
def Inv.kIn(I:Inv X pins σ H s):X.K.In s.heap:=I.ok.mod.kin.keeps I.bk
def Inv.nolimit(I:Inv X pins σ H s):s.heap.NoLimit:=I.ok.mod.nolimit.keeps I.bk
def Inv.fr(I:Inv X pins σ H s):∃ m,Fr X.base X.env.locals s.heap m:=
 let ⟨m,hn,_⟩:=I.loc
 ⟨m,hn,I.bk,D9 I.ok.bsz I.ok.above⟩
def Inv.lt(I:Inv X pins σ H s):X.env.locals<s.heap.objs.size:=let ⟨_,hn,_⟩:=I.loc;hn.lt
def Inv.sz(I:Inv X pins σ H s):X.s₀.heap.objs.size<=s.heap.objs.size:=D9 I.ok.above (Fw I.lt)
def Inv.nofs(I:Inv X pins σ H s){a:KF}(h:s.heap.objs.size<=a):a ∉ X.fs:=λhb=>by
 obtain⟨_,o,ho,_⟩:=I.ok.funs.mem hb;exact absurd (Ep (Heap.lt_size ho) (D9 I.sz h)) (E3 _)
def Inv.cne(I:Inv X pins σ H s):∀ x c,X.env.cells.lookup x=be c->c≠X.env.locals:=λx c e z=>by
 obtain⟨v,o,ho,hd⟩:=I.cell x c e;obtain⟨m,⟨o',es,ep,Hl,j8,_⟩,_⟩:=I.loc;rw[z,Hl] at ho;cases ho;rw[j8] at hd;cases hd
def Inv.funs(I:Inv X pins σ H s):s.heap.FunFrames X.base X.outer:=by
 have all:∀ (l:List PU),(∀ b∈frs l,b∈X.fs)->X.s₀.heap.FunFrames X.base l->s.heap.FunFrames X.base l:=by
  intro l;induction l with
  |nil=>intro _ _;trivial
  |cons env r ih=>
   intro hs hl;obtain⟨hk,⟨L,o,hf,hn,ho,hd⟩,hr⟩:=hl;have hL:L∈X.fs:=hs L (by unfold frs;rw[Fx,hf];exact Ea);obtain⟨sl,e⟩:=I.base.slot L o ho (I.ok.frf L hL) hL λz=>I.ok.exfs L z hL;exact⟨hk,⟨L,_,hf,hn,e,hd⟩,ih (λb hb=>hs b (by unfold frs;rw[Fx,hf];exact D4 _ hb)) hr⟩
 exact all X.outer (λ_ hb=>hb) I.ok.funs
def Inv.stack(I:Inv X pins σ H s):s.heap.FunFrames X.base X.stack:=by
 rcases I.ok.stk with e|⟨e,hf⟩
 .rw[e];exact I.funs
 .rw[e];obtain⟨m,hn,_⟩:=I.loc;refine .cons (by rw[I.ok.kind];decide) hf hn ?_ I.funs;exact Heap.get?_none_of_le (D9 I.ok.bsz I.ok.above)
def Inv.stkSub(I:Inv X pins σ H s):∀ b∈frs X.stack,b∈X.env.locals::X.fs:=λb hb=>by
 rcases I.ok.stk with e|⟨e,hf⟩
 .rw[e] at hb;exact D4 _ hb
 .rw[e] at hb;unfold frs at hb;rw[Fx,hf] at hb;exact hb
def Inv.stkFree(I:Inv X pins σ H s):∀ b∈frs X.stack,H b=none:=λb hb=>by
 rcases D2.mp (I.stkSub b hb) with e|hb
 .rw[e];exact I.free
 .obtain⟨_,o,ho,_⟩:=I.ok.funs.mem hb;exact I.base.free b o ho (I.ok.frf b hb) λz=>I.ok.exfs b z hb
variable{g':Array GenState}{t':Nat}{d':Drawn}{ch:List KF}
def Inv.step(I:Inv X pins σ H s)
  (v_:∀ b∈ch,(b∈X.ex\/X.s₀.heap.objs.size<=b)/\b≠X.env.locals/\(∀ x c,X.env.cells.lookup x=be c->c≠b)/\∀ p∈X.pn++pins,p.1≠b)
  (keep:∀ b o,b≠X.env.locals->b ∉ X.fs->b ∉ ch->s.heap.get? b=be o->H b=q_->h'.get? b=be o)
  (slot:∀ b o,b≠X.env.locals->b∈X.fs->b ∉ ch->s.heap.get? b=be o->H b=q_->∃ sl,h'.get? b=be {o with slots:=sl}) (free:∀ b o,b ∉ ch->s.heap.get? b=be o->H b=q_->H' b=q_)
  (there:∀ b o,b ∉ ch->s.heap.get? b=be o->∃ o',h'.get? b=be o')
  (tups:∀ b xs,H b=be (.tup xs)->H' b=be (.tup xs)) (frzs:∀ b o u,H b=be (.frz o u)->H' b=be (.frz o u)) (tbls:∀ b ps,H b=be (.tbl ps)->∃ more,H' b=be (.tbl (ps++more)))
  (ns:∀ m,s.heap.Ns X.env.locals m->h'.Ns X.env.locals m) (hok:HOk X.prog X.w H' h') (hg:PZ g'):
  Inv X pins σ H' {s with heap:=h',gens:=g',drawn:=d',toks:=t'}:=by
 have L6:∀ b o,X.s₀.heap.get? b=be o->b≠X.env.locals:=λb o e=>D8 (Ep (Heap.lt_size e) I.ok.above);have JC:∀ b o,X.s₀.heap.get? b=be o->b ∉ X.ex->b ∉ ch:=λb o e hx hb=>by
  rcases(v_ b hb).1 with z|z
  .exact hx z
  .exact absurd (Ep (Heap.lt_size e) z) (E3 _)
 have F_:∀ x c,X.env.cells.lookup x=be c->∀ v,s.heap.IsCell c v->h'.IsCell c v:=λx c e v ⟨o,ho,hd⟩=>by
  have Il:c ∉ ch:=λz=>(v_ c z).2.2.1 x c e rfl;by_cases hc:c∈X.fs
  .obtain⟨sl,q⟩:=slot c o (I.cne x c e) hc Il ho (I.freeC x c e);exact⟨_,q,hd⟩
  .exact⟨o,keep c o (I.cne x c e) hc Il ho (I.freeC x c e),hd⟩
 refine⟨I.ok,I.os,hg,⟨λb o e n hb hx=>?_,λb o e n hb hx=>?_,λb o e n hx=>?_,λb o e hx=>?_,λb xs e=>tups b xs (I.base.tups b xs e),λb o xs e=>frzs b o xs (I.base.frzs b o xs e),λb ps e=>?_⟩,?_,λx c e=>?_,?_,λx c e=>?_,λp hp=>?_,hok,I.len⟩
 .exact keep b o (L6 b o e) hb (JC b o e hx) (I.base.keep b o e n hb hx) (I.base.free b o e n hx)
 .obtain⟨sl,e1⟩:=I.base.slot b o e n hb hx;obtain⟨w_,e2⟩:=slot b _ (L6 b o e) hb (JC b o e hx) e1 (I.base.free b o e n hx);exact⟨w_,e2⟩
 .obtain⟨o',e1⟩:=I.base.there b o e hx;exact free b o' (JC b o e hx) e1 (I.base.free b o e n hx)
 .obtain⟨o',e1⟩:=I.base.there b o e hx;exact there b o' (JC b o e hx) e1
 .obtain⟨m1,e1⟩:=I.base.tbls b ps e;obtain⟨m2,e2⟩:=tbls b _ e1;exact⟨m1++m2,by rw[e2,Array.append_assoc]⟩
 .obtain⟨m,hn,hl⟩:=I.loc;refine⟨m,ns m hn,λi x v e1 e2 e3=>?_⟩;obtain⟨u,r,l⟩:=hl i x v e1 e2 e3;refine⟨u,r,?_⟩;rcases l with l|⟨k,c,e,z⟩
  .exact .inl l
  .exact .inr ⟨k,c,e,F_ x c e _ z⟩
 .obtain⟨v,z⟩:=I.cell x c e;exact⟨v,F_ x c e v z⟩
 .obtain⟨m,⟨o,_,_,ho,_⟩,_⟩:=I.loc;exact free _ o (λz=>(v_ _ z).2.1 rfl) ho I.free
 .obtain⟨v,o,ho,hd⟩:=I.cell x c e;exact free c o (λz=>(v_ c z).2.2.1 x c e rfl) ho (I.freeC x c e)
 .obtain⟨e,n,ne,nf,d⟩:=I.pin p hp;have Il:p.1 ∉ ch:=λz=>(v_ p.1 z).2.2.2 p hp rfl;exact⟨keep p.1 p.2 ne nf Il e n,free p.1 p.2 Il e n,ne,nf,d⟩
def Inv.un(I:Inv X pins σ H s)(u:Un X.fs [] H H' s.heap h')(hok:HOk X.prog X.w H' h'):Inv X pins σ H' {s with heap:=h',toks:=t'}:=by
 obtain⟨m,⟨o,es,ep,ho,r⟩,_⟩:=id I.loc;obtain⟨sl,hL⟩:=u.any ho I.free (by simp);exact I.step (g':=s.gens) (d':=s.drawn) (ch:=[]) (λ_ z=>nomatch z) (λb o _ hb _ e n=>u.keep b o e n hb (by simp)) (λb o _ hb _ e n=>u.slot b o e n hb (by simp)) (λb o _ e n=>u.free b o e n (by simp)) (λb o _ e=>u.there b o e (by simp)) u.tups u.frzs u.tbls (λm' hm=>by
  obtain⟨o',J5,J6,Hl,r'⟩:=hm;rw[ho] at Hl;cases Hl;exact⟨_,J5,J6,hL,r'⟩) hok I.bare
def Inv.call(I:Inv X pins σ H s)(u:Un (frs X.stack) ch H H' s.heap h')(hok:HOk X.prog X.w H' h')(hg:PZ g')
  (v_:∀ b∈ch,(b∈X.ex\/X.s₀.heap.objs.size<=b)/\b≠X.env.locals/\(∀ x c,X.env.cells.lookup x=be c->c≠b)/\∀ p∈X.pn++pins,p.1≠b):
  Inv X pins σ H' {s with heap:=h',gens:=g',drawn:=d',toks:=t'}:=by
 obtain⟨m,⟨o,es,ep,ho,r⟩,_⟩:=id I.loc;obtain⟨sl,hL⟩:=u.any ho I.free λz=>(v_ _ z).2.1 rfl;exact I.step (ch:=ch) v_ (λb o hL hb hc e n=>u.keep b o e n (λz=>(D2.mp (I.stkSub b z)).elim hL hb) hc) (λb o _ _ hc e n=>u.any e n hc) (λb o hc e n=>u.free b o e n hc) (λb o hc e=>u.there b o e hc) u.tups u.frzs u.tbls (λm' hm=>by
  obtain⟨o',J5,J6,Hl,r'⟩:=hm;rw[ho] at Hl;cases Hl;exact⟨_,J5,J6,hL,r'⟩) hok hg
def Inv.turned{it:KF}(I:Inv X pins σ H s)(k:∀ b o,b≠it->s.heap.get? b=be o->h'.get? b=be o)(hn:H it=q_)(hL:it≠X.env.locals)
  (h1:it∈X.ex\/X.s₀.heap.objs.size<=it) (h2:∀ x c,X.env.cells.lookup x=be c->c≠it) (h3:∀ p∈X.pn++pins,p.1≠it):Inv X pins σ H {s with heap:=h',toks:=t'}:=by
 have Hm:∀ b u,H b=be u->b≠it:=λb u e z=>by rw[z,hn] at e;cases e
 refine I.step (g':=s.gens) (d':=s.drawn) (ch:=[it]) (λb hb=>?_) (λb o _ _ hc e _=>k b o (λz=>hc (by simp[z])) e) (λb o _ _ hc e _=>⟨o.slots,k b o (λz=>hc (by simp[z])) e⟩) (λ_ _ _ _ n=>n)
  (λb o hc e=>⟨o,k b o (λz=>hc (by simp[z])) e⟩) (λ_ _ e=>e) (λ_ _ _ e=>e) (λb ps e=>⟨#[],by rw[e];simp⟩) (λm hm=>?_) (λb u e=>?_) I.bare
 .have e:b=it:=by simpa using hb
  subst e;exact⟨h1,hL,h2,h3⟩
 .obtain⟨o,es,ep,ho,r⟩:=hm;exact⟨o,es,ep,k _ o (Ne.symm hL) ho,r⟩
 .refine(I.hok b u e).stay (λc v hc q=>k c v ?_ q) (λ_ q=>q) λ_ _ q=>q;rcases hc with z|z
  .rw[z];exact Hm b u e
  .exact Hm c _ z
def Inv.tok(I:Inv X pins σ H s)(t:Nat):Inv X pins σ H {s with toks:=t}:=I.un (h':=s.heap) (t':=t) Un.refl I.hok
def Inv.kept(I:Inv X pins σ H s)(k:∀ b u,s.heap.get? b=be u->h'.get? b=be u):Inv X pins σ H {s with heap:=h',toks:=t'}:=I.un (Un.kept k) (I.hok.kept k)
def Inv.laid{a:KF}{o:HO}(I:Inv X pins σ H s)(k:∀ b u,s.heap.get? b=be u->h'.get? b=be u)(hp:s.heap.objs.size<=a)(new:ObjOk X.prog X.w (upd H a o) h' a o):
  Inv X pins σ (upd H a o) {s with heap:=h',toks:=t'}:=I.un (Un.laid k hp (I.hok.fresh hp)) (I.hok.laid k hp new)
def Inv.write{x e:KF}{o:HO}(I:Inv X pins σ H s)(mu:Mut (H x))(he:e=x\/H e=be (.own x))(k:∀ b u,b≠e->s.heap.get? b=be u->h'.get? b=be u)(v9:∃ u,h'.get? e=be u)
  (new:ObjOk X.prog X.w (upd H x o) h' x o):Inv X pins σ (upd H x o) {s with heap:=h',toks:=t'}:=I.un (Un.write mu he k v9) (I.hok.write mu he k v9 new)
def Inv.pins_of{G6:List (KF × Pu)}(I:Inv X pins σ H s)(h:∀ p∈G6,s.heap.get? p.1=be p.2/\H p.1=q_/\p.1≠X.env.locals/\p.1 ∉ X.fs/\∀ v,p.2.data≠.cell v):Inv X G6 σ H s:=
 ⟨I.ok,I.os,I.bare,I.base,I.loc,I.cell,I.free,I.freeC,λp hp=>(Et.mp hp).elim (λz=>I.pin p (Fy _ z)) (h p),I.hok,I.len⟩
variable{x:x9}{i:Nat}
def nY{N:List x9}(hN:N.Nodup){j:Nat}(a:N[i]?=be x)(b:N[j]?=be x):i=j:=by
 obtain⟨h1,e1⟩:=Ec.mp a;obtain⟨h2,e2⟩:=Ec.mp b;exact(List.getElem_inj hN).mp (e1.trans e2.symm)
variable{E:KB->KM->Prop}{Q:Unit->KM->Prop}
def nZ{M:Model}{A:Pf}{v:V}{u:KB}(I:Inv X pins σ H s)(hN:X.N.Nodup)(hi:X.N[i]?=be x)(hx:Loc X.env.scope x)(r:RelV v u)
  (h:∀ s',Inv X pins (σ.set i (be v)) H s'->(∃ a,Heap.SameBut a s.heap s'.heap/\(a=X.env.locals\/X.env.cells.lookup x=be a))->Q () s') (hf:autoParam (zFN X x) zA3):Pd M A (storeName X.env x u) Q E s:=by
 obtain⟨m,hn,hl⟩:=id I.loc;have J7:(X.env.scope.kind== .class||(X.env.scope.kind== .module && X.env.locals !=X.env.globals))=false:=by rw[I.ok.kind];rfl
 have hiσ:i<σ.length:=by rw[I.len];exact(Ec.mp hi).1
 have cne:=I.cne;have i7:∀ {a:KF} {h':Heap},(∃ o,s.heap.get? a=be o/\H a=q_)->Heap.SameBut a s.heap h'->HOk X.prog X.w H h':=λ{a h'} ha hs b ob e=>by
  obtain⟨_,_,g_⟩:=ha;refine(I.hok b ob e).stay (λc w' hc q=>(hs.2 c ?_).trans q) (λ_ q=>q) λ_ _ q=>q;rintro rfl;rcases hc with rfl|hc
  .rw[g_] at e;cases e
  .rw[g_] at hc;cases hc
 rcases hx with hk|hk
 .refine wpAny_storeName_local hk hn (λh' j6 hs=>?_) J7;obtain⟨oL,_,_,Nd,_⟩:=id hn;refine h _ ⟨I.ok,I.os,I.bare,⟨λb o e n hb hx=>?_,λb o e n hb hx=>?_,I.base.free,λb o e hx=>?_,I.base.tups,I.base.frzs,I.base.tbls⟩,⟨_,j6,λj y v' e1 e2 e3=>?_⟩,λy c e=>?_,I.free,I.freeC,λp hp=>?_,i7 ⟨oL,Nd,I.free⟩ hs,by simpa using I.len⟩ ⟨_,hs,.inl rfl⟩
  .exact(hs.2 b (D8 (Ep (Heap.lt_size e) I.ok.above))).trans (I.base.keep b o e n hb hx)
  .obtain⟨sl,e1⟩:=I.base.slot b o e n hb hx;exact⟨sl,(hs.2 b (D8 (Ep (Heap.lt_size e) I.ok.above))).trans e1⟩
  .obtain⟨o',e1⟩:=I.base.there b o e hx;exact⟨o',(hs.2 b (D8 (Ep (Heap.lt_size e) I.ok.above))).trans e1⟩
  .by_cases hj:j=i
   .subst hj;rw[hi] at e1;cases e1;rw[EG hiσ] at e2;cases e2;exact⟨u,r,.inl ⟨hk,by simp⟩⟩
   .rw[Eh (Ne.symm hj)] at e2;obtain⟨u',r',q⟩:=hl j y v' e1 e2 e3;refine⟨u',r',?_⟩;rcases q with⟨k,e⟩|⟨k,c,e,z⟩
    .refine .inl ⟨k,?_⟩;have:y≠x:=λe=>hj (nY hN e1 (e ▸ hi));simp[this,e]
    .exact .inr ⟨k,c,e,z.sameBut hs (cne y c e)⟩
  .obtain⟨w',z⟩:=I.cell y c e;exact⟨w',z.sameBut hs (cne y c e)⟩
  .obtain⟨e,n,ne,nf,d⟩:=I.pin p hp;exact⟨(hs.2 p.1 ne).trans e,n,ne,nf,d⟩
 .have Im:X.fn x=true:=by
   rcases hf with z|z
   .exact z
   .rw[z] at hk;cases hk
  obtain⟨c,hc⟩:=I.ok.has x (.inl hk);obtain⟨w',z⟩:=I.cell x c hc;refine wpAny_storeName_cell I.ok.kind hk hc z (λh' w6 hs=>?_);obtain⟨oc,L7,J8⟩:=id z;refine h {s with heap:=h'} ⟨I.ok,I.os,I.bare,⟨λb o e n hb hx=>?_,λb o e n hb hx=>?_,I.base.free,λb o e hx=>?_,I.base.tups,I.base.frzs,I.base.tbls⟩,⟨m,hn.sameBut hs (Ne.symm (cne x c hc)),λj y v' e1 e2 e3=>?_⟩,λy c' e=>?_,I.free,I.freeC,λp hp=>?_,i7 ⟨oc,L7,I.freeC x c hc⟩ hs,by simpa using I.len⟩ ⟨c,hs,.inr hc⟩
  .exact(hs.2 b (D8 (Ep (Heap.lt_size e) (I.ok.cab x c Im hc)))).trans (I.base.keep b o e n hb hx)
  .obtain⟨sl,e1⟩:=I.base.slot b o e n hb hx;exact⟨sl,(hs.2 b (D8 (Ep (Heap.lt_size e) (I.ok.cab x c Im hc)))).trans e1⟩
  .obtain⟨o',e1⟩:=I.base.there b o e hx;exact⟨o',(hs.2 b (D8 (Ep (Heap.lt_size e) (I.ok.cab x c Im hc)))).trans e1⟩
  .by_cases hj:j=i
   .subst hj;rw[hi] at e1;cases e1;rw[EG hiσ] at e2;cases e2;exact⟨u,r,.inr ⟨.inl hk,c,hc,w6⟩⟩
   .rw[Eh (Ne.symm hj)] at e2;obtain⟨u',r',q⟩:=hl j y v' e1 e2 e3;refine⟨u',r',?_⟩;rcases q with q|⟨k,c',e,z'⟩
    .exact .inl q
    .refine .inr ⟨k,c',e,z'.sameBut hs ?_⟩;rintro rfl;exact hj (nY hN e1 (I.ok.inj _ _ _ e hc ▸ hi))
  .by_cases L8:c'=c
   .subst L8;exact⟨_,w6⟩
   .obtain⟨w2,z2⟩:=I.cell y c' e;exact⟨w2,z2.sameBut hs L8⟩
  .obtain⟨e,n,ne,nf,d⟩:=I.pin p hp;refine⟨(hs.2 p.1 ?_).trans e,n,ne,nf,d⟩;intro q;rw[q,L7] at e;have q':oc=p.2:=Option.some.inj e;exact d w' (by rw[<- q'];exact J8)
def fF{M:Model}{A:Pf}{v:V}{u:KB}(I:Inv X pins σ H s)(hN:X.N.Nodup)(hi:X.N[i]?=be x)(hx:Loc X.env.scope x)(r:RelV v u)
  (h:∀ s',Inv X pins (σ.set i (be v)) H s'->Q () s') (hf:autoParam (zFN X x) zA3):Pd M A (storeName X.env x u) Q E s:=
 nZ I hN hi hx r (λs' I' _=>h s' I') hf
def Inv.call'{s':KM}(I:Inv X pins σ H s)(ho:s'.os=s.os)(u:Un (frs X.stack) ch H H' s.heap s'.heap)(hok:HOk X.prog X.w H' s'.heap)(hg:PZ s'.gens)
  (v_:∀ b∈ch,(b∈X.ex\/X.s₀.heap.objs.size<=b)/\b≠X.env.locals/\(∀ x c,X.env.cells.lookup x=be c->c≠b)/\∀ p∈X.pn++pins,p.1≠b):Inv X pins σ H' s':=by
 obtain⟨h',g',d',t',o'⟩:=s';have e:o'=s.os:=ho;subst e;exact I.call (g':=g') (t':=t') (d':=d') u hok hg v_
end
abbrev XK:=KB->Option KF->Hp->Prop
abbrev St:=List (Option V)
abbrev VK:=V->Hp->Prop
abbrev TE:=St->Hp->VK->Prop
abbrev TT:=St->Hp->(Bool->Hp->Prop)->Prop
abbrev TA:=St->Hp->(List V->Hp->Prop)->Prop
structure Ends where
 nx:St->Hp->Prop
 rt:VK
 bk:St->Hp->Prop:=λ_ _=>False
 ct:St->Hp->Prop:=λ_ _=>False
abbrev TS:=Ends->St->Hp->Prop
def EP(X:Cx)(pins:List (KF × Pu))(σ:St)(Q:VK)(u:KB)(s':KM):Prop:=∃ v H',Inv X pins σ H' s'/\RelV v u/\Q v H'
def TP(X:Cx)(pins:List (KF × Pu))(σ:St)(Q:Bool->Hp->Prop)(b:Bool)(s':KM):Prop:=∃ H',Inv X pins σ H' s'/\Q b H'
def AP(X:Cx)(pins:List (KF × Pu))(σ:St)(Q:List V->Hp->Prop)(us:List KB)(s':KM):Prop:=∃ vs H',Inv X pins σ H' s'/\Vals vs us/\Q vs H'
def SP(X:Cx)(pins:List (KF × Pu))(D:Ends)(f:Flow)(s':KM):Prop:=
 match f with
 | .next=>∃ σ' H',Inv X pins σ' H' s'/\D.nx σ' H'
 | .brk=>∃ σ' H',Inv X pins σ' H' s'/\D.bk σ' H'
 | .cont=>∃ σ' H',Inv X pins σ' H' s'/\D.ct σ' H'
 | .ret u=>∃ v σ' H',Inv X pins σ' H' s'/\RelV v u/\D.rt v H'
def PE(X:Cx)(e:O_)(t:TE):Prop:=
 ∀ (pins:List (KF × Pu)) (s:KM) (σ:St) (H:Hp) (Q:VK),Inv X pins σ H s->t σ H Q->Pd (Pc X.prog X.w) X.A (Pj e X.env) (EP X pins σ Q) X.xe s
def PT(X:Cx)(e:O_)(t:TT):Prop:=
 ∀ (pins:List (KF × Pu)) (s:KM) (σ:St) (H:Hp) (Q:Bool->Hp->Prop),Inv X pins σ H s->t σ H Q->Pd (Pc X.prog X.w) X.A (isTrue e X.env (Pj e X.env)) (TP X pins σ Q) X.xe s
def PW(X:Cx)(e:O_)(t:TT):Prop:=
 ∀ (gV:QC KB) (pins:List (KF × Pu)) (s:KM) (σ:St) (H:Hp) (Q:Bool->Hp->Prop),Inv X pins σ H s->t σ H Q->Pd (Pc X.prog X.w) X.A (isTrue e X.env gV) (TP X pins σ Q) X.xe s
variable{X:Cx}
def PW.pt{e:O_}{t:TT}(h:PW X e t):PT X e t:=h _
def PA(X:Cx)(es:List O_)(t:TA):Prop:=
 ∀ (pos:Pm) (pins:List (KF × Pu)) (s:KM) (σ:St) (H:Hp) (Q:List V->Hp->Prop),Inv X pins σ H s->t σ H Q->Pd (Pc X.prog X.w) X.A (spliced (PP pos (Pg es X.env))) (AP X pins σ Q) X.xe s
def PS(X:Cx)(st:Pb)(t:TS):Prop:=
 ∀ (pins:List (KF × Pu)) (s:KM) (σ:St) (H:Hp) (D:Ends),Inv X pins σ H s->t D σ H->Pd (Pc X.prog X.w) X.A (exec st X.env) (SP X pins D) X.xe s
def PSs(X:Cx)(st:List Pb)(t:TS):Prop:=
 ∀ (pins:List (KF × Pu)) (s:KM) (σ:St) (H:Hp) (D:Ends),Inv X pins σ H s->t D σ H->Pd (Pc X.prog X.w) X.A (execs st X.env) (SP X pins D) X.xe s
variable{A:Pf}{E:KB->KM->Prop}{s:KM}
def thn{α:Type}{t:QC α}{Q Q':α->KM->Prop}{M:Model}(h:Pd M A t Q E s)(hQ:∀ a s,Q a s->Q' a s):Pd M A t Q' E s:=Pn h hQ λ_ _ x=>x
section
variable {X:Cx}
def tVar(i:Nat):TE:=λσ H Q=>∃ v,σ[i]?=be (be v)/\Q v H
def tC(v:V):TE:=λ_ H Q=>Q v H
variable{x:x9}{pos:Pm}
def eO{i:Nat}(hN:X.N[i]?=be x)(hv:Vis X.env.scope x)(hd:autoParam (zND x) zA1)(g6:autoParam (zNC x) zA1):PE X (.Name x pos) (tVar i):=by
 intro pins s σ H Q I h;obtain⟨v,e,h⟩:=h;obtain⟨m,hn,hl⟩:=I.loc;obtain⟨u,r,l⟩:=hl i x v hN e hv;have d8:EP X pins σ Q u s:=⟨v,H,I,r,h⟩;rcases l with⟨hk,hm⟩|⟨hk,c,hc,j9⟩
 .exact QK (wpAny_loadName_local I.ok.kind hk hn hm d8) hd
 .rcases hk with hk|hk
  .exact QK (wpAny_loadName_cell I.ok.kind hk hc j9 d8) hd
  .exact QK (wpAny_loadName_free I.ok.kind hk hc j9 d8 g6) hd
def tm{i j pos}:PE X (.Constant (.int i) j pos) (tC (.int i)):=λ_ _ _ H _ I h=>wpAny_Constant_int ⟨.int i,H,I.tok _,⟨_,rfl⟩,h⟩
def tw{b j pos}:PE X (.Constant (.bool b) j pos) (tC (.bl b)):=λ_ _ _ H _ I h=>Constant_bool ⟨.bl b,H,I,rfl,h⟩
def tz{j pos}:PE X (.Constant .none j pos) (tC .non):=λ_ _ _ H _ I h=>Constant_none ⟨.non,H,I,rfl,h⟩
def oa{x j pos}:PE X (.Constant (.str x) j pos) (tC (.str x)):=λ_ _ _ H _ I h=>Calls.Constant_str ⟨.str x,H,I.tok _,⟨_,rfl⟩,h⟩
def Gl(X:Cx)(x:x9):Prop:=X.env.kindOf x=be .globalImplicit
variable{E Q:KB->KM->Prop}{pins:List (KF × Pu)}{u:KB}
def cR{s:KM}{σ:St}{H:Hp}(I:Inv X pins σ H s)(hg:Gl X x)(hm:X.mg x=be u)(h:Q u s)
  (hd:autoParam (zND x) zA1):Pd (Pc X.prog X.w) X.A (Pj (.Name x pos) X.env) Q E s:=
 Calls.Name_function_global I.ok.kind hg (Calls.loadGlobal_global (by rw[I.ok.glob];exact I.mod.glob.keeps I.bk) hm h) hd
def cS{s:KM}{σ:St}{H:Hp}(I:Inv X pins σ H s)(hg:Gl X x)(hm:X.mg x=q_)(hv:Pr x=be u)(h:Q u s)
  (hn:autoParam (x≠"__name__") zA1) (hd:autoParam (zND x) zA1):Pd (Pc X.prog X.w) X.A (Pj (.Name x pos) X.env) Q E s:=by
 obtain⟨mb,h1,h2⟩:=I.mod.blt;exact Calls.Name_function_global I.ok.kind hg (Calls.loadGlobal_builtin (by rw[I.ok.glob];exact I.mod.glob.keeps I.bk) hm (by rw[I.ok.blt];exact h1.keeps I.bk) ((h2 x hn).trans hv) h) hd
def tD{v:V}(hg:Gl X x)(hm:X.mg x=be u)(r:RelV v u)(hd:autoParam (zND x) zA1):PE X (.Name x pos) (tC v):=
 λ_ _ _ H _ I h=>cR I hg hm ⟨v,H,I,r,h⟩ hd
def tE{v:V}(hg:Gl X x)(hm:X.mg x=q_)(hv:Pr x=be u)(r:RelV v u)(hn:autoParam (x≠"__name__") zA1)(hd:autoParam (zND x) zA1):PE X (.Name x pos) (tC v):=
 λ_ _ _ H _ I h=>cS I hg hm hv ⟨v,H,I,r,h⟩ hn hd
variable {a b:O_}{ta tb:TE}{pos:Pm}
def tB(t:TE):TT:=λσ H Q=>t σ H λx H1=>∃ c,x= .bl c/\Q c H1
variable {tA x8:TT}{rest:List O_}
def tAnd(t u:TT):TT:=λσ H Q=>t σ H λc H1=>if c=true then u σ H1 Q else Q false H1
def tOr(t u:TT):TT:=λσ H Q=>t σ H λc H1=>if c=true then Q true H1 else u σ H1 Q
def tNot(t:TT):TT:=λσ H Q=>t σ H λc H1=>Q (!c) H1
def oe(ha:PT X a tA):PW X (.BoolOp .And [a] pos) tA:=by
 intro wh pins s σ H Q I h;refine isTrue_and (thn (ha pins s σ H Q I h) λc s1 e=>?_);cases c with
 |true=>exact isTrue_and_nil e
 |false=>exact e
def og(ha:PT X a tA):PW X (.BoolOp .Or [a] pos) tA:=by
 intro wh pins s σ H Q I h;refine isTrue_or (thn (ha pins s σ H Q I h) λc s1 e=>?_);cases c with
 |false=>exact isTrue_or_nil e
 |true=>exact e
def oh(ha:PT X a tA)(hb:PW X (.BoolOp .And (b::rest) pos) x8):PW X (.BoolOp .And (a::b::rest) pos) (tAnd tA x8):=by
 intro wh pins s σ H Q I h;refine isTrue_and (thn (ha pins s σ H _ I h) λc s1 b8=>?_);obtain⟨H1,I1,q1⟩:=b8;cases c with
 |true=>exact hb wh pins s1 σ H1 Q I1 q1
 |false=>exact⟨H1,I1,q1⟩
def oi(ha:PT X a tA)(hb:PW X (.BoolOp .Or (b::rest) pos) x8):PW X (.BoolOp .Or (a::b::rest) pos) (tOr tA x8):=by
 intro wh pins s σ H Q I h;refine isTrue_or (thn (ha pins s σ H _ I h) λc s1 b8=>?_);obtain⟨H1,I1,q1⟩:=b8;cases c with
 |true=>exact⟨H1,I1,q1⟩
 |false=>exact hb wh pins s1 σ H1 Q I1 q1
def tF(ha:PT X a tA):PT X (.UnaryOp .Not a pos) (tNot tA):=by
 intro pins s σ H Q I h;exact isTrue_not (ha pins s σ H (λc H1=>Q (!c) H1) I h)
def tG(ta tb:TE):TE:=λσ H Q=>ta σ H λx H1=>∃ c,x= .bl c/\if c=true then tb σ H1 Q else Q (.bl false) H1
def tH(ta:TE):TE:=λσ H Q=>ta σ H λx H1=>∃ c,x= .bl c/\Q (.bl (!c)) H1
def tI{op}{t:TE}(h:PE X a t):PE X (.BoolOp op [a] pos) t:=λpins s σ H Q I hw=>BoolOp_one (h pins s σ H Q I hw)
def tJ(ha:PE X a ta)(hb:PE X (.BoolOp .And (b::rest) pos) tb):PE X (.BoolOp .And (a::b::rest) pos) (tG ta tb):=by
 intro pins s σ H Q I h;refine BoolOp_and (thn (ha pins s σ H _ I h) λv s1 b8=>?_);obtain⟨x,H1,I1,r1,q1⟩:=b8;obtain⟨c,rfl,q1⟩:=q1;cases r1;refine PV ?_;cases c with
 |true=>exact hb pins s1 σ H1 Q I1 q1
 |false=>exact⟨.bl false,H1,I1,rfl,q1⟩
def tK(ha:PE X a ta):PE X (.UnaryOp .Not a pos) (tH ta):=by
 intro pins s σ H Q I h;refine UnaryOp_ (thn (ha pins s σ H _ I h) λv s1 b8=>?_);obtain⟨x,H1,I1,r1,q1⟩:=b8;obtain⟨c,rfl,q1⟩:=q1;cases r1;exact not_of (PV ⟨.bl (!c),H1,I1,rfl,q1⟩)
def tIf(t:TT)(ta tb:TE):TE:=λσ H Q=>t σ H λc H1=>if c=true then ta σ H1 Q else tb σ H1 Q
def tL{c:O_}(hc:PT X c tA)(ha:PE X a ta)(hb:PE X b tb):PE X (.IfExp c a b pos) (tIf tA ta tb):=by
 intro pins s σ H Q I h;refine wpAny_IfExp (thn (hc pins s σ H _ I h) λd s1 b8=>?_);obtain⟨H1,I1,q1⟩:=b8;cases d with
 |true=>exact ha pins s1 σ H1 Q I1 q1
 |false=>exact hb pins s1 σ H1 Q I1 q1
end
def SqL(K:DR)(H:Hp)(a:KF)(xs:List V):Prop:=
 Rd H a (.lst xs)\/
  ∃ (o:Pu) (its:Array KB) (n:Nat),K.lookup a=be o/\o.cls= .type "list"/\o.dict=q_/\o.data= .seq its n/\its.size<=sizeLine/\Vals xs its.toList
def SqT(K:DR)(H:Hp)(a:KF)(xs:List V):Prop:=
 Rd H a (.tup xs)\/
  ∃ (o:Pu) (its:Array KB) (n:Nat),K.lookup a=be o/\o.cls= .type "tuple"/\o.data= .seq its n/\its.size<=sizeLine/\Vals xs its.toList
def absV:KB->Option V
 | .none=>be .non
 | .bool b=>be (.bl b)
 | .int i _=>be (.int i)
 | .str x _=>be (.str x)
 | .bytes b _=>be (.byt b)
 | .float b _=>be (.flt b)
 | .ref a=>be (.ref a)
 | .type n=>be (.ty n)
 |_=>q_
variable{u:KB}
def RelV.abs{x:V}(r:RelV x u):absV u=be x:=by
 cases x with
 |non=>cases r;rfl
 |bl _=>cases r;rfl
 |int _=>obtain⟨t,rfl⟩:=r;rfl
 |str _=>obtain⟨t,rfl⟩:=r;rfl
 |byt _=>obtain⟨t,rfl⟩:=r;rfl
 |flt _=>obtain⟨t,rfl⟩:=r;rfl
 |ref _=>cases r;rfl
 |ty _=>cases r;rfl
def RelV.inj{x y:V}(r:RelV x u)(q:RelV y u):x=y:=Option.some.inj (r.abs.symm.trans q.abs)
def Vals.inj:∀ {xs ys:List V} {us:List KB},Vals xs us->Vals ys us->xs=ys:=by
 intro xs ys us h;induction h generalizing ys with
 |nil=>intro g;cases g;rfl
 |cons r _ e=>
  intro g;cases g with
  |cons r' t'=>rw[r.inj r',e t']
section
variable {X:Cx}{pins:List (KF × Pu)}{σ:St}{H:Hp}{s:KM}{a:KF}{xs ys:List V}
def SqL.of{K:DR}(h:H a=be (.lst xs)):SqL K H a xs:= .inl (.inl h)
def SqT.of{K:DR}(h:H a=be (.tup xs)):SqT K H a xs:= .inl (.inl h)
def Inv.list(I:Inv X pins σ H s)(h:SqL X.K H a xs):∃ its:List KB,Vals xs its/\PlainL s.heap a its.toArray/\xs.length<=sizeLine:=by
 rcases h with h|⟨o,its,n,hk,hc,hd,hs,hz,r⟩
 .obtain⟨z,its,n,r,e⟩:=h.ok I.hok;exact⟨its,r,⟨_,n,e,rfl,rfl,rfl⟩,z⟩
 .refine⟨its.toList,r,⟨o,n,I.kIn a o hk,hc,hd,by simpa using hs⟩,?_⟩;have e:=r.length;simp only[E4] at e;lia
def Inv.tuple(I:Inv X pins σ H s)(h:SqT X.K H a xs):∃ its:List KB,Vals xs its/\IsTup s.heap a its.toArray/\xs.length<=sizeLine:=by
 rcases h with h|⟨o,its,n,hk,hc,hs,hz,r⟩
 .obtain⟨z,its,r,p⟩:=h.ok I.hok;exact⟨its,r,p,z⟩
 .refine⟨its.toList,r,⟨o,I.kIn a o hk,hc,n,by simpa using hs⟩,?_⟩;have e:=r.length;simp only[E4] at e;lia
def Inv.list_inj(I:Inv X pins σ H s)(h:SqL X.K H a xs)(h':SqL X.K H a ys):xs=ys:=by
 obtain⟨its,r,⟨o,n,e,_,_,d⟩,_⟩:=I.list h;obtain⟨its',r',⟨o',n',e',_,_,d'⟩,_⟩:=I.list h';rw[e] at e';cases e';rw[d] at d';injection d' with d1 _;have:its=its':=by simpa using congrArg Gi d1
 subst this;exact r.inj r'
def Inv.tuple_inj(I:Inv X pins σ H s)(h:SqT X.K H a xs)(h':SqT X.K H a ys):xs=ys:=by
 obtain⟨its,r,⟨o,e,_,n,d⟩,_⟩:=I.tuple h;obtain⟨its',r',⟨o',e',_,n',d'⟩,_⟩:=I.tuple h';rw[e] at e';cases e';rw[d] at d';injection d' with d1 _;have:its=its':=by simpa using congrArg Gi d1
 subst this;exact r.inj r'
end
abbrev Cx.wish(X:Cx)(E:KB->KM->Prop):Cx:={X with xe:=E}
abbrev Cx.nox(X:Cx):Cx:=X.wish λ_ _=>False
def Cx.Ok.wish(ok:X.Ok)(E:KB->KM->Prop):(X.wish E).Ok:=
 ⟨ok.mod,ok.kind,ok.glob,ok.blt,ok.above,ok.inj,ok.has,ok.cab,ok.hd,ok.frames,ok.stk,ok.exf,ok.bs,ok.bsz,ok.noex,ok.exfs,ok.funs,ok.frf⟩
def Cx.Ok.unwish(ok:(X.wish E).Ok):X.Ok:=
 ⟨ok.mod,ok.kind,ok.glob,ok.blt,ok.above,ok.inj,ok.has,ok.cab,ok.hd,ok.frames,ok.stk,ok.exf,ok.bs,ok.bsz,ok.noex,ok.exfs,ok.funs,ok.frf⟩
section
variable {X:Cx}{pins:List (KF × Pu)}{σ:St}{H:Hp}{s:KM}{E:KB->KM->Prop}
def Inv.wish(I:Inv X pins σ H s)(E:KB->KM->Prop):Inv (X.wish E) pins σ H s:=⟨I.ok.wish E,I.os,I.bare,I.base,I.loc,I.cell,I.free,I.freeC,I.pin,I.hok,I.len⟩
def Inv.unwish(I:Inv (X.wish E) pins σ H s):Inv X pins σ H s:=⟨I.ok.unwish,I.os,I.bare,I.base,I.loc,I.cell,I.free,I.freeC,I.pin,I.hok,I.len⟩
def SP.unwish{D:Ends}{f:Flow}{s':KM}(h:SP (X.wish E) pins D f s'):SP X pins D f s':=by
 cases f with
 |next=>obtain⟨σ',H',I,q⟩:=h;exact⟨σ',H',I.unwish,q⟩
 |brk=>obtain⟨σ',H',I,q⟩:=h;exact⟨σ',H',I.unwish,q⟩
 |cont=>obtain⟨σ',H',I,q⟩:=h;exact⟨σ',H',I.unwish,q⟩
 |ret u=>obtain⟨v,σ',H',I,r,q⟩:=h;exact⟨v,σ',H',I.unwish,r,q⟩
def PE.nox{e:O_}{t:TE}(h:PE X.nox e t):PE X e t:=λpins s σ H Q I hw=>
 Pn (h pins s σ H Q (I.wish _) hw) (λ_ _ ⟨v,H',I',r,q⟩=>⟨v,H',I'.unwish,r,q⟩) λ_ _ z=>False.elim z
def PT.nox{e:O_}{t:TT}(h:PT X.nox e t):PT X e t:=λpins s σ H Q I hw=>
 Pn (h pins s σ H Q (I.wish _) hw) (λ_ _ ⟨H',I',q⟩=>⟨H',I'.unwish,q⟩) λ_ _ z=>False.elim z
def PSs.nox{st:List Pb}{t:TS}(h:PSs X.nox st t):PSs X st t:=λpins s σ H D I hw=>
 Pn (h pins s σ H D (I.wish _) hw) (λ_ _ q=>q.unwish) λ_ _ z=>False.elim z
end
section
variable {X:Cx}{st:Pb}{rest:List Pb}{t u:TS}{e:O_}{te:TE}{pos:Pm}
def tM:TS:=λD σ H=>D.nx σ H
def tSeq(t u:TS):TS:=λD σ H=>t {D with nx:=u D} σ H
def pss_nil:PSs X [] tM:=λ_ _ σ H _ I h=>P5 ⟨σ,H,I,h⟩
def eQ(h1:PS X st t)(h2:PSs X rest u):PSs X (st::rest) (tSeq t u):=by
 intro pins s σ H D I h;refine wpAny_execs_cons (thn (h1 pins s σ H {D with nx:=u D} I h) λf s1 q=>?_);cases f with
 |next=>
  obtain⟨σ',H',I',q⟩:=q;exact h2 pins s1 σ' H' D I' q
 |ret v=>exact q
 |brk=>exact q
 |cont=>exact q
def oj(h1:PS X st t):PSs X [st] t:=by
 intro pins s σ H D I h;refine wpAny_execs_cons (thn (h1 pins s σ H D I h) λf s1 q=>?_);cases f with
 |next=>exact P5 q
 |ret v=>exact q
 |brk=>exact q
 |cont=>exact q
def Inv.quiet{pins:List (KF × Pu)}{σ:St}{H:Hp}{s:KM}(I:Inv X pins σ H s):interactive X.env=false:=by simp[interactive,I.ok.kind]
def tN(te:TE):TS:=λD σ H=>te σ H λ_ H1=>D.nx σ H1
def ol(he:PE X e te)(hs:autoParam (Pt e q_ pos.line X.env=pure false) zA0):PS X (.Expr e pos) (tN te):=by
 intro pins s σ H D I h;exact wpAny_Expr_any (thn (he pins s σ H _ I h) λv s1 ⟨x,H1,I1,r1,q1⟩=>⟨σ,H1,I1,q1⟩) I.quiet hs
def tRet(te:TE):TS:=λD σ H=>te σ H D.rt
def om(he:PE X e te):PS X (.Return (be e) pos) (tRet te):=by
 intro pins s σ H D I h;exact wpAny_Return_some (thn (he pins s σ H _ I h) λv s1 ⟨x,H1,I1,r1,q1⟩=>⟨x,σ,H1,I1,r1,q1⟩)
def tIfS(c:TT)(t u:TS):TS:=λD σ H=>c σ H λb H1=>if b=true then t D σ H1 else u D σ H1
def oq{c:O_}{a b:List Pb}{tc:TT}(hc:PT X c tc)(ha:PSs X a t)(hb:PSs X b u):PS X (.If c a b pos) (tIfS tc t u):=by
 intro pins s σ H D I h;refine wpAny_If (thn (hc pins s σ H _ I h) λd s1 b8=>?_);obtain⟨H1,I1,q1⟩:=b8;cases d with
 |true=>exact ha pins s1 σ H1 D I1 q1
 |false=>exact hb pins s1 σ H1 D I1 q1
end
abbrev TG:=V->St->Hp->(St->Hp->Prop)->Prop
abbrev TGs:=List V->St->Hp->(St->Hp->Prop)->Prop
def PG(X:Cx)(f_:O_)(t:TG):Prop:=
 ∀ (pins:List (KF × Pu)) (s:KM) (σ:St) (H:Hp) (v:V) (u:KB) (Q:St->Hp->Prop),Inv X pins σ H s->RelV v u->t v σ H Q->
  Pd (Pc X.prog X.w) X.A (Qa f_ X.env u) (λ_ s'=>∃ σ' H',Inv X pins σ' H' s'/\Q σ' H') X.xe s
def PGs(X:Cx)(ts:List O_)(t:TGs):Prop:=
 ∀ (pins:List (KF × Pu)) (s:KM) (σ:St) (H:Hp) (vs:List V) (us:List KB) (Q:St->Hp->Prop),Inv X pins σ H s->Vals vs us->t vs σ H Q->
  Pd (Pc X.prog X.w) X.A (assignInOrder ((Pk ts X.env).map (·.2)) us) (λ_ s'=>∃ σ' H',Inv X pins σ' H' s'/\Q σ' H') X.xe s
section
variable {X:Cx}{pos:Pm}
def fG(i:Nat):TG:=λv σ H Q=>Q (σ.set i (be v)) H
def eU{i:Nat}{x:x9}(hN:X.N.Nodup)(hi:X.N[i]?=be x)(hx:Loc X.env.scope x)(hf:autoParam (zFN X x) zA3):PG X (.Name x pos) (fG i):=by
 intro pins s σ H v u Q I r h;exact PY (fF I hN hi hx r (λs' I'=>⟨_,H,I',h⟩) hf)
def gNil:TGs:=λvs σ H Q=>vs=[]/\Q σ H
def tO(t:TG)(u:TGs):TGs:=λvs σ H Q=>∃ v r,vs=v::r/\t v σ H λσ' H'=>u r σ' H' Q
def tP:PGs X [] gNil:=by
 intro pins s σ H vs us Q I r h;obtain⟨e,h⟩:=h;subst e;cases r;exact assignInOrder_nil ⟨σ,H,I,h⟩
variable{e:O_}{es:List O_}
def tQ{t:TG}{u:TGs}(h1:PG X e t)(h2:PGs X es u)
  (hs:autoParam ((Pk (e::es) X.env).map (·.2)=Qa e X.env::(Pk es X.env).map (·.2)) zA0):PGs X (e::es) (tO t u):=by
 intro pins s σ H vs us Q I r h;obtain⟨v,vr,e1,h⟩:=h;subst e1;cases r with
 |cons r rr=>
  rw[hs];refine assignInOrder_cons (thn (h1 pins s σ H _ _ _ I r h) λ_ s1 b8=>?_);obtain⟨σ1,H1,I1,q1⟩:=b8;exact h2 pins s1 σ1 H1 _ _ Q I1 rr q1
def gTup(K:DR)(n:Nat)(t:TGs):TG:=λv σ H Q=>∃ a xs,v= .ref a/\SqT K H a xs/\xs.length=n/\t xs σ H Q
def fH{k:Nat}{t:TGs}{n:Nat}(hc:X.calm=true)(h:PGs X es t)
  (hn:autoParam ((Pk es X.env).length=n) zA0) (t5:autoParam ((Pk es X.env).findIdx? (·.1)=none) zA0):PG X (.Tuple es k pos) (gTup X.K n t):=by
 intro pins s σ H v u Q I r hw;obtain⟨a,xs,e1,hq,hl,hw⟩:=hw;subst e1;cases r;obtain⟨its,rv,ht,hz⟩:=I.tuple hq;refine assign_Tuple_tuple (I.ok.hd hc) ht (by simp[hn,<- hl,rv.length]) t5 λh' hx=>?_;have I1:Inv X pins σ H {s with heap:=h'}:=I.kept (t':=s.toks) λb o e=>hx b o (D8 (Heap.lt_size e)) e;exact h pins _ σ H xs _ Q I1 (by simpa using rv) hw
def tAsg(te:TE)(g:TG):TS:=λD σ H=>te σ H λx H1=>g x σ H1 D.nx
def tR{tg:O_}{te:TE}{g:TG}(he:PE X e te)(hg:PG X tg g)(hs:autoParam (swapsWithSole [tg] e pos.line X.env=pure false) zA0)(hw:autoParam (swappedStores [tg] e X.env=pure none) zA0)
  (h1:autoParam ((Pk [tg] X.env).map (·.2)=[Qa tg X.env]) zA0):PS X (.Assign [tg] e pos) (tAsg te g):=by
 intro pins s σ H D I h;refine wpAny_Assign_stores (thn (he pins s σ H _ I h) λv s1 hh=>?_) hs hw;obtain⟨x,H1,I1,r1,q1⟩:=hh;rw[h1];exact thn (hg pins s1 σ H1 x v _ I1 r1 q1) λ_ s2 q=>q
def iY{i:Nat}{x:x9}{te:TE}{c8:Pm}(hN:X.N.Nodup)(hi:X.N[i]?=be x)(hx:Loc X.env.scope x)(he:PE X e te)(hs:autoParam (Pt e (be (.Name x c8)) pos.line X.env=pure false) zA0)(hf:autoParam (zFN X x) zA3):
  PS X (.Assign [.Name x c8] e pos) (tAsg te (fG i)):=by
 intro pins s σ H D I h;refine wpAny_Assign_Name (thn (he pins s σ H _ I h) λv s1 hh=>?_) hs;obtain⟨y,H1,I1,r1,q1⟩:=hh;exact fF I1 hN hi hx r1 (λs2 I2=>⟨_,H1,I2,q1⟩) hf
def tS(c:TT)(tb:TS):TS:=λD σ H=>∃ W:Nat->St->Hp->Prop,(∃ m,W m σ H)/\∀ m σ H,W m σ H->
 c σ H λb H1=>if b=true then ∃ N:St->Hp->Prop,(∀ σ' H',N σ' H'->∃ m',m'<m/\W m' σ' H')/\tb {D with nx:=N,ct:=N,bk:=D.nx} σ H1 else D.nx σ H1
def ot{c:O_}{body:List Pb}{tc:TT}{tb:TS}(hp:PF (Pc X.prog X.w) X.A X.env X.xe)(hc:PT X c tc)(hb:PSs X body tb):PS X (.While c body [] pos) (tS tc tb):=by
 intro pins s σ H D I h;obtain⟨W,⟨m0,w0⟩,b_⟩:=h;refine wpAny_While (codeAny_whileLoop (λn s'=>∃ σ' H',Inv X pins σ' H' s'/\W n σ' H') ?_ m0 ⟨σ,H,I,w0⟩);rintro n s1 ⟨σ1,H1,I1,w1⟩;refine Px hp (thn (hc pins s1 σ1 H1 _ I1 (b_ n σ1 H1 w1)) λb s2 b8=>?_);obtain⟨H2,I2,q2⟩:=b8;cases b with
 |true=>
  obtain⟨N,hN,q2⟩:=q2;rw[if_pos rfl];refine Px hp (thn (hb pins s2 σ1 H2 _ I2 q2) λf s3 q3=>?_);cases f with
  |next=>
   obtain⟨σ3,H3,I3,n3⟩:=q3;obtain⟨m',hm,w3⟩:=hN σ3 H3 n3;exact⟨m',hm,σ3,H3,I3,w3⟩
  |cont=>
   obtain⟨σ3,H3,I3,n3⟩:=q3;obtain⟨m',hm,w3⟩:=hN σ3 H3 n3;exact⟨m',hm,σ3,H3,I3,w3⟩
  |brk=>exact q3
  |ret v=>exact q3
 |false=>
  rw[if_neg D6];exact P5 ⟨σ1,H2,I2,q2⟩
end
structure It where
 go:Nat->Hp->Prop
 yld:Nat->Hp->V->Hp->Prop
 stop:Nat->Hp->Prop
def FpOk(X:Cx)(pins:List (KF × Pu))(H:Hp)(b:KF):Prop:=
 H b=q_/\b≠X.env.locals/\b ∉ X.fs/\(b∈X.ex\/X.s₀.heap.objs.size<=b)/\(∀ x c,X.env.cells.lookup x=be c->c≠b)/\∀ p∈X.pn++pins,p.1≠b
variable{σ:St}
def Inv.fpOk{pins:List (KF × Pu)}{H':Hp}(I:Inv X pins σ H s)(hb:s.heap.objs.size<=b)(hn:H' b=q_):FpOk X pins H' b:=by
 refine⟨hn,ET (Ep I.lt hb),I.nofs hb,.inr (D9 I.sz hb),λx c e z=>?_,λp hp z=>?_⟩
 .obtain⟨v,q⟩:=I.cell x c e;exact absurd (Ep q.lt (by rw[z];exact hb)) (E3 _)
 .exact absurd (Ep (Heap.lt_size (I.pin p hp).1) (by rw[z];exact hb)) (E3 _)
structure Turn(P:O9)(w:Pe)(K:DR)(tg:O_)(J:It)(fp:List KF)(it:KF)(tn:Nat->Heap->Prop):Prop where
 mem:it∈fp
 obj:∀ i h,tn i h->∀ b∈fp,∃ o,h.get? b=be o/\∀ v,o.data≠.cell v
 keep:∀ i h h',tn i h->(∀ b∈fp,∀ o,h.get? b=be o->h'.get? b=be o)->tn i h'
 item:∀ (X:Cx),X.prog=P->X.w=w->X.K=K->X.calm=true->∀ (i:Nat) (pins:List (KF × Pu)) (s:KM) (σ:St) (H:Hp) (E:KB->KM->Prop),Inv X pins σ H s->(∀ b∈fp,FpOk X pins H b)->tn i s.heap->J.go i H->
  Pd (Pc P w) X.A (pyNext (.ref it)) (λr s1=>∃ u,r=be u/\
   Pd (Pc P w) X.A (P7 tg (.ref it) u) (λ_ s2=>∃ x H',Inv X pins σ H' s2/\RelV x u/\J.yld i H x H'/\tn (i+1) s2.heap/\∀ b∈fp,H' b=q_) E s1) E s
 done:∀ (X:Cx),X.prog=P->X.w=w->X.K=K->X.calm=true->∀ (i:Nat) (pins:List (KF × Pu)) (s:KM) (σ:St) (H:Hp) (E:KB->KM->Prop),Inv X pins σ H s->(∀ b∈fp,FpOk X pins H b)->tn i s.heap->J.stop i H->
  Pd (Pc P w) X.A (pyNext (.ref it)) (λr s1=>r=q_/\Inv X pins σ H s1) E s
 self:∀ (A:Pf) (i:Nat) (s:KM) (Q:KB->KM->Prop) (E:KB->KM->Prop),tn i s.heap->Q (.ref it) s->Pd (Pc P w) A (pyIter (.ref it)) Q E s
abbrev TI:=St->Hp->(It->Hp->Prop)->Prop
def PIE(X:Cx)(pins:List (KF × Pu))(σ:St)(tg:O_)(R:It->Hp->Prop)(JD:KB)(s2:KM):Prop:=
 ∃ (it:KF) (fp:List KF) (tn:Nat->Heap->Prop) (J:It) (H':Hp),JD= .ref it/\Inv X pins σ H' s2/\Turn X.prog X.w X.K tg J fp it tn/\tn 0 s2.heap/\(∀ b∈fp,FpOk X pins H' b)/\R J H'
def PI(X:Cx)(tg iter:O_)(wi:TI):Prop:=
 ∀ (pins:List (KF × Pu)) (s:KM) (σ:St) (H:Hp) (R:It->Hp->Prop),Inv X pins σ H s->wi σ H R->
  Pd (Pc X.prog X.w) X.A (Pj iter X.env) (λv s1=>Pd (Pc X.prog X.w) X.A (pyIter v) (PIE X pins σ tg R) X.xe s1) X.xe s
variable{tg:O_}
def fJ{M:Model}{it:KF}{o:Pu}{n:String}{vs:Array KB}{Q:Unit->KM->Prop}(ho:s.heap.get? it=be o)(hc:o.cls= .type n)(hd:o.data= .fields vs)
    (hn:["enumerate","zip","dict_itemiterator","dict_reverseitemiterator","odict_iterator","itertools.zip_longest","itertools.pairwise"].contains n=false) (hQ:Q () s):Pd M A (P7 tg (.ref it) u) Q E s:=by
  unfold P7;cases tg<;>first
    |exact Pa hQ
    |(cases u<;>first
        |exact Pa hQ
        | (refine Os (wpAny_load ho ?_)
           rw[hc,hd];show Pd M A (if(["enumerate","zip","dict_itemiterator","dict_reverseitemiterator","odict_iterator","itertools.zip_longest","itertools.pairwise"].contains n && vs[0]?==be (P' _))=true then _ else _) Q E s;rw[if_neg (by intro h;rw[hn,Bool.false_and] at h;cases h)];exact Pa hQ))
def Itl(K:DR)(a:KF):It:=
 ⟨λi H=>∃ xs x,SqL K H a xs/\xs[i]?=be x,λi H x H'=>H'=H/\∀ xs,SqL K H a xs->xs[i]?=be x,λi H=>∃ xs,SqL K H a xs/\xs.length<=i⟩
def Itr(lo:Int)(n:Nat):It:=⟨λi _=>i<n,λi H x H'=>H'=H/\x= .int (lo+i),λi _=>n<=i⟩
variable{K:DR}
def tT(a it:KF):Turn P w K tg (Itl K a) [it] it (λi h=>h.IsListIter it a i) where
 mem:=by simp
 obj:=λi h st b hb=>by
  have e:b=it:=by simpa using hb
  subst e;obtain⟨o,e,c,d⟩:=st;exact⟨o,e,λv z=>by rw[d] at z;cases z⟩
 keep:=λi h h' st k=>st.at λo e=>k it (by simp) o e
 item:=by
  intro X hP hw hK hc i pins s σ H E I hf st hg;subst hP hw hK;obtain⟨xs,x,hq,hx⟩:=hg;obtain⟨its,rv,p,hz⟩:=I.list hq;obtain⟨u,hu,ru⟩:=rv.get hx;obtain⟨f0,f1,f2,f3,f4,f5⟩:=hf it (by simp);refine wpAny_pyNext_list_item st p.isList (x:=u) (by simpa using hu) λh' st' sb=>?_;have I1:Inv X pins σ H {s with heap:=h'}:=I.turned (t':=s.toks) (λb o hb e=>(sb.2 b hb).trans e) f0 f1 f3 f4 f5;obtain⟨o,e,c,d⟩:=id st';exact⟨u,rfl,fJ (s:={s with heap:=h'}) e c d (by decide) ⟨x,H,I1,ru,⟨rfl,λys hy=>by rw[I.list_inj hy hq];exact hx⟩,st',λb hb=>(hf b hb).1⟩⟩
 done:=by
  intro X hP hw hK hc i pins s σ H E I hf st hg;subst hP hw hK;obtain⟨xs,hq,hx⟩:=hg;obtain⟨its,rv,p,hz⟩:=I.list hq;obtain⟨f0,f1,f2,f3,f4,f5⟩:=hf it (by simp);have hl:=rv.length;exact wpAny_pyNext_list_end (I.ok.hd hc) st p.isList (by simp;lia) λh' eb=>⟨rfl,I.turned (t':=s.toks) (λb o hb e=>eb b o hb e) f0 f1 f3 f4 f5⟩
 self:=λ_ _ _ _ _ st h=>wpAny_pyIter_listiter st h
def tU(it:KF)(lo:Int)(n:Nat):Turn P w K tg (Itr lo n) [it] it (λi h=>Qb h it (lo+(i:Nat)*1) ((n:Int) - (i:Nat)) 1) where
 mem:=by simp
 obj:=λi h st b hb=>by
  have e:b=it:=by simpa using hb
  subst e;exact⟨_,st,λv z=>by
   have z':Data.fields _=Data.cell v:=z;cases z'⟩
 keep:=λi h h' st k=>k it (by simp) _ st
 item:=by
  intro X hP hw hK hc i pins s σ H E I hf st hg;subst hP hw hK;obtain⟨f0,f1,f2,f3,f4,f5⟩:=hf it (by simp);have W:=Walks.range (prog:=X.prog) (w:=X.w) (I.ok.hd hc) it lo 1 n;refine W.item i s _ _ hg st λv h' tk hv st' kk=>?_;obtain⟨t,rfl⟩:=hv;have I1:Inv X pins σ H {s with heap:=h',toks:=tk}:=I.turned (λb o hb e=>kk b o (by simpa using hb) e) f0 f1 f3 f4 f5;refine⟨_,rfl,fJ (s:={s with heap:=h',toks:=tk}) (n:="range_iterator") st' rfl rfl (by decide) ⟨.int (lo+i),H,I1,⟨t,?_⟩,⟨rfl,rfl⟩,st',λb hb=>(hf b hb).1⟩⟩;rw[Int.mul_one]
 done:=by
  intro X hP hw hK hc i pins s σ H E I hf st hg;subst hP hw hK;obtain⟨f0,f1,f2,f3,f4,f5⟩:=hf it (by simp);exact P1 (I.ok.hd hc) st (by have:n<=i:=hg;lia) λh' eb=>⟨rfl,I.turned (t':=s.toks) (λb o hb e=>eb b o hb e) f0 f1 f3 f4 f5⟩
 self:=λ_ _ _ _ _ st h=>P2 st h
section
variable {X:Cx}{tg:O_}
def ou(K:DR)(tl:TE):TI:=λσ H R=>tl σ H λx H1=>∃ a,x= .ref a/\(∃ xs,SqL K H1 a xs)/\R (Itl K a) H1
def iZ{l:O_}{tl:TE}(hl:PE X l tl):PI X tg l (ou X.K tl):=by
 intro pins s σ H R I h;refine thn (hl pins s σ H _ I h) λv s1 b8=>?_;obtain⟨x,H1,I1,r1,q1⟩:=b8;obtain⟨a,e,⟨xs,hq⟩,q⟩:=q1;subst e;cases r1;obtain⟨its,rv,p,hz⟩:=I1.list hq;refine wpAny_pyIter_list p.isList ?_;refine⟨s1.heap.objs.size,[s1.heap.objs.size],_,_,H1,rfl,I1.kept (t':=s1.toks) λb o e=>Heap.get?_push_of_some _ e,tT a _,⟨_,Heap.get?_push_size _ rfl,rfl,rfl⟩,λb hb=>?_,q⟩;have e:b=s1.heap.objs.size:=by simpa using hb
 subst e;exact I1.fpOk (DU _) (I1.hok.fresh (DU _))
variable{pins:List (KF × Pu)}{σ:St}{H:Hp}{s:KM}
def ow{R:It->Hp->Prop}{E:KB->KM->Prop}{lo hi:Int}{t u v:Tok}{tk:Nat}(I:Inv X pins σ H s)(h1: -(2 ^ 62)<=lo)(h2:lo<2 ^ 62)(h3: -(2 ^ 62)<=hi)(h4:hi<2 ^ 62)
  (q:R (Itr lo (hi - lo).toNat) H):Pd (Pc X.prog X.w) X.A (pyIter (.ref s.heap.objs.size)) (PIE X pins σ tg R) E {s with heap:=s.heap.push {cls:= .type "range",data:= .fields #[.int lo t,.int hi u,.int 1 v]},toks:=tk}:=by
 refine QI (IsRange.new ..) (small_one h1 h2 h3 h4) ?_;have I1:Inv X pins σ H {s with heap:=s.heap.push {cls:= .type "range",data:= .fields #[.int lo t,.int hi u,.int 1 v]},toks:=tk}:=I.kept λb o e=>Heap.get?_push_of_some _ e;refine⟨(s.heap.push {cls:= .type "range",data:= .fields #[.int lo t,.int hi u,.int 1 v]}).objs.size,[(s.heap.push {cls:= .type "range",data:= .fields #[.int lo t,.int hi u,.int 1 v]}).objs.size],_,_,H,rfl,
  I1.kept (t':=tk) λb o e=>Heap.get?_push_of_some _ e,tU _ lo (hi - lo).toNat,?_,λb hb=>?_,q⟩
 .have e1:lo+((0:Nat):Int)*1=lo:=by simp
  have e2:(((hi - lo).toNat:Nat):Int) - ((0:Nat):Int)=Builtin.Range.rangeSize lo hi 1:=by rw[rangeSize_one];split<;>lia
  show Qb _ _ (lo+((0:Nat):Int)*1) ((((hi - lo).toNat:Nat):Int) - ((0:Nat):Int)) 1;rw[e1,e2];exact Heap.get?_push_size _ rfl
 .have e:b=(s.heap.push {cls:= .type "range",data:= .fields #[.int lo t,.int hi u,.int 1 v]}).objs.size:=by simpa using hb
  subst e;exact I1.fpOk (DU _) (I1.hok.fresh (DU _))
def oy(ta:TA):TI:=λσ H R=>ta σ H λvs H1=>∃ j:Int,vs=[.int j]/\-(2 ^ 62)<=j/\j<2 ^ 62/\R (Itr 0 j.toNat) H1
def oz(ta:TA):TI:=λσ H R=>ta σ H λvs H1=>∃ i j:Int,vs=[.int i,.int j]/\(-(2 ^ 62)<=i/\i<2 ^ 62/\-(2 ^ 62)<=j/\j<2 ^ 62)/\R (Itr i (j - i).toNat) H1
variable{pos:Pm}
def fK{a:O_}{ta:TA}{p:Pm}(hg:Gl X "range")(hm:X.mg "range"=q_)(ha:PA X [a] ta)(hs:autoParam (Pg [a] X.env=[(false,Pj a X.env)]) zA0):PI X tg (.Call (.Name "range" p) [a] [] pos) (oy ta):=by
 intro pins s σ H R I h;refine Call_ (cS I hg hm QP (PyProof.Rows.callWith_type1 (thn (ha pos pins s σ H _ I h) λus s1 hh=>?_) hs rfl));obtain⟨vs,H1,I1,r1,q1⟩:=hh;obtain⟨j,e,q1,q2,q⟩:=q1;subst e;cases r1 with
 |cons r rr=>
  cases rr;obtain⟨t,rfl⟩:=r;exact call_range_1 (ow I1 (by lia) (by lia) q1 q2 (by simpa using q))
def tV{a b:O_}{ta:TA}{p:Pm}(hg:Gl X "range")(hm:X.mg "range"=q_)(ha:PA X [a,b] ta)(hs:autoParam (Pg [a,b] X.env=[(false,Pj a X.env),(false,Pj b X.env)]) zA0)(j_:autoParam (Pg [b] X.env=[(false,Pj b X.env)]) zA0):
  PI X tg (.Call (.Name "range" p) [a,b] [] pos) (oz ta):=by
 intro pins s σ H R I h;refine Call_ (cS I hg hm QP (PyProof.Rows.callWith_type1 (thn (ha pos pins s σ H _ I h) λus s1 hh=>?_) (by rw[hs,j_]) (by rw[j_];rfl)));obtain⟨vs,H1,I1,r1,q1⟩:=hh;obtain⟨i,j,e,⟨q1,q2,q3,q4⟩,q⟩:=q1;subst e;cases r1 with
 |cons r rr=>
  cases rr with
  |cons r' rr=>
   cases rr;obtain⟨t,rfl⟩:=r;obtain⟨t',rfl⟩:=r';exact call_range_2 (ow I1 q1 q2 q3 q4 q)
def tFor(wi:TI)(g:TG)(tb:TS):TS:=λD σ H=>wi σ H λJ H1=>∃ W:Nat->Nat->St->Hp->Prop,(∃ m,W 0 m σ H1)/\∀ i m σ H,W i m σ H->
 (J.stop i H/\D.nx σ H)\/(J.go i H/\∃ N:St->Hp->Prop,(∀ σ' H',N σ' H'->∃ m',m'<m/\W (i+1) m' σ' H')/\∀ x H',J.yld i H x H'->g x σ H' λσ2 H2=>tb {D with nx:=N,ct:=N,bk:=D.nx} σ2 H2)
def fL(fp:List KF)(h:Heap):List (KF × Pu):=fp.filterMap λb=>(h.get? b).map λo=>(b,o)
variable{fp:List KF}
def cC{h:Heap}{b:KF}{o:Pu}(hb:b∈fp)(e:h.get? b=be o):(b,o)∈fL fp h:=Gj.mpr ⟨b,hb,by rw[e];rfl⟩
def tW{h:Heap}{p:KF × Pu}(hp:p∈fL fp h):p.1∈fp/\h.get? p.1=be p.2:=by
 obtain⟨b,hb,e⟩:=Gj.mp hp;cases q:h.get? b with
 |none=>rw[q] at e;cases e
 |some o=>
  rw[q] at e;have e':(b,o)=p:=Option.some.inj e;subst e';exact⟨hb,q⟩
def Inv.pinned(I:Inv X pins σ H s)(hf:∀ b∈fp,FpOk X pins H b)(ho:∀ b∈fp,∃ o,s.heap.get? b=be o/\∀ v,o.data≠.cell v):Inv X (pins++fL fp s.heap) σ H s:=
 I.pins_of λp hp=>(Et.mp hp).elim (λz=>I.pin p (Ed _ z)) λz=>by
  obtain⟨hb,e⟩:=tW z;obtain⟨f0,f1,f2,_⟩:=hf p.1 hb;obtain⟨o,e',d⟩:=ho p.1 hb;rw[e] at e';cases e';exact⟨e,f0,f1,f2,d⟩
def Inv.unpinned{pl:List (KF × Pu)}(I:Inv X (pins++pl) σ H s):Inv X pins σ H s:=I.pins_of λp hp=>I.pin p (Ed _ (Fy _ hp))
def dq{iter:O_}{body:List Pb}{wi:TI}{g:TG}{tb:TS}(hp:PF (Pc X.prog X.w) X.A X.env X.xe)(hc:X.calm=true)(hi:PI X tg iter wi)(hg:PG X tg g)(hb:PSs X body tb)
  (hs:∀ x,QS iter X.env x=pure x:=by intro _;rfl):PS X (.For tg iter body [] pos) (tFor wi g tb):=by
 intro pins s σ H D I h;refine wpAny_For (thn (hi pins s σ H _ I h) λv s1 h1=>thn h1 λJD s2 h2=>?_) hs;obtain⟨it,fp,tn,J,H2,e,I2,T,Hn,f2,W,⟨m0,w0⟩,b_⟩:=h2;subst e;have g5:∀ {H':Hp},(∀ b∈fp,H' b=q_)->∀ b∈fp,FpOk X pins H' b:=λhn b hb=>⟨hn b hb,(f2 b hb).2⟩;refine codeAny_forLoop_any (λn s'=>∃ i σ' H',Inv X pins σ' H' s'/\tn i s'.heap/\(∀ b∈fp,H' b=q_)/\W i n σ' H') ?_ m0 ⟨0,σ,H2,I2,Hn,λb hb=>(f2 b hb).1,w0⟩;rintro n s3 ⟨i,σ3,H3,I3,G7,L_,w3⟩;rcases b_ i n σ3 H3 w3 with⟨stop,qn⟩|⟨go,N,hN,step⟩
 .refine Px hp (thn (T.done X rfl rfl rfl hc i pins s3 σ3 H3 X.xe I3 (g5 L_) G7 stop) λr s4 b8=>?_);obtain⟨hr,I4⟩:=b8;subst hr;exact P5 ⟨σ3,H3,I4,qn⟩
 .refine Px hp (thn (T.item X rfl rfl rfl hc i pins s3 σ3 H3 X.xe I3 (g5 L_) G7 go) λr s4 b8=>?_);obtain⟨u,hr,h4⟩:=b8;subst hr;refine Px hp (thn h4 λ_ s5 b8=>?_);obtain⟨x,H5,I5,r5,y5,l_,Ip⟩:=b8;have Nf:=I5.pinned (g5 Ip) (T.obj _ _ l_);refine Px hp (thn (hg _ s5 σ3 H5 x u _ Nf r5 (step x H5 y5)) λ_ s6 b8=>?_);obtain⟨σ6,H6,I6,q6⟩:=b8;refine Px hp (thn (hb _ s6 σ6 H6 _ I6 q6) λf s7 q7=>?_);have again:∀ {σ7:St} {H7:Hp},Inv X (pins++fL fp s5.heap) σ7 H7 s7->N σ7 H7->∃ m,m<n/\∃ i σ' H',Inv X pins σ' H' s7/\tn i s7.heap/\(∀ b∈fp,H' b=q_)/\W i m σ' H':=λ{σ7 H7} I7 n7=>by
   obtain⟨m',hm,w7⟩:=hN σ7 H7 n7;refine⟨m',hm,i+1,σ7,H7,I7.unpinned,T.keep _ _ _ l_ λb hb o e=>(I7.pin (b,o) (Ed _ (Ed _ (cC hb e)))).1,λb hb=>?_,w7⟩;obtain⟨o,e,d⟩:=T.obj _ _ l_ b hb;exact(I7.pin (b,o) (Ed _ (Ed _ (cC hb e)))).2.1
  cases f with
  |next=>obtain⟨σ7,H7,I7,n7⟩:=q7;exact again I7 n7
  |cont=>obtain⟨σ7,H7,I7,n7⟩:=q7;exact again I7 n7
  |brk=>obtain⟨σ7,H7,I7,q7⟩:=q7;exact⟨σ7,H7,I7.unpinned,q7⟩
  |ret v=>obtain⟨x7,σ7,H7,I7,r7,q7⟩:=q7;exact⟨x7,σ7,H7,I7.unpinned,r7,q7⟩
end
def oA{g:TG}{tb:TS}{D:Ends}(Pv:Nat->St->Hp->Prop)(h0:Pv 0 σ H)(hl:∀ i σ H,i<=xs.length->Pv i σ H->SqL K H a xs)
  (hs:∀ i x σ H,xs[i]?=be x->Pv i σ H->g x σ H λσ2 H2=>tb {D with nx:=Pv (i+1),ct:=Pv (i+1),bk:=D.nx} σ2 H2) (hd:∀ σ H,Pv xs.length σ H->D.nx σ H):
  ∃ W:Nat->Nat->St->Hp->Prop,(∃ m,W 0 m σ H)/\∀ i m σ H,W i m σ H->
   ((Itl K a).stop i H/\D.nx σ H)\/((Itl K a).go i H/\∃ N:St->Hp->Prop,(∀ σ' H',N σ' H'->∃ m',m'<m/\W (i+1) m' σ' H')/\∀ x H',(Itl K a).yld i H x H'->g x σ H' λσ2 H2=>tb {D with nx:=N,ct:=N,bk:=D.nx} σ2 H2):=by
 refine⟨λi m σ H=>m=xs.length - i/\i<=xs.length/\Pv i σ H,⟨xs.length,by simp,Ej _,h0⟩,?_⟩;rintro i m σ H ⟨rfl,hi,p⟩;have q:=hl i σ H hi p;by_cases f6:i<xs.length
 .refine .inr ⟨⟨xs,xs[i],q,by simp[f6]⟩,Pv (i+1),λσ' H' p'=>⟨xs.length - (i+1),by lia,rfl,f6,p'⟩,λx H' y=>?_⟩;obtain⟨e,y⟩:=y;subst e;exact hs i x σ _ (y xs q) p
 .have e:i=xs.length:=by lia
  subst e;exact .inl ⟨⟨xs,q,DU _⟩,hd σ H p⟩
def oB{lo:Int}{n:Nat}{g:TG}{tb:TS}{D:Ends}(Pv:Nat->St->Hp->Prop)(h0:Pv 0 σ H)
  (hs:∀ i σ H,i<n->Pv i σ H->g (.int (lo+i)) σ H λσ2 H2=>tb {D with nx:=Pv (i+1),ct:=Pv (i+1),bk:=D.nx} σ2 H2) (hd:∀ σ H,Pv n σ H->D.nx σ H):
  ∃ W:Nat->Nat->St->Hp->Prop,(∃ m,W 0 m σ H)/\∀ i m σ H,W i m σ H->
   ((Itr lo n).stop i H/\D.nx σ H)\/((Itr lo n).go i H/\∃ N:St->Hp->Prop,(∀ σ' H',N σ' H'->∃ m',m'<m/\W (i+1) m' σ' H')/\∀ x H',(Itr lo n).yld i H x H'->g x σ H' λσ2 H2=>tb {D with nx:=N,ct:=N,bk:=D.nx} σ2 H2):=by
 refine⟨λi m σ H=>m=n - i/\i<=n/\Pv i σ H,⟨n,by simp,Ej _,h0⟩,?_⟩;rintro i m σ H ⟨rfl,hi,p⟩;by_cases f6:i<n
 .refine .inr ⟨f6,Pv (i+1),λσ' H' p'=>⟨n - (i+1),by lia,rfl,f6,p'⟩,λx H' y=>?_⟩;obtain⟨e,y⟩:=y;subst e y;exact hs i σ _ f6 p
 .have e:i=n:=by lia
  subst e;exact .inl ⟨DU _,hd σ H p⟩
abbrev R2:=V->V->Hp->VK->Prop
def OpR(X:Cx)(f:KB->KB->QC KB)(r:R2):Prop:=
 ∀ (pins:List (KF × Pu)) (s:KM) (σ:St) (H:Hp) (x y:V) (v u:KB) (Q:VK),Inv X pins σ H s->RelV x v->RelV y u->r x y H Q->
  Pd (Pc X.prog X.w) X.A (f v u) (EP X pins σ Q) X.xe s
def UnR(X:Cx)(f:KB->QC KB)(r:V->Hp->VK->Prop):Prop:=
 ∀ (pins:List (KF × Pu)) (s:KM) (σ:St) (H:Hp) (x:V) (v:KB) (Q:VK),Inv X pins σ H s->RelV x v->r x H Q->
  Pd (Pc X.prog X.w) X.A (f v) (EP X pins σ Q) X.xe s
def bz(X:Cx)(f:KB)(r:List V->Hp->VK->Prop):Prop:=
 ∀ (pins:List (KF × Pu)) (s:KM) (σ:St) (H:Hp) (xs:List V) (us:List KB) (Q:VK),Inv X pins σ H s->Vals xs us->r xs H Q->
  Pd (Pc X.prog X.w) X.A (call f us) (EP X pins σ Q) X.xe s
def TruR(X:Cx)(r:V->Hp->(Bool->Hp->Prop)->Prop):Prop:=
 ∀ (pins:List (KF × Pu)) (s:KM) (σ:St) (H:Hp) (x:V) (v:KB) (Q:Bool->Hp->Prop),Inv X pins σ H s->RelV x v->r x H Q->
  Pd (Pc X.prog X.w) X.A (truthy v) (TP X pins σ Q) X.xe s
def tOp(r:R2)(ta tb:TE):TE:=λσ H Q=>ta σ H λx H1=>tb σ H1 λy H2=>r x y H2 Q
def tUn(r:V->Hp->VK->Prop)(ta:TE):TE:=λσ H Q=>ta σ H λx H1=>r x H1 Q
def rI(C:Int->Int->Prop)(g:Int->Int->V):R2:=λx y H Q=>∃ i j,x= .int i/\y= .int j/\C i j/\Q (g i j) H
def rI0(g:Int->Int->V):R2:=λx y H Q=>∃ i j,x= .int i/\y= .int j/\Q (g i j) H
def rU(g:Int->V):V->Hp->VK->Prop:=λx H Q=>∃ i,x= .int i/\Q (g i) H
section
variable {X:Cx}{a b c:O_}{ta tb tc:TE}{pos:Pm}
variable{f:KB->KB->QC KB}
def binT(ha:PE X a ta)(hb:PE X b tb){pins:List (KF × Pu)}{s:KM}{σ:St}{H:Hp}{R:V->V->Hp->Prop}(I:Inv X pins σ H s)
  (h:ta σ H λx H1=>tb σ H1 λy H2=>R x y H2) {Q:KB->KM->Prop} 
  (hf:∀ v u s2 x y H2,Inv X pins σ H2 s2->RelV x v->RelV y u->R x y H2->Pd (Pc X.prog X.w) X.A (f v u) Q X.xe s2):
  Pd (Pc X.prog X.w) X.A (Pj a X.env) (λv s₁=>Pd (Pc X.prog X.w) X.A (Pj b X.env) (λu s₂=>Pd (Pc X.prog X.w) X.A (f v u) Q X.xe s₂) X.xe s₁) X.xe s:=by
 refine thn (ha pins s σ H _ I h) λv s1 b8=>?_;obtain⟨x,H1,I1,r1,q1⟩:=b8;refine thn (hb pins s1 σ H1 _ I1 q1) λu s2 b8=>?_;obtain⟨y,H2,I2,r2,q2⟩:=b8;exact hf v u s2 x y H2 I2 r1 r2 q2
def oC{op:Operator}{r:R2}(ho:OpR X (Pw op) r)(ha:PE X a ta)(hb:PE X b tb):PE X (.BinOp a op b pos) (tOp r ta tb):=by
 intro pins s σ H Q I h;exact wpAny_BinOp (binT ha hb I h λv u s2 x y H2 I2 rx ry q=>ho pins s2 σ H2 x y v u Q I2 rx ry q)
def tX{op:UnaryOp}{r:V->Hp->VK->Prop}(ho:UnR X (unaryOp op) r)(ha:PE X a ta):PE X (.UnaryOp op a pos) (tUn r ta):=by
 intro pins s σ H Q I h;exact UnaryOp_ (thn (ha pins s σ H _ I h) λv s1 ⟨x,H1,I1,r1,q1⟩=>ho pins s1 σ H1 x v Q I1 r1 q1)
variable{g:Int->Int->Int}
def opI{C:Int->Int->Prop}
  (rule:∀ (i j:Int) (t u:Tok) (s:KM) (Q:KB->KM->Prop) (E:KB->KM->Prop),C i j->Q (.int (g i j) s.toks) {s with toks:=s.toks+1}->Pd (Pc X.prog X.w) X.A (f (.int i t) (.int j u)) Q E s):
  OpR X f (rI C λi j=> .int (g i j)):=by
 intro pins s σ H x y v u Q I rx ry h;obtain⟨i,j,rfl,rfl,hc,q⟩:=h;obtain⟨t,rfl⟩:=rx;obtain⟨t',rfl⟩:=ry;exact rule i j t t' s _ _ hc ⟨.int (g i j),H,I.tok _,⟨_,rfl⟩,q⟩
def opI0
  (rule:∀ (i j:Int) (t u:Tok) (s:KM) (Q:KB->KM->Prop) (E:KB->KM->Prop),Q (.int (g i j) s.toks) {s with toks:=s.toks+1}->Pd (Pc X.prog X.w) X.A (f (.int i t) (.int j u)) Q E s):
  OpR X f (rI0 λi j=> .int (g i j)):=by
 intro pins s σ H x y v u Q I rx ry h;obtain⟨i,j,rfl,rfl,q⟩:=h;obtain⟨t,rfl⟩:=rx;obtain⟨t',rfl⟩:=ry;exact rule i j t t' s _ _ ⟨.int (g i j),H,I.tok _,⟨_,rfl⟩,q⟩
def opB0{g:Int->Int->Bool}
  (rule:∀ (i j:Int) (t u:Tok) (s:KM) (Q:KB->KM->Prop) (E:KB->KM->Prop),Q (.bool (g i j)) s->Pd (Pc X.prog X.w) X.A (f (.int i t) (.int j u)) Q E s):
  OpR X f (rI0 λi j=> .bl (g i j)):=by
 intro pins s σ H x y v u Q I rx ry h;obtain⟨i,j,rfl,rfl,q⟩:=h;obtain⟨t,rfl⟩:=rx;obtain⟨t',rfl⟩:=ry;exact rule i j t t' s _ _ ⟨.bl (g i j),H,I,rfl,q⟩
def CDiv(i j:Int):Prop:=0<j/\j<1073741824
def CPow(i j:Int):Prop:=0<=j/\j<=1000000/\i.natAbs<2 ^ 64
def CMul(i j:Int):Prop:=(-(2 ^ 64)<i/\i<2 ^ 64)\/(-(2 ^ 64)<j/\j<2 ^ 64)
def CMul.ok{i j:Int}(h:CMul i j):IntMulOk i j:=by
 rcases h with⟨h1,h2⟩|⟨h1,h2⟩
 .exact .of_left (intBits_le_64 h1 h2)
 .exact .of_right (intBits_le_64 h1 h2)
def tY:OpR X (Pw .Add) (rI0 λi j=> .int (i+j)):=opI0 λ_ _ _ _ _ _ _ q=>add_int q
def oE:OpR X (Pw .Sub) (rI0 λi j=> .int (i - j)):=opI0 λ_ _ _ _ _ _ _ q=>sub_int q
def tZ:OpR X (Pw .Mult) (rI CMul λi j=> .int (i*j)):=opI λ_ _ _ _ _ _ _ hc q=>mul_int q hc.ok
def ub:OpR X (Pw .FloorDiv) (rI CDiv λi j=> .int (i / j)):=opI λi j _ _ _ _ _ hc q=>by
 have h1:(0:Int)<j:=hc.1;have h2:j<1073741824:=hc.2;exact floordiv_int (by lia) (by rw[Int.fdiv_eq_ediv_of_nonneg i (by lia)];exact q) (.inl (PyProof.noPylong_small (by lia)))
def uc:OpR X (Pw .Mod) (rI (λ_ j=>0<j) λi j=> .int (i % j)):=opI λi j _ _ _ _ _ hc q=>by
 have h1:(0:Int)<j:=hc;exact mod_int' (by lia) (by rw[Int.fmod_eq_emod_of_nonneg i (by lia)];exact q)
def ud:OpR X (Pw .Mod) (rI (λ_ j=>j≠0) λi j=> .int (i.fmod j)):=opI λ_ _ _ _ _ _ _ hc q=>mod_int' hc q
def ue:OpR X (Pw .Pow) (rI CPow λi j=> .int (i ^ j.toNat)):=opI λ_ _ _ _ _ _ _ hc q=>pow_int_small hc.1 hc.2.1 hc.2.2 q
def unI{f:KB->QC KB}{g:Int->Int}
  (rule:∀ (i:Int) (t:Tok) (s:KM) (Q:KB->KM->Prop) (E:KB->KM->Prop),Q (.int (g i) s.toks) {s with toks:=s.toks+1}->Pd (Pc X.prog X.w) X.A (f (.int i t)) Q E s):
  UnR X f (rU λi=> .int (g i)):=by
 intro pins s σ H x v Q I rx h;obtain⟨i,rfl,q⟩:=h;obtain⟨t,rfl⟩:=rx;exact rule i t s _ _ ⟨.int (g i),H,I.tok _,⟨_,rfl⟩,q⟩
def uf:UnR X (unaryOp .USub) (rU λi=> .int (-i)):=unI λ_ _ _ _ _ q=>neg_int q
end
def scal:V->V->Bool
 | .non,.non=>true| .non,.int _=>true| .int _,.non=>true| .non,.bl _=>true| .bl _,.non=>true| .non,.str _=>true| .str _,.non=>true
 | .int _,.int _=>true| .bl _,.bl _=>true| .str _,.str _=>true| .byt _,.byt _=>true
 | .int _,.str _=>true| .str _,.int _=>true| .bl _,.str _=>true| .str _,.bl _=>true
 |_,_=>false
def rEq:R2:=λx y H Q=>scal x y=true/\Q (.bl (decide (x=y))) H
def rNe:R2:=λx y H Q=>scal x y=true/\Q (.bl (!decide (x=y))) H
def oF{i j:Int}:decide (V.int i=V.int j)=(i==j):=by
 rw[E5];simp
def oG{i j:Bool}:decide (V.bl i=V.bl j)=(i==j):=by
 rw[E5];simp
def oH{i j:x9}:decide (V.str i=V.str j)=(i==j):=by
 rw[E5];simp
def oI{i j:Array UInt8}:decide (V.byt i=V.byt j)=(i.toList==j.toList):=by
 rw[E5];cases i;cases j;simp
section
variable {X:Cx}{a b c:O_}{ta tb tc:TE}{pos:Pm}
def aN{pins:List (KF × Pu)}{σ:St}{H:Hp}{s:KM}{Q:VK}{k k':Bool}(I:Inv X pins σ H s)(q:Q (.bl k) H)(e:k=k'):EP X pins σ Q (.bool k') s:=by
 subst e;exact⟨.bl k,H,I,rfl,q⟩
def ja:OpR X (Pp .Eq) rEq:=by
 intro pins s σ H x y v u Q I rx ry h;obtain⟨hs,q⟩:=h;cases x with
 |non=>
  cases rx;cases y with
  |non=>cases ry;exact PySem.EqNone.eq_none_none (aN I q (by simp))
  |bl j=>cases ry;exact PySem.EqNone.eq_none_bool (aN I q (by simp))
  |int j=>obtain⟨t',rfl⟩:=ry;exact PySem.EqNone.eq_none_int (aN I q (by simp))
  |str j=>obtain⟨t',rfl⟩:=ry;exact PySem.EqNone.eq_none_str (aN I q (by simp))
  |_=>exact absurd (show false=true from hs) D6
 |bl i=>
  cases rx;cases y with
  |non=>cases ry;exact PySem.EqNone.eq_bool_none (aN I q (by simp))
  |bl j=>cases ry;exact eq_bool (aN I q oG)
  |str j=>obtain⟨t',rfl⟩:=ry;exact PySem.EqMixed.eq_bool_str (aN I q (by simp))
  |_=>exact absurd (show false=true from hs) D6
 |int i=>
  obtain⟨t,rfl⟩:=rx;cases y with
  |non=>cases ry;exact PySem.EqNone.eq_int_none (aN I q (by simp))
  |int j=>obtain⟨t',rfl⟩:=ry;exact eq_int (aN I q oF)
  |str j=>obtain⟨t',rfl⟩:=ry;exact PySem.EqMixed.eq_int_str (aN I q (by simp))
  |_=>exact absurd (show false=true from hs) D6
 |str i=>
  obtain⟨t,rfl⟩:=rx;cases y with
  |non=>cases ry;exact PySem.EqNone.eq_str_none (aN I q (by simp))
  |bl j=>cases ry;exact PySem.EqMixed.eq_str_bool (aN I q (by simp))
  |int j=>obtain⟨t',rfl⟩:=ry;exact PySem.EqMixed.eq_str_int (aN I q (by simp))
  |str j=>obtain⟨t',rfl⟩:=ry;exact eq_str (aN I q oH)
  |_=>exact absurd (show false=true from hs) D6
 |byt i=>
  obtain⟨t,rfl⟩:=rx;cases y with
  |byt j=>obtain⟨t',rfl⟩:=ry;exact eq_bytes (aN I q oI)
  |_=>exact absurd (show false=true from hs) D6
 |_=>cases y<;>exact absurd (show false=true from hs) D6
def uh:OpR X (Pp .NotEq) rNe:=by
 intro pins s σ H x y v u Q I rx ry h;obtain⟨hs,q⟩:=h;cases x with
 |non=>
  cases rx;cases y with
  |non=>cases ry;exact PySem.EqNone.ne_none_none (aN I q (by simp))
  |bl j=>cases ry;exact PySem.EqNone.ne_none_bool (aN I q (by simp))
  |int j=>obtain⟨t',rfl⟩:=ry;exact PySem.EqNone.ne_none_int (aN I q (by simp))
  |str j=>obtain⟨t',rfl⟩:=ry;exact PySem.EqNone.ne_none_str (aN I q (by simp))
  |_=>exact absurd (show false=true from hs) D6
 |bl i=>
  cases rx;cases y with
  |non=>cases ry;exact PySem.EqNone.ne_bool_none (aN I q (by simp))
  |bl j=>cases ry;exact ne_bool (aN I q (congrArg not oG))
  |str j=>obtain⟨t',rfl⟩:=ry;exact PySem.EqMixed.ne_bool_str (aN I q (by simp))
  |_=>exact absurd (show false=true from hs) D6
 |int i=>
  obtain⟨t,rfl⟩:=rx;cases y with
  |non=>cases ry;exact PySem.EqNone.ne_int_none (aN I q (by simp))
  |int j=>obtain⟨t',rfl⟩:=ry;exact ne_int (aN I q (congrArg not oF))
  |str j=>obtain⟨t',rfl⟩:=ry;exact PySem.EqMixed.ne_int_str (aN I q (by simp))
  |_=>exact absurd (show false=true from hs) D6
 |str i=>
  obtain⟨t,rfl⟩:=rx;cases y with
  |non=>cases ry;exact PySem.EqNone.ne_str_none (aN I q (by simp))
  |bl j=>cases ry;exact PySem.EqMixed.ne_str_bool (aN I q (by simp))
  |int j=>obtain⟨t',rfl⟩:=ry;exact PySem.EqMixed.ne_str_int (aN I q (by simp))
  |str j=>obtain⟨t',rfl⟩:=ry;exact ne_str (aN I q (congrArg not oH))
  |_=>exact absurd (show false=true from hs) D6
 |byt i=>
  obtain⟨t,rfl⟩:=rx;cases y with
  |byt j=>obtain⟨t',rfl⟩:=ry;exact ne_bytes (aN I q (congrArg not oI))
  |_=>exact absurd (show false=true from hs) D6
 |_=>cases y<;>exact absurd (show false=true from hs) D6
def oJ:OpR X (Pp .Lt) (rI0 λi j=> .bl (decide (i<j))):=opB0 λ_ _ _ _ _ _ _ q=>lt_int q
def ui:OpR X (Pp .Gt) (rI0 λi j=> .bl (decide (j<i))):=opB0 λ_ _ _ _ _ _ _ q=>gt_int q
def uj:OpR X (Pp .GtE) (rI0 λi j=> .bl (decide (j<=i))):=opB0 λ_ _ _ _ _ _ _ q=>ge_int q
def uk:OpR X (Pp .Is) (λx y H Q=>y= .non/\Q (.bl (decide (x= .non))) H):=by
 intro pins s σ H x y v u Q I rx ry h;obtain⟨rfl,q⟩:=h;cases ry;refine is_none_gen (aN I q ?_);cases x<;>first
  |(cases rx;rfl)
  |(obtain⟨t,rfl⟩:=rx;rfl)
def ul:OpR X (Pp .IsNot) (λx y H Q=>y= .non/\Q (.bl (!decide (x= .non))) H):=by
 intro pins s σ H x y v u Q I rx ry h;obtain⟨rfl,q⟩:=h;cases ry;refine isnot_none_gen (aN I q ?_);cases x<;>first
  |(cases rx;rfl)
  |(obtain⟨t,rfl⟩:=rx;rfl)
variable{r:R2}
def OpR.or{f:KB->KB->QC KB}{r':R2}(h:OpR X f r)(h':OpR X f r'):OpR X f (λx y H Q=>r x y H Q\/r' x y H Q):=by
 intro pins s σ H x y v u Q I rx ry q;rcases q with q|q
 .exact h pins s σ H x y v u Q I rx ry q
 .exact h' pins s σ H x y v u Q I rx ry q
variable{op:QT}
def nomark(b:O_)(h:autoParam (op≠.In) zA1)(h2:autoParam (op≠.NotIn) zA1):Py op b=false:=by
 have e1:(op==CmpOp.In)=false:=by cases op<;>first|rfl|exact absurd rfl h
 have e2:(op==CmpOp.NotIn)=false:=by cases op<;>first|rfl|exact absurd rfl h2
 cases b<;>simp[Py,e1,e2]
def um(ho:OpR X (Pp op) r)(ha:PE X a ta)(hb:PE X b tb)(hm:Py op b=false):PE X (.Compare a [op] [b] pos) (tOp r ta tb):=by
 intro pins s σ H Q I h;exact wpAny_Compare1 (binT ha hb I h λv u s2 x y H2 I2 rx ry q=>ho pins s2 σ H2 x y v u Q I2 rx ry q) hm
def uo(t:TE):TT:=λσ H Q=>t σ H λx H'=>∃ k,x= .bl k/\Q k H'
def oK(ho:OpR X (Pp op) r)(ha:PE X a ta)(hb:PE X b tb)(hm:Py op b=false):PT X (.Compare a [op] [b] pos) (uo (tOp r ta tb)):=by
 intro pins s σ H Q I h;refine wpAny_isTrue_Compare1 (thn (ha pins s σ H _ I h) λv s1 ⟨x,H1,I1,r1,q1⟩=>thn (hb pins s1 σ H1 _ I1 q1) λu s2 ⟨y,H2,I2,r2,q2⟩=>
  thn (ho pins s2 σ H2 x y v u _ I2 r1 r2 q2) λc s3 hh=>?_) hm
 obtain⟨z,H3,I3,r3,k,e,q3⟩:=hh;subst e;cases r3;exact PV ⟨H3,I3,q3⟩
def TruV(K:DR)(x:V)(H:Hp)(k:Bool):Prop:=
 match x with
 | .non=>k=false
 | .bl b=>k=b
 | .int i=>k=(i !=0)
 | .str y=>y.length<=sizeLine/\k=((y.length:Int) !=0)
 | .byt y=>y.size<=sizeLine/\k=((y.size:Int) !=0)
 | .ref p=>(∃ xs,SqL K H p xs/\k=!xs.isEmpty)\/(∃ xs,SqT K H p xs/\k=!xs.isEmpty)\/∃ a8,H p=be (.dK a8)/\k=!a8.isEmpty
 |_=>False
def uq{κ:Type}{a8:List (κ × V)}{vs:List (κ × KB)}(r:KV a8 vs):(!vs.isEmpty)=!a8.isEmpty:=by
 cases r<;>rfl
def isEmpty_of{xs:List V}{its:List KB}(r:Vals xs its):(!its.toArray.isEmpty)=!xs.isEmpty:=by
 cases r<;>simp
def line63:(sizeLine:Nat)<2 ^ 63:=by rw[P9];decide
def ut:TruR X (λx H Q=>∃ k,TruV X.K x H k/\Q k H):=by
 intro pins s σ H x v Q I rx h;obtain⟨k,e,q⟩:=h;have hl:=line63;have hs:sizeLine=16777216:=P9;cases x with
 |non=>
  cases rx;have e':k=false:=e;subst e';exact truthy_none ⟨H,I,q⟩
 |bl b=>
  cases rx;have e':k=b:=e;subst e';exact PV ⟨H,I,q⟩
 |int i=>
  obtain⟨t,rfl⟩:=rx;have e':k=(i !=0):=e;subst e';exact PySem.P.truthy_int ⟨H,I,q⟩
 |str y=>
  obtain⟨t,rfl⟩:=rx;obtain⟨hy,e'⟩:y.length<=sizeLine/\k=((y.length:Int) !=0):=e;subst e';exact PySem.P.truthy_str (by lia) ⟨H,I.tok _,q⟩
 |byt y=>
  obtain⟨t,rfl⟩:=rx;obtain⟨hy,e'⟩:y.size<=sizeLine/\k=((y.size:Int) !=0):=e;subst e';exact truthy_bytes (by lia) ⟨H,I.tok _,q⟩
 |ref p=>
  cases rx;have e':(∃ xs,SqL X.K H p xs/\k=!xs.isEmpty)\/(∃ xs,SqT X.K H p xs/\k=!xs.isEmpty)\/∃ a8,H p=be (.dK a8)/\k=!a8.isEmpty:=e;rcases e' with⟨xs,hx,e'⟩|⟨xs,hx,e'⟩|⟨a8,hx,e'⟩
  .subst e';obtain⟨its,r,pl,hz⟩:=I.list hx;have a_:=r.length;exact wpAny_truthy_list pl.isList (by simp only[D1];lia) ⟨H,I.tok _,by rw[isEmpty_of r];exact q⟩
  .subst e';obtain⟨its,r,pl,hz⟩:=I.tuple hx;have a_:=r.length;exact truthy_tuple pl (by simp only[D1];lia) ⟨H,I.tok _,by rw[isEmpty_of r];exact q⟩
  .subst e';obtain⟨hz,hS,vs,r,m⟩:a8.length<=sizeLine/\(p==PB)=false/\∃ vs,KV a8 vs/\s.heap.DictOf (bF X.prog X.w) p vs:=I.hok p _ hx;have a_:a8.length=vs.length:=Paired.length r;exact wpAny_truthy_dict hS m (by lia) ⟨H,I.tok _,by rw[uq r];exact q⟩
 |_=>exact(show False from e).elim
def uu(ha:PE X a ta)(he:∀ gV,isTrue a X.env gV=(do let v <- gV;Qe a.pos;Qy [v] (truthy v))):
  PT X a (λσ H Q=>ta σ H λx H'=>∃ k,TruV X.K x H' k/\Q k H'):=by
 intro pins s σ H Q I h;exact isTrue_plain (thn (ha pins s σ H _ I h) λv s1 ⟨x,H1,I1,r1,q1⟩=>ut pins s1 σ H1 x v Q I1 r1 q1) (he _)
def uv:OpR X (Pw .Add) (λx y H Q=>∃ i j,x= .str i/\y= .str j/\i.length+j.length<=sizeLine/\Q (.str (i++j)) H):=by
 intro pins s σ H x y v u Q I rx ry h;obtain⟨i,j,rfl,rfl,hz,q⟩:=h;obtain⟨t,rfl⟩:=rx;obtain⟨t',rfl⟩:=ry;exact add_str (λt' tk=>⟨.str (i++j),H,I.tok _,⟨_,rfl⟩,q⟩) hz
variable{us:List KB}
def bQ{x:V}(r:Vals [x] us):∃ u,us=[u]/\RelV x u:=by
 cases r with
 |cons r1 r2=>cases r2;exact⟨_,rfl,r1⟩
def fM{x y:V}(r:Vals [x,y] us):∃ u w',us=[u,w']/\RelV x u/\RelV y w':=by
 cases r with
 |cons r1 r2=>
  cases r2 with
  |cons r3 r4=>cases r4;exact⟨_,_,rfl,r1,r3⟩
def uw:bz X (.builtin "abs") (λxs H Q=>∃ i,xs=[.int i]/\Q (.int (if i<0 then -i else i)) H):=by
 intro pins s σ H xs us Q I r h;obtain⟨i,rfl,q⟩:=h;obtain⟨u,rfl,t,rfl⟩:=bQ r;exact call_abs_int λu tk=>⟨.int (if i<0 then -i else i),H,I.tok _,⟨_,rfl⟩,q⟩
def ux(hc:X.calm=true):bz X (.builtin "max") (λxs H Q=>∃ i j,xs=[.int i,.int j]/\Q (.int (if j>i then j else i)) H):=by
 intro pins s σ H xs us Q I r h;obtain⟨i,j,rfl,q⟩:=h;obtain⟨u,w',rfl,⟨t,rfl⟩,⟨t',rfl⟩⟩:=fM r;refine max_two_ints (I.ok.hd hc) λh' tk k=>⟨_,H,I.kept k,?_,q⟩;by_cases hj:j>i
 .rw[if_pos hj,if_pos hj];exact⟨_,rfl⟩
 .rw[if_neg hj,if_neg hj];exact⟨_,rfl⟩
def uy:bz X (.type "int") (λxs H Q=>(∃ i,xs=[.int i]/\Q (.int i) H)\/∃ k,xs=[.bl k]/\Q (.int (if k then 1 else 0)) H):=by
 intro pins s σ H xs us Q I r h;rcases h with⟨i,rfl,q⟩|⟨k,rfl,q⟩
 .obtain⟨u,rfl,t,rfl⟩:=bQ r;exact call_int_int ⟨.int i,H,I,⟨_,rfl⟩,q⟩
 .obtain⟨u,rfl,r1⟩:=bQ r;cases r1;exact call_int_bool ⟨.int (if k then 1 else 0),H,I.tok _,⟨_,rfl⟩,q⟩
def uz:bz X (.type "str") (λxs H Q=>∃ i,xs=[.int i]/\i.natAbs.log2<1920/\Q (.str (toString i)) H):=by
 intro pins s σ H xs us Q I r h;obtain⟨i,rfl,hz,q⟩:=h;obtain⟨u,rfl,t,rfl⟩:=bQ r;exact PySem.P.str_of_int hz ⟨.str _,H,I.tok _,⟨_,rfl⟩,q⟩
def LenV(K:DR)(x:V)(H:Hp)(n:Nat):Prop:=
 match x with
 | .str y=>y.length<=sizeLine/\n=y.length
 | .byt y=>y.size<=sizeLine/\n=y.size
 | .ref p=>(∃ xs,SqL K H p xs/\n=xs.length)\/∃ xs,SqT K H p xs/\n=xs.length
 |_=>False
def jb:bz X (.builtin "len") (λxs H Q=>∃ x n,xs=[x]/\LenV X.K x H n/\Q (.int n) H):=by
 intro pins s σ H xs us Q I r h;obtain⟨x,n,rfl,e,q⟩:=h;obtain⟨u,rfl,rx⟩:=bQ r;have hl:=line63;have hs:sizeLine=16777216:=P9;cases x with
 |str y=>
  obtain⟨t,rfl⟩:=rx;obtain⟨hy,e'⟩:y.length<=sizeLine/\n=y.length:=e;subst e';exact len_str (by lia) ⟨.int _,H,I.tok _,⟨_,rfl⟩,q⟩
 |byt y=>
  obtain⟨t,rfl⟩:=rx;obtain⟨hy,e'⟩:y.size<=sizeLine/\n=y.size:=e;subst e';exact len_bytes (by lia) ⟨.int _,H,I.tok _,⟨_,rfl⟩,q⟩
 |ref p=>
  cases rx;have e':(∃ xs,SqL X.K H p xs/\n=xs.length)\/∃ xs,SqT X.K H p xs/\n=xs.length:=e;rcases e' with⟨xs,hx,e'⟩|⟨xs,hx,e'⟩
  .subst e';obtain⟨its,r',pl,hz⟩:=I.list hx;have a_:=r'.length;exact Calls.call_len_list pl.isList (by simp only[D1];lia) ⟨.int xs.length,H,I.tok _,⟨_,by simp only[D1];rw[a_]⟩,q⟩
  .subst e';obtain⟨its,r',pl,hz⟩:=I.tuple hx;have a_:=r'.length;exact len_tuple pl (by simp only[D1];lia) ⟨.int xs.length,H,I.tok _,⟨_,by simp only[D1];rw[a_]⟩,q⟩
 |_=>exact(show False from e).elim
end
structure ObjM(h:Heap)(x dx C:KF)(mA:Str->Option KB):Prop where
 obj:h.get? x=be (instObj C dx)
 ns:h.Ns1 dx mA
 ne:dx≠x
variable{mA:x9->Option KB}
def va{dx:KF}(n:h.Ns1 dx mA):∃ od,h.get? dx=be od/\∀ name,lookIn name od=be (mA name):=by
 obtain⟨o,es,ep,ho,hd,hk,_,hm⟩:=n;refine⟨o,ho,λname=>?_⟩;have e:=hm name;unfold nsFind findBy at e;rw[<- Array.find?_toList] at e;unfold lookIn;rw[hd];dsimp only;split
 .rename_i y q;rw[q] at e;exact congrArg be e
 .rename_i q;rw[q] at e;have a:es.toList.any (·.refKey)=false:=by
   rw[List.any_eq_false];intro y hy;obtain⟨z,t,m4⟩:=hk y (Array.mem_toList_iff.mp hy);simp[DictEntry.refKey,m4]
  have a':¬ es.toList.any (·.refKey)=true:=by rw[a];exact D6
  rw[if_neg a'];exact congrArg be e
variable{C:KF}
def ObjM.look{x dx:KF}(I:ObjM h x dx C mA):∃ od,PySem.W.InstAt h x (instObj C dx) C (be od)/\∀ name,lookIn name od=be (mA name):=
 let ⟨od,ho,hl⟩:=va I.ns
 ⟨od,⟨I.obj,rfl,rfl,ho⟩,hl⟩
section
variable {prog:O9}{w:Pe}{A:Pf}{E:KB->KM->Prop}{s:KM}{K:DR}{x dx C f:KF}{mA:x9->Option KB}{name:x9}{v:KB}
def vb{J9:Bool}{Q:KB->KM->Prop}(X:K.In s.heap)(I:ObjM s.heap x dx C mA)(hg:plainGet K C name=true)(hh:hasDictIn K C=true)
  (ha:D3 K (.ref C) name=be q_) (hv:mA name=be v) (Ng:handedIn v=true) (h:Q v {s with toks:=s.toks+1}):
  Pd (Pc prog w) A (getAttr (.ref x) name J9) Q E s:=by
 obtain⟨od,J,hl⟩:=I.look;exact get_value X J (plainGet_of hg).1 (findObj_own hh ha rfl (by rw[hl,hv])) Ng h
def vc{pl:QC Bool}{Q:KB × List KB->KM->Prop}(X:K.In s.heap)(I:ObjM s.heap x dx C mA)(hg:plainGet K C name=true)
  (hf:D3 K (.ref C) name=be (be (.ref f))) (ht:isFn K (.ref f)=true) (hv:mA name=q_) (h:Q (.ref f,[.ref x]) s):
  Pd (Pc prog w) A (Ql (.ref x) name pl) Q E s:=by
 obtain⟨od,J,hl⟩:=I.look;exact method_fn X J (plainGet_of hg).1 (plainGet_of hg).2 hf (beq_iff_eq.mp ht) (by show(lookIn name od).map (·.isSome)=be false;rw[hl,hv];rfl) h
def vd{ns:List x9}{Q:Unit->KM->Prop}(X:K.In s.heap)(I:ObjM s.heap x dx C mA)
  (hs:D3 K (.ref C) "__setattr__"=be (be (.builtin "object.__setattr__"))) (hp:plainOver K C=true) (ht:takerIn K C name=be q_) (hh:hasDictIn K C=true)
  (hw:PySem.Within mA ns) (gt:ns.length<=sizeLine)
  (h:∀ h',ObjM h' x dx C (λy=>if y=name then be v else mA y)->Heap.SameBut dx s.heap h'->Q () {s with heap:=h',toks:=s.toks+2}):
  Pd (Pc prog w) A (setAttr (.ref x) name v) Q E s:=by
 obtain⟨od,J,hl⟩:=I.look;refine PySem.W.set_plain X J hs (osa_open (s:={s with toks:=s.toks+1}) (r:=q_) X J hp ht λb=>?_);obtain⟨cd,hc,j8⟩:=any_some hh;have hx:s.heap.get? x=be ⟨.ref C,be dx,.plain,#[]⟩:=I.obj;refine Os (Pa (Os (Os (wpAny_loadPart hx (Os (PySem.W.Looks.here (s:={s with toks:=s.toks+1}) (PySem.W.looks_clsIn X hc) ?_))))));rw[j8];refine Pa (a:=be dx) (Os (Pa (Os ?_)));refine wpAny_nsSet1 (s:={s with toks:=s.toks+1}) I.ns λh' w9 j_=>?_;obtain⟨oD,Nh,Ni,J',J_,Ka⟩:=w9.count (PySem.Within.cons name v hw);refine Os (wpAny_lookBehind J' (by rw[J_];exact pastItsLine_dict (D9 Ka (by rw[D0];lia))) ?_);exact Pa (h _ ⟨(j_.2 _ (Ne.symm I.ne)).trans I.obj,w9,I.ne⟩ j_)
def ve{R:Result->KM->Prop}{vs:List KB}{kw:List (x9 × KB)}(X:K.In s.heap)(hm:makesIn K C=true)
  (hi:D3 K (.ref C) "__init__"=be (be (.ref f))) (hf:PySem.W.typeIn K (.ref f)=be (.type "function"))
  (h:P4 (Pc prog w) (A.under (.builtin "type.__call__" ⟨.ref C::vs,kw⟩)) (.call (.ref f) ⟨.ref (s.heap.objs.size+1)::vs,kw⟩) (InitBack (s.heap.objs.size+1) R)
   {s with heap:=(s.heap.push emptyDict).push (instObj C s.heap.objs.size)}):
  P4 (Pc prog w) A (.call (.ref C) ⟨vs,kw⟩) R s:=by
 obtain⟨hh,g,d,t,os⟩:=s;exact make_core (makes_of X hm) (PySem.W.looks_findIn X hi) (λself=>PySem.W.bind_fn X self hf) (.inl rfl) h
end
def putF(f:x9)(v:V):List (x9 × V)->List (x9 × V)
 |[]=>[(f,v)]
 |(g,x)::r=>if g=f then(g,v)::r else(g,x)::putF f v r
def oM(f g:x9)(v:V):∀ fs:List (x9 × V),(putF f v fs).lookup g=if g=f then be v else fs.lookup g
 |[]=>by
  show EU g [(f,v)]=_;by_cases h:g=f
  .have hb:(g==f)=true:=beq_iff_eq.mpr h;simp only[EU,hb,if_pos h]
  .have hb:(g==f)=false:=beq_eq_false_iff_ne.mpr h;simp only[EU,hb,if_neg h]
 |(k,x)::r=>by
  have ih:=oM f g v r;rw[show putF f v ((k,x)::r)=(if k=f then(k,v)::r else(k,x)::putF f v r) from rfl];by_cases hk:k=f
  .rw[if_pos hk];by_cases h:g=k
   .have hb:(g==k)=true:=beq_iff_eq.mpr h;simp only[EU,hb,if_pos (h.trans hk)]
   .have hb:(g==k)=false:=beq_eq_false_iff_ne.mpr h;simp only[EU,hb,if_neg (λe:g=f=>h (e.trans hk.symm))]
  .rw[if_neg hk];by_cases h:g=k
   .have hb:(g==k)=true:=beq_iff_eq.mpr h;simp only[EU,hb,if_neg (λe:g=f=>hk (h.symm.trans e))]
   .have hb:(g==k)=false:=beq_eq_false_iff_ne.mpr h;simp only[EU,hb];exact ih
def jc(f:x9)(v:V):∀ fs:List (x9 × V),f∈(putF f v fs).map (·.1)/\∀ g,g∈fs.map (·.1)->g∈(putF f v fs).map (·.1)
 |[]=>⟨by simp[putF],λg h=>by simp at h⟩
 |(k,x)::r=>by
  obtain⟨i1,i2⟩:=jc f v r;rw[show putF f v ((k,x)::r)=(if k=f then(k,v)::r else(k,x)::putF f v r) from rfl];by_cases hk:k=f
  .rw[if_pos hk];subst hk;exact⟨by simp,λg h=>by simpa using h⟩
  .rw[if_neg hk];refine⟨?_,λg h=>?_⟩
   .rw[Eb];exact D4 _ i1
   .rw[Eb] at h ⊢;rcases D2.mp h with e|e
    .exact D2.mpr (.inl e)
    .exact D4 _ (i2 g e)
def oN(f:x9)(v:V):∀ fs:List (x9 × V),(putF f v fs).length<=fs.length+1
 |[]=>by simp[putF]
 |(k,x)::r=>by
  have ih:=oN f v r;rw[show putF f v ((k,x)::r)=(if k=f then(k,v)::r else(k,x)::putF f v r) from rfl];by_cases hk:k=f
  .rw[if_pos hk,D0,D0];lia
  .rw[if_neg hk,D0,D0];lia
def RelO.some_of{v:V}{o:Option KB}(r:RelO (be v) o):∃ u,o=be u/\RelV v u:=by
 cases o with
 |none=>exact(show False from r).elim
 |some u=>exact⟨u,rfl,r⟩
def RelO.none_of{o:Option KB}(r:RelO q_ o):o=none:=by
 cases o with
 |none=>rfl
 |some u=>exact(show False from r).elim
def vf{v:V}(r:RelV v u):handedIn u=true:=by
 cases v with
 |non=>cases(show u=Value.none from r);rfl
 |bl b=>cases(show u=Value.bool b from r);rfl
 |int i=>obtain⟨t,e⟩:=(show ∃ t,u=Value.int i t from r);cases e;rfl
 |str x=>obtain⟨t,e⟩:=(show ∃ t,u=Value.str x t from r);cases e;rfl
 |byt b=>obtain⟨t,e⟩:=(show ∃ t,u=Value.bytes b t from r);cases e;rfl
 |flt b=>obtain⟨t,e⟩:=(show ∃ t,u=Value.float b t from r);cases e;rfl
 |ref a=>cases(show u=Value.ref a from r);rfl
 |ty n=>cases(show u=Value.type n from r);rfl
section
variable {P:O9}{w:Pe}{H H':Hp}{h h':Heap}{a C dx:KF}{fs n_:List (x9 × V)}
def fN(hok:HOk P w H h)(e:H a=be (.ins C dx fs)):∃ mA,ObjM h a dx C mA/\(∀ f,RelO (fs.lookup f) (mA f))/\PySem.Within mA (fs.map (·.1))/\fs.length<=1000/\H dx=be (.own a):=by
 obtain⟨d,z,ne,ob,mA,n,r,q⟩:=(show ObjOk P w H h a (.ins C dx fs) from hok a _ e);exact⟨mA,⟨ob,n,ne⟩,r,q,z,d⟩
end
structure Cls(K:DR)(C:KF):Prop where
 pg:plainGet K C Str.empty=true
 hd:hasDictIn K C=true
 po:plainOver K C=true
 sa:D3 K (.ref C) "__setattr__"=be (be (.builtin "object.__setattr__"))
def Cls.get(c:Cls K C)(f:x9):plainGet K C f=true:=c.pg
def NoAttr(K:DR)(C:KF)(f:x9):Prop:=D3 K (.ref C) f=be q_
def NoAttr.taker{f:x9}(n:NoAttr K C f):takerIn K C f=be none:=by
 unfold takerIn;rw[show D3 K (.ref C) f=be q_ from n];rfl
structure Meth(K:DR)(C:KF)(m:Str)(f:KF):Prop where
 at_:D3 K (.ref C) m=be (be (.ref f))
 fn:isFn K (.ref f)=true
 kp:keepIn K (.ref f)=true
section
variable {X:Cx}{pins:List (KF × Pu)}{σ:St}{H:Hp}{s:KM}{a C dx:KF}{fs:List (x9 × V)}{f:x9}{v:V}{A:Pf}{E:KB->KM->Prop}
variable{Q:KB->KM->Prop}
def vg{b:Bool}(I:Inv X pins σ H s)(e:H a=be (.ins C dx fs))(c:Cls X.K C)(n:NoAttr X.K C f)(l:fs.lookup f=be v)
  (h:∀ u s',Inv X pins σ H s'->RelV v u->Q u s'):Pd (Pc X.prog X.w) A (getAttr (.ref a) f b) Q E s:=by
 obtain⟨mA,O,r,_,_,_⟩:=fN I.hok e;obtain⟨u,hu,ru⟩:=RelO.some_of (v:=v) (o:=mA f) (by rw[<- l];exact r f);exact vb I.kIn O (c.get f) c.hd n hu (vf ru) (h u _ (I.tok _) ru)
def oO{m:x9}{g:KF}{pl:QC Bool}{Q:KB × List KB->KM->Prop}(I:Inv X pins σ H s)(e:H a=be (.ins C dx fs))(c:Cls X.K C)(k:Meth X.K C m g)(l:fs.lookup m=q_)
  (h:Q (.ref g,[.ref a]) s):Pd (Pc X.prog X.w) A (Ql (.ref a) m pl) Q E s:=by
 obtain⟨mA,O,r,_,_,_⟩:=fN I.hok e;have hn:mA m=none:=RelO.none_of (by rw[<- l];exact r m);exact vc I.kIn O (c.get m) k.at_ k.fn hn h
def vh{y:V}{u:KB}{Q:Unit->KM->Prop}(I:Inv X pins σ H s)(e:H a=be (.ins C dx fs))(c:Cls X.K C)(n:NoAttr X.K C f)(hl:fs.length<1000)(ry:RelV y u)
  (h:∀ s',Inv X pins σ (upd H a (.ins C dx (putF f y fs))) s'->Q () s'):Pd (Pc X.prog X.w) A (setAttr (.ref a) f u) Q E s:=by
 obtain⟨mA,O,r,wi,_,ho⟩:=fN I.hok e;have hz:(fs.map (·.1)).length<=sizeLine:=by rw[DZ,P9];lia
 refine vd I.kIn O c.sa c.po n.taker c.hd wi hz λh' O' sb=>h _ ?_;have hd:∃ o,h'.get? dx=be o:=let ⟨o,_,_,e',_⟩:=O'.ns;⟨o,e'⟩
 refine I.write (x:=a) (e:=dx) (by rw[e];exact True.intro) (.inr ho) (λb q hb z=>(sb.2 b hb).trans z) hd ?_;refine⟨by rw[au O.ne];exact ho,?_,O.ne,O'.obj,_,O'.ns,λg=>?_,λg hg=>?_⟩
 .have:=oN f y fs;lia
 .show RelO ((putF f y fs).lookup g) (if g=f then be u else mA g);rw[oM];by_cases q:g=f
  .rw[if_pos q,if_pos q];exact ry
  .rw[if_neg q,if_neg q];exact r g
 .by_cases q:g=f
  .rw[q];exact(jc f y fs).1
  .refine(jc f y fs).2 g (wi g λz=>hg ?_);show(if g=f then be u else mA g)=q_;rw[if_neg q];exact z
def Inv.made(I:Inv X pins σ H s):Inv X pins σ (upd (upd H s.heap.objs.size (.own (s.heap.objs.size+1))) (s.heap.objs.size+1) (.ins C s.heap.objs.size []))
  {s with heap:=(s.heap.push emptyDict).push (instObj C s.heap.objs.size)}:=by
 have e1:(s.heap.push emptyDict).get? s.heap.objs.size=be emptyDict:=Heap.get?_push_size s.heap rfl;have e2:((s.heap.push emptyDict).push (instObj C s.heap.objs.size)).get? (s.heap.objs.size+1)=be (instObj C s.heap.objs.size):=by
  have:=Heap.get?_push_size (s.heap.push emptyDict) (o:=instObj C s.heap.objs.size) rfl;rwa [Heap.size_push] at this
 have e3:(s.heap.push emptyDict).Ns s.heap.objs.size (λ_=>q_):=⟨emptyDict,#[],_,e1,rfl,(λe he=>absurd he (by simp)),λ_=>rfl⟩;have I1:=I.laid (a:=s.heap.objs.size) (o:= .own (s.heap.objs.size+1)) (h':=s.heap.push emptyDict) (t':=s.toks) (λb u q=>Heap.get?_push_of_some _ q) (DU _) ⟨_,e1⟩;refine I1.laid (a:=s.heap.objs.size+1) (o:= .ins C s.heap.objs.size []) (t':=s.toks) (λb u q=>Heap.get?_push_of_some _ q) (Fz (Heap.size_push _ _)) ?_;have ne:s.heap.objs.size≠s.heap.objs.size+1:=D8 (Gk _);refine⟨by rw[au ne,aC],Ej _,ne,e2,λ_=>q_,(Heap.Ns1.of_empty e3).at λo q=>Heap.get?_push_of_some _ q,λ_=>True.intro,λy hy=>absurd rfl hy⟩
def attr_of{prog:O9}{w:Pe}{env:PU}{e:O_}{f:x9}{pos:Pm}{s:KM}(hb:Pi e f env (Pj e env)=Pj e env)
  (h:Pd (Pc prog w) A (Pj e env) (λo s₁=>Pd (Pc prog w) A (getAttr o f true) Q E s₁) E s):Pd (Pc prog w) A (Pj (.Attribute e f pos) env) Q E s:=
 Attribute_any_ h (by rw[arm_eval_Attribute,hb])
end
def tFld(K:DR)(ta:TE)(f:x9):TE:=λσ H Q=>ta σ H λx H1=>∃ a C dx fs v,x= .ref a/\H1 a=be (.ins C dx fs)/\Cls K C/\NoAttr K C f/\fs.lookup f=be v/\Q v H1
def sFld(K:DR)(ta tv:TE)(f:x9):TS:=λD σ H=>tv σ H λy H1=>ta σ H1 λx H2=>∃ a C dx fs,x= .ref a/\H2 a=be (.ins C dx fs)/\Cls K C/\NoAttr K C f/\fs.length<1000/\
 D.nx σ (upd H2 a (.ins C dx (putF f y fs)))
section
variable {X:Cx}{o e value:O_}{f:x9}{pos c8 Nj:Pm}{ta tv:TE}
def oP(he:PE X e ta)(hb:Pi e f X.env (Pj e X.env)=Pj e X.env):PE X (.Attribute e f pos) (tFld X.K ta f):=by
 intro pins s σ H Q I h;refine attr_of hb (thn (he pins s σ H _ I h) λu s1 b8=>?_);obtain⟨x,H1,I1,rx,a,C,dx,fs,v,ex,ea,c,n,l,q⟩:=b8;subst ex;obtain rfl:u=Value.ref a:=rx;exact vg I1 ea c n l λu' s2 I2 ru=>⟨v,H1,I2,ru,q⟩
def oQ(ha:PE X o ta)(hv:PE X value tv)(hs:Pt value (be (.Attribute o f c8)) pos.line X.env=pure false):PS X (.Assign [.Attribute o f c8] value pos) (sFld X.K ta tv f):=by
 intro pins s σ H D I h;refine Qj (thn (hv pins s σ H _ I h) λu s1 ⟨y,H1,I1,ry,q⟩=>thn (ha pins s1 σ H1 _ I1 q) λov s2 hh=>?_) hs;obtain⟨x,H2,I2,rx,a,C,dx,fs,ex,ea,c,n,l,q2⟩:=hh;subst ex;obtain rfl:ov=Value.ref a:=rx;exact vh I2 ea c n l ry λs3 I3=>⟨σ,_,I3,q2⟩
end
section
variable {X:Cx}{pins:List (KF × Pu)}{σ:St}{H:Hp}{s:KM}{A:Pf}{E:KB->KM->Prop}{Q:KB->KM->Prop}{c:KB}{b:Bool}
inductive TyOf(K:DR)(H:Hp):V->KB->Prop where
 |non:TyOf K H .non (.type "NoneType")
 |bl (x:Bool):TyOf K H (.bl x) (.type "bool")
 |int (i:Int):TyOf K H (.int i) (.type "int")
 |str (x:Str):TyOf K H (.str x) (.type "str")
 |flt (x:UInt64):TyOf K H (.flt x) (.type "float")
 |lst {a:KF} {xs:List V} (e:H a=some (.lst xs)):TyOf K H (.ref a) (.type "list")
 |frz {a:KF} {o:Pu} {xs:List V} (e:H a=some (.frz o (.lst xs))):TyOf K H (.ref a) (.type "list")
 |tup {a:KF} {xs:List V} (e:H a=some (.tup xs)):TyOf K H (.ref a) (.type "tuple")
 |dK {a:KF} {a8:List (Key × V)} (e:H a=some (.dK a8)):TyOf K H (.ref a) (.type "dict")
 |dT {a:KF} {a8:List (List Key × V)} (e:H a=some (.dT a8)):TyOf K H (.ref a) (.type "dict")
 |ins {a C dx:KF} {fs:List (Str × V)} (e:H a=some (.ins C dx fs)) (cl:Cls K C) (ha:D3 K (.ref C) "__class__"=some (some (.builtin "object.__class__")))
   (hn:specialIn K (.builtin "object.__class__") "__get__"=be (be (.builtin "getset_descriptor.__get__"))) (htk:takesIn K (.builtin "object.__class__")=be true)
   (hm:E6 K C (.type "object")=be true):TyOf K H (.ref a) (.ref C)
def vi{x:V}{u t:KB}(I:Inv X pins σ H s)(rx:RelV x u)(ty:TyOf X.K H x t)(e:kitOne X.K t c=be b)(h:∀ tk,Q (.bool b) {s with toks:=tk}):
  Pd (Pc X.prog X.w) A (call (.builtin "isinstance") [u,c]) Q E s:=by
 cases ty with
 |non=>cases(show u=Value.none from rx);exact kia_one kitx_none I.kIn True.intro e (λz=>nomatch z) h
 |bl y=>cases(show u=Value.bool y from rx);exact kia_one kitx_bool I.kIn True.intro e (λz=>nomatch z) h
 |int i=>obtain⟨t,q⟩:=(show ∃ t,u=Value.int i t from rx);cases q;exact kia_one kitx_int I.kIn True.intro e (λz=>nomatch z) h
 |str y=>obtain⟨t,q⟩:=(show ∃ t,u=Value.str y t from rx);cases q;exact kia_one kitx_str I.kIn True.intro e (λz=>nomatch z) h
 |flt y=>obtain⟨t,q⟩:=(show ∃ t,u=Value.float y t from rx);cases q;exact kia_one kitx_float I.kIn True.intro e (λz=>nomatch z) h
 |@lst a xs ea=>
  cases(show u=Value.ref a from rx);obtain⟨_,_,n,_,h1⟩:=(show ObjOk X.prog X.w H s.heap a (.lst xs) from I.hok a _ ea);exact kia_one kitx_list I.kIn ⟨_,h1,rfl⟩ e (λz=>nomatch z) h
 |@frz a ob xs ea=>
  cases(show u=Value.ref a from rx);obtain⟨_,_,_,n,_,h1⟩:=(show ObjOk X.prog X.w H s.heap a (.frz ob (.lst xs)) from I.hok a _ ea);exact kia_one kitx_list I.kIn ⟨_,h1,rfl⟩ e (λz=>nomatch z) h
 |@tup a xs ea=>
  cases(show u=Value.ref a from rx);obtain⟨_,_,_,p⟩:=(show ObjOk X.prog X.w H s.heap a (.tup xs) from I.hok a _ ea);obtain⟨o,h1,h2,_⟩:=p;exact kia_one kitx_tuple I.kIn ⟨o,h1,h2⟩ e (λz=>nomatch z) h
 |@dK a a8 ea=>
  cases(show u=Value.ref a from rx);obtain⟨_,_,vs,_,p⟩:=(show ObjOk X.prog X.w H s.heap a (.dK a8) from I.hok a _ ea);obtain⟨o,es,ep,h1,h2,_⟩:=p;exact kia_one kitx_dict I.kIn ⟨o,h1,h2.1⟩ e (λz=>nomatch z) h
 |@dT a a8 ea=>
  cases(show u=Value.ref a from rx);obtain⟨_,_,xs,_,o,es,ep,h1,h2,_⟩:=(show ObjOk X.prog X.w H s.heap a (.dT a8) from I.hok a _ ea);exact kia_one kitx_dict I.kIn ⟨o,h1,h2.1⟩ e (λz=>nomatch z) h
 |@ins a C dx fs ea cl ha hn htk hm=>
  cases(show u=Value.ref a from rx);obtain⟨mA,O,_⟩:=fN I.hok ea;obtain⟨od,J,_⟩:=O.look;exact kia_one (kitx_own (cl.get _) cl.hd ha hn htk hm) I.kIn J e (λz=>nomatch z) h
end
structure Room(k:Nat)(A:Pf):Prop where
 hd:A.handled=q_
 dp:A.depth+3*k+5<recursionLimit
 un:A.units+16*k+200<Qg
variable{k:Nat}
def Room.mono{j:Nat}(r:Room k A)(h:j<=k):Room j A:=⟨r.hd,by have:=r.dp;lia,by have:=r.un;lia⟩
def Room.deeper(r:Room (k+1) A)(env:PU):Room k (A.deeper env):=
 ⟨r.hd,by have:=r.dp;show A.depth+1+3*k+5<_;lia,by have:=r.un;show A.units+3+16*k+200<_;lia⟩
def Room.in1(r:Room (k+1) A):Room k A.in1:=
 ⟨r.hd,by have:=r.dp;show A.depth+3*k+5<_;lia,by have:=r.un;show A.units+1+16*k+200<_;lia⟩
variable{kw:List (x9 × KB)}
def vj:(A.under (.builtin "type.__call__" ⟨.ref C::us,kw⟩)).depth=A.depth+1:=by
 first|rfl|simp[Around.under,Code.weight,Code.isCreation,Code.isGuard,Code.isCaller,Code.frames,Code.isFrame,guardIds]
def vk:(A.under (.builtin "type.__call__" ⟨.ref C::us,kw⟩)).units=A.units+1:=by
 first|rfl|simp[Around.under,Code.cUnits,Code.frames,Code.isFrame]
def Room.make(r:Room (k+1) A)(C:KF)(us:List KB)(kw:List (x9 × KB)):Room k (A.under (.builtin "type.__call__" ⟨.ref C::us,kw⟩)):=
 ⟨r.hd,by have:=r.dp;rw[vj];lia,by have:=r.un;rw[vk];lia⟩
def Room.depth(r:Room k A):A.depth<recursionLimit:=by have:=r.dp;lia
def Room.units(r:Room k A):A.units+64<Qg:=by have:=r.un;lia
def tNil:TA:=λ_ H Q=>Q [] H
def fO(ta:TE)(tr:TA):TA:=λσ H Q=>ta σ H λx H1=>tr σ H1 λxs H2=>Q (x::xs) H2
section
variable {X:Cx}{e:O_}{es:List O_}{te:TE}{t:TA}{pos:Pm}
def pa_nil:PA X [] tNil:=λ_ _ _ _ H Q I h=>Calls.spliced_nil ⟨[],H,I,.nil,h⟩
def bg(ha:PE X e te)(hr:PA X es t)(hs:autoParam (zSE X e es) zA0):PA X (e::es) (fO te t):=by
 intro pos pins s σ H Q I h;rw[hs];show Pd _ _ (spliced ((false,Pj e X.env)::PP pos (Pg es X.env))) _ _ s;refine Calls.spliced_cons (thn (ha pins s σ H _ I h) λu s1 b8=>?_);obtain⟨x,H1,I1,r1,q1⟩:=b8;exact thn (hr pos pins s1 σ H1 _ I1 q1) λus s2 ⟨xs,H2,I2,r2,q2⟩=>⟨x::xs,H2,I2,.cons r1 r2,q2⟩
def tTup(t:TA):TE:=λσ H Q=>t σ H λxs H1=>xs.length<=sizeLine/\∀ p,H1 p=q_->Q (.ref p) (upd H1 p (.tup xs))
def tLst(t:TA):TE:=λσ H Q=>t σ H λxs H1=>xs.length<=sizeLine/\∀ p,H1 p=q_->Q (.ref p) (upd H1 p (.lst xs))
def oR{x1}(h:PA X es t):PE X (.Tuple es x1 pos) (tTup t):=by
 intro pins s σ H Q I hq;refine wpAny_Tuple_spliced (thn (h pos pins s σ H _ I hq) λus s1 ⟨xs,H1,I1,r,z,q⟩=>⟨by rw[<- r.length];exact z,?_⟩);have hf:H1 s1.heap.objs.size=none:=I1.hok.fresh (DU _);refine⟨.ref s1.heap.objs.size,upd H1 s1.heap.objs.size (.tup xs),I1.laid (t':=s1.toks) (λb u e=>Heap.get?_push_of_some _ e) (DU _) ?_,rfl,q _ hf⟩;exact⟨z,us,r,⟨_,Heap.get?_push_size _ rfl,rfl,_,rfl⟩⟩
def jd(h:PA X es t):PE X (.List es pos) (tLst t):=by
 intro pins s σ H Q I hq;refine wpAny_List_spliced (thn (h pos pins s σ H _ I hq) λus s1 ⟨xs,H1,I1,r,z,q⟩=>⟨by rw[<- r.length];exact z,?_⟩);have hf:H1 s1.heap.objs.size=none:=I1.hok.fresh (DU _);refine⟨.ref s1.heap.objs.size,upd H1 s1.heap.objs.size (.lst xs),I1.laid (t':=s1.toks) (λb u e=>Heap.get?_push_of_some _ e) (DU _) ?_,rfl,q _ hf⟩;exact⟨z,us,0,r,Heap.get?_push_size _ rfl⟩
end
abbrev Sp:=List V->Hp->VK->XK->Prop
abbrev CXT:=List PU->Hp->KM->XK->KB->KM->Prop
structure Env0(P:O9)(w:Pe)(K:DR)(mg:Str->Option KB)(base:Heap)(A:Pf)(outer:List PU)(s:KM)(H:Hp):Prop where
 frames:A.frames=be outer
 mod:Mod K mg base
 bs:∀ b o,base.get? b=be o->s.heap.get? b=be o/\H b=q_
 bsz:base.objs.size<=s.heap.objs.size
 funs:s.heap.FunFrames base outer
 frf:∀ b∈frs outer,H b=q_
 hok:HOk P w H s.heap
 bare:PZ s.gens
def CE(outer:List PU)(P:O9)(w:Pe)(H:Hp)(s:KM)(Q:VK)(u:KB)(s':KM):Prop:=
 ∃ v H',s'.os=s.os/\PZ s'.gens/\Un (frs outer) [] H H' s.heap s'.heap/\HOk P w H' s'.heap/\RelV v u/\Q v H'
def CR(CX:CXT)(outer:List PU)(P:O9)(w:Pe)(H:Hp)(s:KM)(Q:VK)(E:XK)(r:Result)(s':KM):Prop:=
 match r with
 | .ok (.ret u)=>CE outer P w H s Q u s'
 | .ok _=>False
 | .error e=>CX outer H s E e s'
structure FnOk(P:O9)(w:Pe)(K:DR)(mg:Str->Option KB)(base:Heap)(CX:CXT)(k:Nat)(f:KF)(fd:Ph)(ps:List Str)(sp:Sp):Prop where
 len:∀ vs H Q E,sp vs H Q E->vs.length=ps.length
 run:∀ (A:Pf) (outer:List PU) (s:KM) (H:Hp) (args:Args) (us:List KB) (vs:List V) (Q:VK) (E:XK),Room k A->Env0 P w K mg base A outer s H->Qi s fd args (ps.zip us)->Vals vs us->sp vs H Q E->
  P4 (Pc P w) A (.call (.ref f) args) (CR CX outer P w H s Q E) s
variable{f:KF}{mg:x9->Option KB}{base:Heap}{CX:CXT}{fd:Ph}{ps:List x9}{sp:Sp}
def FnOk.mono{j:Nat}(F:FnOk P w K mg base CX j f fd ps sp)(h:j<=k):
  FnOk P w K mg base CX k f fd ps sp:=⟨F.len,λA outer s H args us vs Q E hr=>F.run A outer s H args us vs Q E (hr.mono h)⟩
def FnOk.imp{G8:Sp}(F:FnOk P w K mg base CX k f fd ps sp)
  (h:∀ vs H Q E,G8 vs H Q E->sp vs H Q E):FnOk P w K mg base CX k f fd ps G8:=
 ⟨λvs H Q E q=>F.len vs H Q E (h _ _ _ _ q),λA outer s H args us vs Q E hr he hb hv hs=>F.run A outer s H args us vs Q E hr he hb hv (h _ _ _ _ hs)⟩
variable{outer:List PU}
def Env0.make(e:Env0 P w K mg base A outer s H)(C:KF)(us:List KB)(kw:List (x9 × KB)):
  Env0 P w K mg base (A.under (.builtin "type.__call__" ⟨.ref C::us,kw⟩)) outer s H:=⟨by first|exact e.frames|(simpa[Around.under,Code.envs,Code.isFrame,pushEnvs] using e.frames),e.mod,e.bs,e.bsz,e.funs,e.frf,e.hok,e.bare⟩
def Env0.in1(e:Env0 P w K mg base A outer s H):
  Env0 P w K mg base A.in1 outer s H:=⟨e.frames,e.mod,e.bs,e.bsz,e.funs,e.frf,e.hok,e.bare⟩
section
variable {X:Cx}{pins:List (KF × Pu)}{σ:St}{H:Hp}{s s':KM}
def Inv.env0(I:Inv X pins σ H s):Env0 X.prog X.w X.K X.mg X.base X.A X.stack s H:=
 ⟨I.ok.frames,I.ok.mod,I.bs,D9 I.ok.bsz I.sz,I.stack,I.stkFree,I.hok,I.bare⟩
def Inv.after{Q:VK}{u:KB}(I:Inv X pins σ H s)(h:CE X.stack X.prog X.w H s Q u s'):EP X pins σ Q u s':=by
 obtain⟨v,H',os,bare,un,hok,r,q⟩:=h;obtain⟨hh,g,d,t,Nk⟩:=s';obtain rfl:Nk=s.os:=os;exact⟨v,H',I.call (h':=hh) (g':=g) (d':=d) (t':=t) (ch:=[]) un hok bare (λb z=>absurd z (by simp)),r,q⟩
end
def oS(sp:Sp)(m5:List V)(E:XK)(t:TA):TE:=λσ H Q=>t σ H λvs H1=>sp (vs++m5) H1 Q E
def vm(C:KF)(sp:Sp)(m5:List V)(E:XK)(t:TA):TE:=λσ H Q=>t σ H λvs H1=>∀ x dx,H1 x=q_->H1 dx=q_->dx≠x->
 sp (.ref x::(vs++m5)) (upd (upd H1 dx (.own x)) x (.ins C dx [])) (λv H2=>v= .non/\Q (.ref x) H2) E
def Binds(K:DR)(fd:Ph)(ps:List x9)(ds:List KB):Prop:=
 ∀ (s:KM) (us:List KB),K.In s.heap->(us++ds).length=ps.length->Qi s fd ⟨us,[]⟩ (ps.zip (us++ds))
def Binds.all(h:∀ us:List KB,us.length=ps.length->PR fd ⟨us,[]⟩=pure (ps.zip us)):Binds K fd ps []:=λs us _ hl=>by
 rw[EA] at hl ⊢;exact .of_eq (h us hl)
def eV(CX:CXT)(X:Cx)(E:XK):Prop:=∀ (pins:List (KF × Pu)) (σ:St) (H:Hp) (s:KM) (e:KB) (s':KM),Inv X pins σ H s->CX X.stack H s E e s'->X.xe e s'
section
variable {X:Cx}{CX:CXT}{k:Nat}{f C:KF}{fd:Ph}{ps:List x9}{sp:Sp}{m5:List V}{ds:List KB}{E:XK}{x m:x9}{p pos apos:Pm}{e o:O_}{es:List O_}{ta:TE}{t:TA}
variable{pins:List (KF × Pu)}{us:List KB}{vs:List V}
def vn{σ:St}{H:Hp}{s:KM}{Q:VK}(F:FnOk X.prog X.w X.K X.mg X.base CX k f fd ps sp)(hr:Room k X.A)(hb:Binds X.K fd ps ds)(hd:Vals m5 ds)(hx:eV CX X E)
  (I:Inv X pins σ H s) (r:Vals vs us) (h:sp (vs++m5) H Q E):Pd (Pc X.prog X.w) X.A (call (.ref f) us) (EP X pins σ Q) X.xe s:=by
 have r2:Vals (vs++m5) (us++ds):=r.append hd;have hl:(us++ds).length=ps.length:=by rw[<- r2.length];exact F.len _ _ _ _ h
 refine P3 (PQ (F.run X.A X.stack s H ⟨us,[]⟩ (us++ds) (vs++m5) Q E hr I.env0 (hb s us I.kIn hl) r2 h) λr s' hq=>?_);cases r with
 |error e=>exact hx pins σ H s e s' I hq
 |ok fl=>
  cases fl with
  |ret u=>exact I.after hq
  |next=>exact False.elim hq
  |brk=>exact False.elim hq
  |cont=>exact False.elim hq
def vo(F:FnOk X.prog X.w X.K X.mg X.base CX k f fd ps sp)(hr:Room k X.A)(hg:Gl X x)(hm:X.mg x=be (.ref f))(hk:keepIn X.K (.ref f)=true)(hb:Binds X.K fd ps ds)(hd:Vals m5 ds)(hx:eV CX X E)
  (ha:PA X (e::es) t) (d6:autoParam (zND x) zA1) (he:autoParam (zSE X e es) zA0) (c5:autoParam (zPL X pos es) zA0):
  PE X (.Call (.Name x p) (e::es) [] pos) (oS sp m5 E t):=by
 intro pins s σ H Q I h;refine Po (cR I hg hm ?_ d6);refine callWith_K (h₀:=X.base) I.ok.mod.kin hk (thn (ha pos pins s σ H _ I h) λus s1 hh=>⟨hh.elim λ_ h=>h.elim λ_ h=>h.1.kIn,?_⟩) he c5;obtain⟨vs,H1,I1,r,q⟩:=hh;exact vn F hr hb hd hx I1 r q
structure Mk(K:DR)(C f:KF):Prop where
 makes:makesIn K C=true
 init:D3 K (.ref C) "__init__"=be (be (.ref f))
 fn:isFn K (.ref f)=true
 kp:keepIn K (.ref C)=true
def vp{σ:St}{H:Hp}{s:KM}{Q:VK}(M:Mk X.K C f)(F:FnOk X.prog X.w X.K X.mg X.base CX k f fd ps sp)(hr:Room (k+1) X.A)(hb:Binds X.K fd ps ds)(hd:Vals m5 ds)
  (hx:eV CX X E) (I:Inv X pins σ H s) (r:Vals vs us)
  (h:∀ x dx,H x=q_->H dx=q_->dx≠x->sp (.ref x::(vs++m5)) (upd (upd H dx (.own x)) x (.ins C dx [])) (λv H2=>v= .non/\Q (.ref x) H2) E):
  Pd (Pc X.prog X.w) X.A (call (.ref C) us) (EP X pins σ Q) X.xe s:=by
 have hq:=h (s.heap.objs.size+1) s.heap.objs.size (I.hok.fresh (EV _)) (I.hok.fresh (DU _)) (D8 (Gk _));have I2:=Inv.made (C:=C) I;have r2:Vals (V.ref (s.heap.objs.size+1)::(vs++m5)) (Value.ref (s.heap.objs.size+1)::(us++ds)):= .cons rfl (r.append hd);have hl:(Value.ref (s.heap.objs.size+1)::us++ds).length=ps.length:=by
  have e:=r2.length;rw[F.len _ _ _ _ hq] at e;exact e.symm
 refine P3 (ve (f:=f) I.kIn M.makes M.init (beq_iff_eq.mp M.fn) (PQ (F.run _ X.stack _ _ ⟨Value.ref (s.heap.objs.size+1)::us,[]⟩ (Value.ref (s.heap.objs.size+1)::(us++ds)) _ _ E (hr.make C us [])
  (I2.env0.make C us []) (hb _ (Value.ref (s.heap.objs.size+1)::us) I2.kIn hl) r2 hq) λr s' k6=>?_))
 cases r with
 |error e=>exact hx pins σ _ _ e s' I2 k6
 |ok fl=>
  cases fl with
  |ret u=>
   obtain⟨v,H',I3,rv,ev,q3⟩:=I2.after k6;subst ev;exact⟨rv,⟨V.ref (s.heap.objs.size+1),H',I3,rfl,q3⟩⟩
  |next=>exact False.elim k6
  |brk=>exact False.elim k6
  |cont=>exact False.elim k6
def je(M:Mk X.K C f)(F:FnOk X.prog X.w X.K X.mg X.base CX k f fd ps sp)(hr:Room (k+1) X.A)(hg:Gl X x)(hm:X.mg x=be (.ref C))(hb:Binds X.K fd ps ds)(hd:Vals m5 ds)(hx:eV CX X E)
  (ha:PA X (e::es) t) (d6:autoParam (zND x) zA1) (he:autoParam (zSE X e es) zA0) (c5:autoParam (zPL X pos es) zA0):
  PE X (.Call (.Name x p) (e::es) [] pos) (vm C sp m5 E t):=by
 intro pins s σ H Q I h;refine Po (cR I hg hm ?_ d6);refine callWith_K (h₀:=X.base) I.ok.mod.kin M.kp (thn (ha pos pins s σ H _ I h) λus s1 hh=>⟨hh.elim λ_ h=>h.elim λ_ h=>h.1.kIn,?_⟩) he c5;obtain⟨vs,H1,I1,r,q⟩:=hh;exact vp M F hr hb hd hx I1 r q
end
structure FnScope(N P:List Str)(sc:PH):Prop where
 kind:sc.kind= .function
 co:sc.isCoroutine=false
 gen:sc.isGenerator=false
 nd:N.Nodup
 pre:N.take P.length=P
 par:∀ x∈P,sc.names.lookup x=be .local\/sc.names.lookup x=be .cell
 nofree:∀ y∈sc.names,y.2≠.free
def oU{kindOf:x9->Option PN}{x:x9}:∀ {binds:List (x9 × KB)} {m:x9->Option KB},(∀ v,(x,v) ∉ binds)->Qu kindOf binds m x=m x
 |[],_,_=>rfl
 |(n,v)::r,m,h=>by
  unfold Qu;rw[oU λw hw=>h w (D4 _ hw)];split
  .have:x≠n:=by rintro rfl;exact h v Ea
   simp[this]
  .rfl
def bindC_out{kindOf:x9->Option PN}{x:x9}:∀ {binds:List (x9 × KB)} {m:x9->Option KB},(∀ v,(x,v) ∉ binds)->Qv kindOf binds m x=m x
 |[],_,_=>rfl
 |(n,v)::r,m,h=>by
  unfold Qv;rw[bindC_out λw hw=>h w (D4 _ hw)];split
  .rfl
  .have:x≠n:=by rintro rfl;exact h v Ea
   simp[this]
def bindL_get{kindOf:x9->Option PN}{x:x9}{v:KB}:∀ {P:List x9} {vs:List KB} {i:Nat} {m:x9->Option KB},P.Nodup->P[i]?=be x->vs[i]?=be v->kindOf x=be .local->
  Qu kindOf (P.zip vs) m x=be v
 |[],_,_,_,_,h,_,_=>by simp at h
 |_::_,[],_,_,_,_,h,_=>by simp at h
 |p::P,w::vs,0,m,nd,h1,h2,hk=>by
  simp at h1 h2;subst h1;subst h2;show Qu kindOf ((p,w)::P.zip vs) m p=_;unfold Qu;rw[oU λv hv=>(EM.mp nd).1 (FT hv).1,if_pos hk];simp
 |p::P,w::vs,i+1,m,nd,h1,h2,hk=>by
  show Qu kindOf ((p,w)::P.zip vs) m x=_;unfold Qu;exact bindL_get (i:=i) (EM.mp nd).2 (by simpa using h1) (by simpa using h2) hk
def oV{kindOf:x9->Option PN}{x:x9}{v:KB}:∀ {P:List x9} {vs:List KB} {i:Nat} {m:x9->Option KB},P.Nodup->P[i]?=be x->vs[i]?=be v->kindOf x≠be .local->
  Qv kindOf (P.zip vs) m x=be v
 |[],_,_,_,_,h,_,_=>by simp at h
 |_::_,[],_,_,_,_,h,_=>by simp at h
 |p::P,w::vs,0,m,nd,h1,h2,hk=>by
  simp at h1 h2;subst h1;subst h2;show Qv kindOf ((p,w)::P.zip vs) m p=_;unfold Qv;rw[bindC_out λv hv=>(EM.mp nd).1 (FT hv).1,if_neg hk];simp
 |p::P,w::vs,i+1,m,nd,h1,h2,hk=>by
  show Qv kindOf ((p,w)::P.zip vs) m x=_;unfold Qv;exact oV (i:=i) (EM.mp nd).2 (by simpa using h1) (by simpa using h2) hk
def start(N:List x9)(vs:List V):St:=vs.map be++EN (N.length - vs.length) q_
def cxOf(CX:CXT)(P:O9)(w:Pe)(K:DR)(mg:x9->Option KB)(base:Heap)(N:List x9)(qual:x9)(scope:PH)(f:KF)(cd:KB)(A:Pf)(outer:List PU)(s:KM)(H:Hp)(E:XK):Cx where
 prog:=P
 w:=w
 K:=K
 mg:=mg
 base:=base
 A:=A.deeper (Pl qual scope s.heap.objs.size f cd)
 N:=N
 s₀:=s
 H₀:=H
 env:=Pl qual scope s.heap.objs.size f cd
 outer:=outer
 stack:=Pl qual scope s.heap.objs.size f cd::outer
 ex:=[]
 calm:=true
 fn:=λ_=>true
 pn:=[]
 xe:=λe s'=>Pd (Pc P w) (A.deeper (Pl qual scope s.heap.objs.size f cd)) (Qx (Pl qual scope s.heap.objs.size f cd) e) (λ_ Kb=>CX outer H s E e Kb) (λe' Kb=>CX outer H s E e' Kb) s'
def cell_has{sc:PH}{n:Nat}{x:x9}(h:sc.names.lookup x=be .cell):∃ c,(cellsFrom n sc.names []).lookup x=be c:=by
 have q:=cellsFrom_some sc.names n [] (.inl h);exact Option.isSome_iff_exists.mp q
variable{N:List x9}{scope:PH}
def vq{qual:x9}{cd:KB}{s1:KM}{E:XK}{vs:List V}
  (S:FnScope N ps scope) (hd:A.handled=q_) (e0:Env0 P w K mg base A outer s H) (hl:vs.length=ps.length) (r:Vals vs us)
  (x:InCallC s s.heap.objs.size (Qu (Pl qual scope s.heap.objs.size f cd).kindOf (ps.zip us) λ_=>q_) (cellsFrom (s.heap.objs.size+1) scope.names []) (Qv (Pl qual scope s.heap.objs.size f cd).kindOf (ps.zip us) λ_=>q_) s1):
  Inv (cxOf CX P w K mg base N qual scope f cd A outer s H E) [] (start N vs) H s1:=by
 have c5:ps.length<=N.length:=by have:=congrArg E7 S.pre;rw[FA] at this;lia
 obtain⟨h1,tk,rfl,hk⟩:=x.done;have Iq:∀ b:KF,b ∉ (cxOf CX P w K mg base N qual scope f cd A outer s H E).ex:=λb z=>absurd (show b∈([]:List KF) from z) (by simp);refine⟨⟨e0.mod,S.kind,rfl,rfl,DU _,λy z c h1 h2=>?_,λy hy=>?_,λy c _ h=>?_,λ_=>hd,Around.frames_deeper e0.frames,.inr ⟨rfl,rfl⟩,λb z=>absurd z (Iq b),e0.bs,e0.bsz,λb _ _=>Iq b,λb z=>absurd z (Iq b),e0.funs,e0.frf⟩,
  rfl,e0.bare,Un.kept hk,⟨_,x.toInCall.ns,λi y v h1 h2 h3=>?_⟩,λy c h=>⟨_,x.cell y c h⟩,e0.hok.fresh (DU _),λy c h=>?_,λp hp=>absurd (show p∈([]:List (KF × Pu)) from hp) (by simp),e0.hok.kept hk,?_⟩
 .exact name_of_addr x.apart (PySem.mem_of_lookup h1) (PySem.mem_of_lookup h2)
 .have hy:scope.names.lookup y=be .cell\/scope.names.lookup y=be .free:=hy;rcases hy with hy|hy
  .exact cell_has hy
  .exact absurd rfl (S.nofree _ (PySem.mem_of_lookup hy))
 .exact Fw (x.above y c (PySem.mem_of_lookup h))
 .have hi:i<vs.length:=by
   unfold start at h2;by_cases hi:i<vs.length
   .exact hi
   .rw[EW (by simpa using hi)] at h2;rw[FU] at h2;split at h2<;>cases h2
  have ha:vs[i]?=be v:=by
   unfold start at h2;rw[EH (by simpa using hi),D5] at h2;cases e:vs[i]? with
   |none=>rw[e] at h2;cases h2
   |some a=>rw[e] at h2;cases h2;rfl
  obtain⟨u,hu,rv⟩:=r.get ha;have hp:ps[i]?=be y:=by
   rw[<- S.pre,Gm (by lia)];exact h1
  have Ma:ps.Nodup:=by rw[<- S.pre];exact S.nd.sublist (List.take_sublist _ _)
  refine⟨u,rv,?_⟩;rcases S.par y (FV hp) with k|k
  .exact .inl ⟨k,bindL_get Ma hp hu k⟩
  .obtain⟨c,e⟩:=cell_has (n:=s.heap.objs.size+1) k;refine .inr ⟨.inl k,c,e,?_⟩;have q:=x.cell y c e;rw[oV Ma hp hu (by show scope.names.lookup y≠_;rw[k];decide)] at q;exact q
 .exact e0.hok.fresh (Fw (x.above y c (PySem.mem_of_lookup h)))
 .unfold start;show _=N.length;rw[D7,DZ,List.length_replicate];lia
def oW{name qual:x9}{params:Arguments}{body:List Pb}{dV kV doc pm cdv ct oc:KB}{an od:Option KF}
  {osl:Array (Option KB)}   (lk:K.lookup f=be ⟨oc,od,.func (fnOf name qual params body scope dV kV doc pm an cdv ct),osl⟩) (g6:codeIn K cdv qual=true) (S:FnScope N ps scope)
  (len:∀ vs H Q E,sp vs H Q E->vs.length=ps.length)
  (a9:∀ (A:Pf) (outer:List PU) (s:KM) (H:Hp) (vs:List V) (Q:VK) (E:XK),Room k (A.deeper (Pl qual scope s.heap.objs.size f cdv))->sp vs H Q E->
   ∃ t,PSs (cxOf CX P w K mg base N qual scope f cdv A outer s H E) body t/\t {nx:=λ_ H'=>Q .non H',rt:=Q} (start N vs) H):
  FnOk P w K mg base CX (k+1) f (fnOf name qual params body scope dV kV doc pm an cdv ct) ps sp:=by
 refine⟨len,λA outer s H args us vs Q E hr e0 hb r p8=>?_⟩;have hl:=len _ _ _ _ p8;have KX:K.In s.heap:=e0.mod.kin.keeps λb o e=>(e0.bs b o e).1;have Nl:s.heap.NoLimit:=e0.mod.nolimit.keeps λb o e=>(e0.bs b o e).1;have Ir:∀ y∈ps.zip us,scope.names.lookup y.1=be .local\/(scope.names.lookup y.1=be .cell/\((cellsFrom (s.heap.objs.size+1) scope.names []).lookup y.1).isSome=true):=λ⟨n,v⟩ hy=>by
  rcases S.par n (FT hy).1 with q|q
  .exact .inl q
  .exact .inr ⟨q,cellsFrom_some _ _ _ (.inl q)⟩
 refine codeAny_call_function hr.depth (KX _ _ lk) rfl S.co S.gen rfl (codeRec_of KX g6) (hb _ _ _ _ ?_);refine wpAny_newFunctionEnv_cells S.kind Ir λenv he s1 x=>?_;subst he;refine⟨Nl.keeps x.toInCall.keep,codeAny_func ?_⟩;obtain⟨t,ht,hq⟩:=a9 A outer s H vs Q E (hr.deeper _) p8;have I:Inv (cxOf CX P w K mg base N qual scope f cdv A outer s H E) [] (start N vs) H s1:=vq S hr.hd e0 hl r x;refine Pn (ht [] s1 (start N vs) H _ I hq) (λfl s' hs=>?_) λe s' hs=>hs;have d8:∀ {σ':St} {H':Hp} {v:V} {u:KB},Inv (cxOf CX P w K mg base N qual scope f cdv A outer s H E) [] σ' H' s'->RelV v u->Q v H'->CE outer P w H s Q u s':=
  λ{σ' H' v u} J rv q=>⟨v,H',J.os,J.bare,J.base,J.hok,rv,q⟩
 cases fl with
 |ret u=>
  obtain⟨v,σ',H',J,rv,q⟩:=hs;exact d8 J rv q
 |next=>
  obtain⟨σ',H',J,q⟩:=hs;exact d8 (v:=V.non) (u:=Value.none) J rfl q
 |brk=>
  obtain⟨_,_,_,q⟩:=hs;exact False.elim q
 |cont=>
  obtain⟨_,_,_,q⟩:=hs;exact False.elim q
section
variable {X:Cx}{x:x9}{p pos:Pm}{e:O_}{es:List O_}{t:TA}{id T:String}{r:List V->Hp->VK->Prop}
def tCB(r:List V->Hp->VK->Prop)(t:TA):TE:=λσ H Q=>t σ H λvs H1=>r vs H1 Q
def fP(hc:bz X (.builtin id) r)(hg:Gl X x)(hm:X.mg x=q_)(hv:Pr x=be (.builtin id))(ha:PA X (e::es) t)(hn:autoParam (x≠"__name__") zA1)(d6:autoParam (zND x) zA1)
  (he:autoParam (zSE X e es) zA0) (c5:autoParam (zPL X pos es) zA0):PE X (.Call (.Name x p) (e::es) [] pos) (tCB r t):=by
 intro pins s σ H Q I h;refine Po (cS I hg hm hv ?_ hn d6);exact PyProof.Rows.callWith_builtin1 (thn (ha pos pins s σ H _ I h) λus s1 ⟨vs,H1,I1,r1,q1⟩=>hc pins s1 σ H1 vs us Q I1 r1 q1) he c5
def oX(hc:bz X (.type T) r)(hg:Gl X x)(hm:X.mg x=q_)(hv:Pr x=be (.type T))(ha:PA X (e::es) t)(hn:autoParam (x≠"__name__") zA1)(d6:autoParam (zND x) zA1)
  (he:autoParam (zSE X e es) zA0) (c5:autoParam (zPL X pos es) zA0):PE X (.Call (.Name x p) (e::es) [] pos) (tCB r t):=by
 intro pins s σ H Q I h;refine Po (cS I hg hm hv ?_ hn d6);exact PyProof.Rows.callWith_type1 (thn (ha pos pins s σ H _ I h) λus s1 ⟨vs,H1,I1,r1,q1⟩=>hc pins s1 σ H1 vs us Q I1 r1 q1) he c5
end
end L2
namespace HT
open PySem PyProof.Rows
section
variable {prog:O9}{w:Pe}{A:Pf}{E:KB->KM->Prop}{s:KM}
variable{Q:KB->KM->Prop}
def cat_tup{t b:KF}{vs ws:List KB}(ht:IsTup s.heap t vs.toArray)(hb:IsTup s.heap b ws.toArray)(hv:vs≠[])
  (h1:ws=[]->Q (.ref t) s) (h2:ws≠[]->Q (.ref s.heap.objs.size) {s with heap:=s.heap.push {cls:= .type "tuple",data:= .seq (vs++ws).toArray} })
  (gt:vs.length+ws.length<=sizeLine):Pd (Pc prog w) A (Pw .Add (.ref t) (.ref b)) Q E s:=by
 obtain⟨⟨cls,dd,data,sl⟩,ho,hc,n,hd⟩:=id ht;obtain⟨⟨Nm,Mb,data2,Mc⟩,JE,Md,n2,HM⟩:=id hb;simp only at hc hd Md HM;subst hc hd Md HM;have e:vs.toArray++ws.toArray=(vs++ws).toArray:=by simp
 by_cases hw:ws=[]
 .exact concat_meets ⟨_,ho,rfl⟩ ⟨_,JE,rfl⟩ noFill_tuple_add seq_tuple_add PySem.F.slot_tuple_add PySem.F.entry_tuple_add (PySem.F.args_tuple_add_2 _ _)
   (tuple_addW1 t b vs.toArray ws.toArray n n2 dd Mb sl Mc (by simpa using hv) (by simp[hw])) ⟨ho,JE,h1 hw⟩
 .refine concat_meets ⟨_,ho,rfl⟩ ⟨_,JE,rfl⟩ noFill_tuple_add seq_tuple_add PySem.F.slot_tuple_add PySem.F.entry_tuple_add (PySem.F.args_tuple_add_2 _ _)
   (tuple_addW2 t b vs.toArray ws.toArray n n2 dd Mb sl Mc (by simpa using hv) (by simpa using hw) (by rw[D1,D1];exact gt)) ⟨ho,JE,?_⟩
  rw[e];exact h2 hw
def sIx(n d:Nat):Option Int->Nat
 |none=>d
 |some v=>if v<0 then(v+(n:Int)).toNat else min v.toNat n
def sIx_le(n d:Nat)(hd:d<=n)(o:Option Int):sIx n d o<=n:=by
 cases o with
 |none=>exact hd
 |some v=>
  show(if v<0 then(v+(n:Int)).toNat else min v.toNat n)<=n;by_cases hv:v<0
  .rw[if_pos hv];lia
  .rw[if_neg hv];exact Nat.min_le_right _ _
def oY(v:Int)(n d:Nat):(if v<0 then max (v+(n:Int)) 0 else min v (n:Int))=((sIx n d (be v):Nat):Int):=by
 show(if v<0 then max (v+(n:Int)) 0 else min v (n:Int))=(((if v<0 then(v+(n:Int)).toNat else min v.toNat n):Nat):Int);by_cases hv:v<0
 .simp only[if_pos hv];lia
 .simp only[if_neg hv];lia
def vt(lo hi:Option Int)(n:Nat):Builtin.Slice.sliceAdjust lo hi 1 (n:Int)=(((sIx n 0 lo:Nat):Int),((sIx n n hi:Nat):Int)):=by
 have h1:¬ ((1:Int)<0):=by lia
 unfold Builtin.Slice.sliceAdjust;simp only[h1,if_false];refine Prod.ext ?_ ?_
 .cases lo with
  |none=>rfl
  |some v=>exact oY v n 0
 .cases hi with
  |none=>rfl
  |some v=>exact oY v n n
def vw(i j:Nat):Builtin.Slice.slicePlaces (i:Int) (j:Int) 1=j - i:=by
 unfold Builtin.Slice.slicePlaces;have h1:(1:Int)>0:=by lia
 simp only[h1,if_true,Int.ediv_one];split<;>lia
def oZ{v:KB}{o:Option Int}{Q:Option Int->KM->Prop}(p:Qm v o)(h:Q o s):Pd (Pc prog w) A (Builtin.Slice.slicePartIndex v) Q E s:=by
 cases p with
 |none=>exact slicePart_none h
 |int i t=>exact slicePart_int h
variable{lo hi:Option Int}
def vx{sl:KF}{vl vu:KB}{n:Nat}{Q:Int × Int × Nat->KM->Prop}(hs:s.heap.IsSliceOf sl vl vu .none)(pl:Qm vl lo)(pu:Qm vu hi)
  (h:Q (((sIx n 0 lo:Nat):Int),1,sIx n n hi - sIx n 0 lo) s):Pd (Pc prog w) A (Builtin.Slice.sliceApplied (.ref sl) (pure (n:Int))) Q E s:=by
 obtain⟨os,x_,Me,JF⟩:=id hs;unfold Builtin.Slice.sliceApplied Builtin.Slice.sliceFields;refine Os (Os (PK x_ JF (x:=vl) rfl (Os (PK x_ JF (x:=vu) rfl (Os (PK x_ JF (x:= .none) rfl (Pa ?_)))))));refine Os (slicePart_none ?_);show Pd _ _ (if((1:Int)==0)=true then _ else _) _ _ s;rw[if_neg (by decide)];refine Os (oZ pl (Os (oZ pu (Os (Pa ?_)))));show Pd _ _ (match Builtin.Slice.sliceAdjust lo hi 1 (n:Int) with|(lo,hi)=>pure (lo,(1:Int),Builtin.Slice.slicePlaces lo hi 1)) _ _ s;rw[vt lo hi n];show Pd _ _ (pure (((sIx n 0 lo:Nat):Int),(1:Int),Builtin.Slice.slicePlaces ((sIx n 0 lo:Nat):Int) ((sIx n n hi:Nat):Int) 1)) _ _ s;rw[vw];exact Pa h
def vy(xs:Array KB)(i k:Nat):((DV k).filterMap λ(m:Nat)=>xs[((i:Int)+(m:Int)*1).toNat]?).toArray=((xs.toList.drop i).take k).toArray:=by
 have e:(λ(m:Nat)=>xs[((i:Int)+(m:Int)*1).toNat]?)=λm=>xs[i+m]?:=by
  funext m;have:((i:Int)+(m:Int)*1).toNat=i+m:=by lia
  rw[this]
 rw[e];have:=pick_run xs i k;rw[Gn] at this;have e2:((λx=>xs[x]?) ∘ λx=>i+x)=λm=>xs[i+m]?:=rfl;rw[e2] at this;rw[this]
def getItem_tuple_cut{t sl:KF}{items:Array KB}{vl vu:KB}(ht:IsTup s.heap t items)(hs:s.heap.IsSliceOf sl vl vu .none)(pl:Qm vl lo)(pu:Qm vu hi)
  (hw:¬ (sIx items.size 0 lo=0/\sIx items.size items.size hi=items.size))
  (h:Q (.ref s.heap.objs.size) {s with heap:=s.heap.push {cls:= .type "tuple",data:= .seq ((items.toList.drop (sIx items.size 0 lo)).take (sIx items.size items.size hi - sIx items.size 0 lo)).toArray} })
  (gt:items.size<=sizeLine):Pd (Pc prog w) A (Qz (.ref t) (.ref sl)) Q E s:=by
 have o7:sizeOk (.seq ((items.toList.drop (sIx items.size 0 lo)).take (sIx items.size items.size hi - sIx items.size 0 lo)).toArray):=by
  show((items.toList.drop (sIx items.size 0 lo)).take (sIx items.size items.size hi - sIx items.size 0 lo)).toArray.size<=sizeLine;rw[D1,FA,Fi,E4];lia
 have hj:sIx items.size items.size hi<=items.size:=sIx_le _ _ (DU _) hi;obtain⟨os,x_,Me,JF⟩:=id hs;have Nn:s.TypeIs (.ref sl) "slice":=⟨os,x_,Me⟩;unfold Qz
 try with_reducible refine Qs ?_
 first|refine Os (Pa ?_)|skip
 refine Os (wpAny_sequenceKey ht.typeIs (by decide) ?_);refine Os (wpAny_callSpecial?_slot (name:=Str.ofString "__getitem__") ht.typeIs PyProof.Rows.slot_tuple_getitem
  (wpAny_call_entry PyProof.Rows.slot_tuple_getitem ht.typeIs entry_tuple_getitem ?_ (args_tuple_getitem _ _)))
 show Pd _ _ (Builtin.Tuple.tupleItemsOf (.ref t)>>=_) _ _ s;refine Os (tupleItemsOf_ ht ?_);refine Os (wpAny_typeOf Nn ?_);rw[if_pos (by decide)];refine Os (vx hs pl pu ?_);have c_:¬ ((((sIx items.size 0 lo:Nat):Int)==0 && (1:Int)==1 && (sIx items.size items.size hi - sIx items.size 0 lo)==items.size)=true):=by
  intro q;rw[Ek,Ek] at q;have q1:((sIx items.size 0 lo:Nat):Int)=0:=eq_of_beq q.1.1;have q2:sIx items.size items.size hi - sIx items.size 0 lo=items.size:=eq_of_beq q.2;exact hw ⟨by lia,by lia⟩
 show Pd _ _ (if(((sIx items.size 0 lo:Nat):Int)==0 && (1:Int)==1 && (sIx items.size items.size hi - sIx items.size 0 lo)==items.size)=true then _ else _) _ _ s;rw[if_neg c_,vy]
 first
  |exact Os (m:=Builtin.Tuple.tupleExact _) (Pq (Pa ⟨_,rfl,Pa h⟩) o7)
  |exact Os (m:=Builtin.Tuple.tupleExact _) (Pq (Os (Pa (Pa ⟨_,rfl,Pa h⟩))) o7)
  |exact Os (Os (m:=Builtin.Tuple.tupleExact _) (Pq (Pa (Pa ⟨_,rfl,Pa h⟩)) o7))
  |exact Os (Os (m:=Builtin.Tuple.tupleExact _) (Pq (Pa ⟨_,rfl,Pa h⟩) o7))
end
end HT
namespace L2
open PySem PySem.Spec PyProof.Rows
abbrev TO:=St->Hp->(Option Int->Hp->Prop)->Prop
def PO(X:Cx)(e:Option O_)(t:TO):Prop:=
 ∀ (pins:List (KF × Pu)) (s:KM) (σ:St) (H:Hp) (Q:Option Int->Hp->Prop),Inv X pins σ H s->t σ H Q->
  Pd (Pc X.prog X.w) X.A (evalPart e X.env) (λu s'=>∃ o H',Inv X pins σ H' s'/\Qm u o/\Q o H') X.xe s
def vz:TO:=λ_ H Q=>Q q_ H
def vA(t:TE):TO:=λσ H Q=>t σ H λx H1=>∃ i,x= .int i/\Q (be i) H1
def intsAre_of{ns:List Int}:∀ {us:List KB},Vals (ns.map V.int) us->Qh us ns:=by
 induction ns with
 |nil=>intro us r;rw[EO] at r;cases r;exact .nil
 |cons n ns ih=>
  intro us r;rw[Eb] at r;cases r with
  |cons r1 r2=>
   obtain⟨t,e⟩:=r1;subst e;exact .cons n t (ih r2)
section
variable {X:Cx}{e:O_}{te:TE}{lo hi:Option O_}{tl th:TO}{pos p2:Pm}
def vB:PO X q_ vz:=by
 intro pins s σ H Q I h;rw[evalPart_none];exact Pa ⟨q_,H,I,.none,h⟩
def vC(h:PE X e te):PO X (be e) (vA te):=by
 intro pins s σ H Q I hw;rw[evalPart_some];refine thn (h pins s σ H _ I hw) λu s1 b8=>?_;obtain⟨x,H1,I1,r1,q1⟩:=b8;obtain⟨i,rfl,q⟩:=q1;obtain⟨t,rfl⟩:=r1;exact⟨be i,H1,I1,.int i t,q⟩
def SlR(X:Cx)(r:V->Option Int->Option Int->Hp->VK->Prop):Prop:=
 ∀ (pins:List (KF × Pu)) (s:KM) (σ:St) (H:Hp) (x:V) (v vl vu:KB) (lo hi:Option Int) (sl:KF) (Q:VK),Inv X pins σ H s->RelV x v->s.heap.IsSliceOf sl vl vu .none->Qm vl lo->Qm vu hi->r x lo hi H Q->
  ∃ T id,typeLookup (.type T) "__getitem__"=pure (be (.builtin id))/\s.TypeIs v T/\Pd (Pc X.prog X.w) X.A (Qz v (.ref sl)) (EP X pins σ Q) X.xe s
variable{r:V->Option Int->Option Int->Hp->VK->Prop}
def SlR.or{r':V->Option Int->Option Int->Hp->VK->Prop}(h:SlR X r)(h':SlR X r'):SlR X (λx lo hi H Q=>r x lo hi H Q\/r' x lo hi H Q):=by
 intro pins s σ H x v vl vu lo hi sl Q I rx hs pl pu q;rcases q with q|q
 .exact h pins s σ H x v vl vu lo hi sl Q I rx hs pl pu q
 .exact h' pins s σ H x v vl vu lo hi sl Q I rx hs pl pu q
def tSl(r:V->Option Int->Option Int->Hp->VK->Prop)(te:TE)(tl th:TO):TE:=λσ H Q=>te σ H λx H1=>tl σ H1 λl H2=>th σ H2 λu H3=>r x l u H3 Q
def vD(hr:SlR X r)(he:PE X e te)(hl:PO X lo tl)(hu:PO X hi th):PE X (.Subscript e (.Slice lo hi q_ p2) pos) (tSl r te tl th):=by
 intro pins s σ H Q I h;refine Subscript_ (thn (he pins s σ H _ I h) λv s1 b8=>?_);obtain⟨x,H1,I1,r1,q1⟩:=b8;refine wpAny_Slice (thn (hl pins s1 σ H1 _ I1 q1) λvl s2 ⟨l,H2,I2,pl,q2⟩=>thn (hu pins s2 σ H2 _ I2 q2) λvu s3 b8=>?_);obtain⟨u,H3,I3,pu,q3⟩:=b8;rw[evalPart_none];refine Pa ?_;have I4:Inv X pins σ H3 {s3 with heap:=s3.heap.push {cls:= .type "slice",data:= .fields #[vl,vu,.none]} }:=I3.kept (t':=s3.toks) λb ob q=>Heap.get?_push_of_some _ q;obtain⟨T,id,hT,ht,hg⟩:=hr pins {s3 with heap:=s3.heap.push {cls:= .type "slice",data:= .fields #[vl,vu,.none]} } σ H3 x v vl vu l u s3.heap.objs.size Q I4 r1 (Heap.IsSliceOf.new ..) pl pu q3;show Pd (Pc X.prog X.w) X.A (subscriptTail e (.Slice lo hi q_ p2) v (.ref s3.heap.objs.size)) (EP X pins σ Q) X.xe {s3 with heap:=s3.heap.push {cls:= .type "slice",data:= .fields #[vl,vu,.none]} };exact tail_any (ops:=[.ref s3.heap.objs.size,v]) ht hT hg (by with_unfolding_all rfl)
def cutV(xs:List V)(lo hi:Option Int):List V:=(xs.drop (HT.sIx xs.length 0 lo)).take (HT.sIx xs.length xs.length hi - HT.sIx xs.length 0 lo)
def pd(xs:List V)(lo hi:Option Int):(cutV xs lo hi).length<=xs.length:=by
 unfold cutV;rw[FA,Fi];lia
def rSlT(K:DR):V->Option Int->Option Int->Hp->VK->Prop:=λx lo hi H Q=>∃ a xs,x= .ref a/\SqT K H a xs/\
 ¬ (HT.sIx xs.length 0 lo=0/\HT.sIx xs.length xs.length hi=xs.length)/\∀ p,H p=q_->Q (.ref p) (upd H p (.tup (cutV xs lo hi)))
def vE:SlR X (rSlT X.K):=by
 intro pins s σ H x v vl vu lo hi sl Q I rx hs pl pu h;obtain⟨a,xs,rfl,hx,hw,q⟩:=h;cases rx;obtain⟨its,r,ht,hz⟩:=I.tuple hx;have a_:its.toArray.size=xs.length:=by rw[D1];exact r.length.symm
 refine⟨"tuple",_,PyProof.Rows.slot_tuple_getitem.lookup,ht.typeIs,?_⟩;refine HT.getItem_tuple_cut ht hs pl pu (by rw[a_];exact hw) ?_ (by rw[a_];exact hz);rw[a_];refine⟨.ref s.heap.objs.size,_,I.laid (t':=s.toks) (o:= .tup (cutV xs lo hi)) (λb ob q=>Heap.get?_push_of_some _ q) (DU _) ?_,rfl,q _ (I.hok.fresh (DU _))⟩;exact⟨D9 (pd xs lo hi) hz,_,(r.drop (HT.sIx xs.length 0 lo)).take (HT.sIx xs.length xs.length hi - HT.sIx xs.length 0 lo),IsTup.new _ _⟩
def pe(K:DR):R2:=λx y H Q=>∃ a b xs ys,x= .ref a/\y= .ref b/\SqT K H a xs/\SqT K H b ys/\xs≠[]/\xs.length+ys.length<=sizeLine/\
 (ys=[]->Q (.ref a) H)/\(ys≠[]->∀ p,H p=q_->Q (.ref p) (upd H p (.tup (xs++ys))))
def Vals.nil_iff{xs:List V}{us:List KB}(r:Vals xs us):us=[]↔xs=[]:=by
 cases r with
 |nil=>simp
 |cons _ _=>simp
def vF:OpR X (Pw .Add) (pe X.K):=by
 intro pins s σ H x y v u Q I rx ry h;obtain⟨a,b,xs,ys,rfl,rfl,ha,hb,hx,hz,q1,q2⟩:=h;cases rx;cases ry;obtain⟨its,r1,p1,_⟩:=I.tuple ha;obtain⟨d7,r2,p2,_⟩:=I.tuple hb;refine HT.cat_tup p1 p2 (λz=>hx (r1.nil_iff.mp z)) (λz=>⟨.ref a,H,I,rfl,q1 (r2.nil_iff.mp z)⟩) (λz=>?_) (by rw[<- r1.length,<- r2.length];exact hz);refine⟨.ref s.heap.objs.size,_,I.laid (t':=s.toks) (o:= .tup (xs++ys)) (λb ob q=>Heap.get?_push_of_some _ q) (DU _) ?_,rfl,q2 (λw=>z (r2.nil_iff.mpr w)) _ (I.hok.fresh (DU _))⟩;exact⟨by rw[D7];exact hz,_,r1.append r2,IsTup.new _ _⟩
end
def ixN(n:Nat)(i:Int):Option Nat:=if 0<=i then(if i<n then be i.toNat else q_) else if -(n:Int)<=i then be (i+n).toNat else q_
def atI{α:Type}(xs:List α)(i:Int):Option α:=(ixN xs.length i).bind λj=>xs[j]?
def vG{n:Nat}{i:Int}{j:Nat}(h:ixN n i=be j):seqIndex? i n=be j/\j<n/\-(n:Int)<=i/\i<n:=by
 unfold ixN at h;by_cases h0:0<=i
 .rw[if_pos h0] at h;by_cases h1:i<n
  .rw[if_pos h1] at h;have e:i.toNat=j:=Option.some.inj h;exact⟨by rw[seqIndex_of h0 h1,e],by lia,by lia,h1⟩
  .rw[if_neg h1] at h;cases h
 .rw[if_neg h0] at h;by_cases h1: -(n:Int)<=i
  .rw[if_pos h1] at h;have e:(i+n).toNat=j:=Option.some.inj h;exact⟨by rw[seqIndex_neg (by lia) h1,e],by lia,h1,by lia⟩
  .rw[if_neg h1] at h;cases h
def atI_get{α:Type}{xs:List α}{i:Int}{v:α}(h:atI xs i=be v):∃ j,seqIndex? i xs.length=be j/\xs[j]?=be v/\j<xs.length/\-(xs.length:Int)<=i/\i<xs.length:=by
 unfold atI at h;cases e:ixN xs.length i with
 |none=>rw[e] at h;cases h
 |some j=>
  rw[e] at h;obtain⟨h1,h2,h3,h4⟩:=vG e;exact⟨j,h1,h,h2,h3,h4⟩
def cv{α:Type}{xs:List α}{j:Nat}{v:α}(h:xs[j]?=be v):atI xs (j:Int)=be v:=by
 have hj:j<xs.length:=(Ec.mp h).1;have e:ixN xs.length (j:Int)=be j:=by
  unfold ixN;rw[if_pos (by lia),if_pos (by lia)];simp
 unfold atI;rw[e];exact h
def eX(b:O_):Prop:=∀ o i,subscripted b false o i=operate [o,i] (Qz o i)
def IxR(X:Cx)(r:R2):Prop:=
 ∀ (value slice:O_) (pins:List (KF × Pu)) (s:KM) (σ:St) (H:Hp) (x y:V) (v u:KB) (Q:VK),Inv X pins σ H s->RelV x v->RelV y u->r x y H Q->
  subscripted slice false v u=operate [v,u] (Qz v u)->Pd (Pc X.prog X.w) X.A (subscriptTail value slice v u) (EP X pins σ Q) X.xe s
def MtR(X:Cx)(id:String)(r:V->List V->Hp->VK->Prop):Prop:=
 ∀ (pins:List (KF × Pu)) (s:KM) (σ:St) (H:Hp) (x:V) (xs:List V) (v:KB) (us:List KB) (Q:VK),Inv X pins σ H s->RelV x v->Vals xs us->r x xs H Q->
  Pd (Pc X.prog X.w) X.A (call (.builtin id) (v::us)) (EP X pins σ Q) X.xe s
section
variable {X:Cx}{a b:O_}{ta tb:TE}{pos:Pm}
def IxR.or{r r':R2}(h:IxR X r)(h':IxR X r'):IxR X (λx y H Q=>r x y H Q\/r' x y H Q):=by
 intro value slice pins s σ H x y v u Q I rx ry q hs;rcases q with q|q
 .exact h value slice pins s σ H x y v u Q I rx ry q hs
 .exact h' value slice pins s σ H x y v u Q I rx ry q hs
def pe_ix{r:R2}(hr:IxR X r)(ha:PE X a ta)(hb:PE X b tb)(hs:eX b):PE X (.Subscript a b pos) (tOp r ta tb):=by
 intro pins s σ H Q I h;exact Subscript_ (binT ha hb I h λv u s2 x y H2 I2 rx ry q=>hr a b pins s2 σ H2 x y v u Q I2 rx ry q (hs _ _))
def rIxL(K:DR):R2:=λx y H Q=>∃ p xs i v,x= .ref p/\y= .int i/\SqL K H p xs/\atI xs i=be v/\Q v H
def rIxT(K:DR):R2:=λx y H Q=>∃ p xs i v,x= .ref p/\y= .int i/\SqT K H p xs/\atI xs i=be v/\Q v H
def rIxS:R2:=λx y H Q=>∃ z i c,x= .str z/\y= .int i/\z.length<=sizeLine/\atI z.cps.toList i=be c/\Q (.str ⟨#[c]⟩) H
def ix_list:IxR X (rIxL X.K):=by
 intro value slice pins s σ H x y v u Q I rx ry h hs;obtain⟨p,xs,i,z,rfl,rfl,hq,he,q⟩:=h;cases rx;obtain⟨t,rfl⟩:=ry;obtain⟨its,r,pl,hz⟩:=I.list hq;obtain⟨j,h1,h2,h3,h4,h5⟩:=atI_get he;obtain⟨w,ew,k7⟩:=r.get h2;have hl:=r.length;have hn:=line63;have d8:EP X pins σ Q w s:=⟨z,H,I,k7,q⟩;by_cases h0:0<=i
 .have hj:i.toNat=j:=by
   rw[seqIndex_of h0 h5] at h1;exact Option.some.inj h1
  exact item_listR pl.isList h0 (by lia) (by rw[hj];simpa using ew) d8 hs
 .have hj:(i+(its.toArray.size:Int)).toNat=j:=by
   rw[seqIndex_neg (by lia) h4] at h1;rw[D1,<- hl];exact Option.some.inj h1
  exact Qw (x:=w) pl.isList.typeIs slot_list_getitem.lookup
   (wpAny_getItem_list_neg (Q:=λr s'=>r=w/\EP X pins σ Q r s') pl.isList (by lia) (by rw[D1]<;>lia) (by lia) (by rw[hj];simpa using ew) ⟨rfl,d8⟩) hs
def ix_tup:IxR X (rIxT X.K):=by
 intro value slice pins s σ H x y v u Q I rx ry h hs;obtain⟨p,xs,i,z,rfl,rfl,hq,he,q⟩:=h;cases rx;obtain⟨t,rfl⟩:=ry;obtain⟨its,r,pl,hz⟩:=I.tuple hq;obtain⟨j,h1,h2,h3,h4,h5⟩:=atI_get he;obtain⟨w,ew,k7⟩:=r.get h2;have hl:=r.length;have hn:=line63;have d8:EP X pins σ Q w s:=⟨z,H,I,k7,q⟩;exact Qw (x:=w) pl.typeIs slot_tuple_getitem.lookup
  (getItem_tuple (j:=j) (Q:=λr s'=>r=w/\EP X pins σ Q r s') pl (by lia) (by lia) (by rw[D1,<- hl];exact h1) (by simpa using ew) ⟨rfl,d8⟩) hs
def vH:IxR X rIxS:=by
 intro value slice pins s σ H x y v u Q I rx ry h hs;obtain⟨z,i,c,rfl,rfl,hz,he,q⟩:=h;obtain⟨t,rfl⟩:=rx;obtain⟨t',rfl⟩:=ry;obtain⟨j,h1,h2,h3,h4,h5⟩:=atI_get he;have hl:z.cps.toList.length=z.length:=by simp[Str.length]
 rw[hl] at h1 h4 h5;have hn:=line63;exact tail_any (QL s z t) slot_str_getitem.lookup (getItem_str (c:=c) (by
  have e1:decide (i< -(2 ^ 63:Int))=false:=decide_eq_false (by lia);have e2:decide (i >= 2 ^ 63)=false:=decide_eq_false (by lia);rw[e1,e2,Bool.or_false]) (by rw[h1];simpa using h2) ⟨.str ⟨#[c]⟩,H,I.tok _,⟨_,rfl⟩,q⟩) hs
def rIx(K:DR):R2:=λx y H Q=>rIxL K x y H Q\/rIxT K x y H Q\/rIxS x y H Q
def pf:IxR X (rIx X.K):=ix_list.or (ix_tup.or vH)
def Inv.lst{pins:List (KF × Pu)}{σ:St}{H:Hp}{s:KM}{p:KF}{xs:List V}(I:Inv X pins σ H s)(h:H p=be (.lst xs)):
  ∃ (its:List KB) (n:Nat),Vals xs its/\s.heap.get? p=be {cls:= .type "list",data:= .seq its.toArray n}/\xs.length<=sizeLine:=by
 obtain⟨z,its,n,r,e⟩:=I.hok p _ h;exact⟨its,n,r,e,z⟩
def vI(lo hi:Option Int)(n:Nat):(PL lo hi q_ n).1=((HT.sIx n 0 lo:Nat):Int)/\(PL lo hi q_ n).2.1=((HT.sIx n n hi:Nat):Int)/\(PL lo hi q_ n).2.2=1:=by
 refine⟨?_,?_,rfl⟩
 .cases lo with
  |none=>simp[PL,HT.sIx]
  |some i=>
   simp only[PL,HT.sIx,Go,show(1:Int)>0 by decide,if_true];by_cases h:i<0
   .simp only[h,if_true]<;>lia
   .simp only[h,if_false]<;>lia
 .cases hi with
  |none=>simp[PL,HT.sIx]
  |some i=>
   simp only[PL,HT.sIx,Go,show(1:Int)>0 by decide,if_true];by_cases h:i<0
   .simp only[h,if_true]<;>lia
   .simp only[h,if_false]<;>lia
def vJ(its:List KB)(lo hi:Option Int):slicePick its.toArray lo hi q_=((its.drop (HT.sIx its.length 0 lo)).take (HT.sIx its.length its.length hi - HT.sIx its.length 0 lo)).toArray:=by
 obtain⟨h1,h2,h3⟩:=vI lo hi its.toArray.size;unfold slicePick;rw[h1,h2,h3];simp only[sliceRange_one,pick_run,D1]<;>rfl
def rSlL(K:DR):V->Option Int->Option Int->Hp->VK->Prop:=λx lo hi H Q=>∃ a xs,x= .ref a/\SqL K H a xs/\∀ p,H p=q_->Q (.ref p) (upd H p (.lst (cutV xs lo hi)))
def vK:SlR X (rSlL X.K):=by
 intro pins s σ H x v vl vu lo hi sl Q I rx hs pl pu h;obtain⟨a,xs,rfl,hx,q⟩:=h;cases rx;obtain⟨its,r,ht,hz⟩:=I.list hx;have a_:=r.length;refine⟨"list",_,slot_list_getitem.lookup,ht.isList.typeIs,?_⟩;refine wpAny_getItem_list_slice ht.isList hs pl pu .none (by simp) ?_ (by rw[D1]<;>lia);rw[vJ,<- a_];refine⟨.ref s.heap.objs.size,_,I.laid (t':=s.toks) (o:= .lst (cutV xs lo hi)) (λb ob q=>Heap.get?_push_of_some _ q) (DU _) ?_,rfl,q _ (I.hok.fresh (DU _))⟩;exact⟨D9 (pd xs lo hi) hz,_,0,(r.drop (HT.sIx xs.length 0 lo)).take (HT.sIx xs.length xs.length hi - HT.sIx xs.length 0 lo),Heap.get?_push_size _ rfl⟩
def bp:V->Bool
 | .non=>true
 | .bl _=>true
 | .int _=>true
 | .str _=>true
 |_=>false
def eqV:V->V->Bool
 | .non,.non=>true
 | .bl a,.bl b=>a==b
 | .bl a,.int b=>(if a then 1 else 0)==b
 | .int a,.bl b=>a==(if b then 1 else 0)
 | .int a,.int b=>a==b
 | .str a,.str b=>a==b
 |_,_=>false
variable{x:V}
def eqAt_V{A:Pf}{s:KM}{y:V}{u v:KB}(ry:RelV y u)(rx:RelV x v)(fy:bp y=true)(fx:bp x=true):SeqAt.EqAt A s u v (eqV y x):=by
 cases y with
 |non=>
  cases ry;cases x with
  |non=>cases rx;exact SeqAt.EqAt.same _
  |bl b=>cases rx;exact SeqAt.EqAt.none_bool b
  |int b=>obtain⟨t,rfl⟩:=rx;exact SeqAt.EqAt.none_int b t
  |str b=>obtain⟨t,rfl⟩:=rx;exact SeqAt.EqAt.none_str b t
  |_=>exact absurd (show false=true from fx) D6
 |bl a=>
  cases ry;cases x with
  |non=>cases rx;exact SeqAt.EqAt.bool_none a
  |bl b=>cases rx;exact SeqAt.EqAt.bool_bool a b
  |int b=>obtain⟨t,rfl⟩:=rx;exact SeqAt.EqAt.bool_int a b t
  |str b=>obtain⟨t,rfl⟩:=rx;exact SeqAt.EqAt.bool_str a b t
  |_=>exact absurd (show false=true from fx) D6
 |int a=>
  obtain⟨t',rfl⟩:=ry;cases x with
  |non=>cases rx;exact SeqAt.EqAt.int_none a t'
  |bl b=>cases rx;exact SeqAt.EqAt.int_bool a t' b
  |int b=>obtain⟨t,rfl⟩:=rx;exact SeqAt.EqAt.int_int a t' b t
  |str b=>obtain⟨t,rfl⟩:=rx;exact SeqAt.EqAt.int_str a t' b t
  |_=>exact absurd (show false=true from fx) D6
 |str a=>
  obtain⟨t',rfl⟩:=ry;cases x with
  |non=>cases rx;exact SeqAt.EqAt.str_none a t'
  |bl b=>cases rx;exact SeqAt.EqAt.str_bool a t' b
  |int b=>obtain⟨t,rfl⟩:=rx;exact SeqAt.EqAt.str_int a t' b t
  |str b=>obtain⟨t,rfl⟩:=rx;exact SeqAt.EqAt.str_str a t' b t
  |_=>exact absurd (show false=true from fx) D6
 |_=>exact absurd (show false=true from fy) D6
def eqU(x:V)(u:KB):Bool:=match u with
 | .none=>eqV .non x
 | .bool b=>eqV (.bl b) x
 | .int i _=>eqV (.int i) x
 | .str z _=>eqV (.str z) x
 |_=>false
def ph{y:V}{u:KB}(r:RelV y u)(f:bp y=true):eqU x u=eqV y x:=by
 cases y with
 |non=>cases r;rfl
 |bl b=>cases r;rfl
 |int i=>obtain⟨t,rfl⟩:=r;rfl
 |str z=>obtain⟨t,rfl⟩:=r;rfl
 |_=>exact absurd (show false=true from f) D6
def jg{x:V}:∀ {xs:List V} {us:List KB},Vals xs us->xs.all bp=true->us.any (eqU x)=xs.any λy=>eqV y x
 |_,_,.nil,_=>rfl
 |y::xs,u::us,.cons r t,f=>by
  rw[EI,Ek] at f;rw[E8,E8,ph r f.1,jg t f.2]
def mem_eqAt{A:Pf}{s:KM}{x:V}{v:KB}(rx:RelV x v)(fx:bp x=true):∀ {xs:List V} {us:List KB},Vals xs us->xs.all bp=true->∀ u∈us,SeqAt.EqAt A s u v (eqU x u)
 |_,_,.nil,_=>λu hu=>by cases hu
 |y::xs,u::us,.cons r t,f=>λu' hu=>by
  rw[EI,Ek] at f;rcases D2.mp hu with rfl|hu
  .rw[ph r f.1];exact eqAt_V r rx f.1 fx
  .exact mem_eqAt rx fx t f.2 u' hu
def inV(x:V)(xs:List V):Bool:=xs.any λy=>eqV y x
def rIn(K:DR)(neg:Bool):R2:=λx y H Q=>∃ p xs,y= .ref p/\(SqL K H p xs\/SqT K H p xs)/\bp x=true/\xs.all bp=true/\Q (.bl (if neg then !inV x xs else inV x xs)) H
def vL:OpR X (Pp .NotIn) (rIn X.K true):=by
 intro pins s σ H x y v u Q I rx ry h;obtain⟨p,xs,rfl,hq,fx,fs,q⟩:=h;cases ry;rcases hq with hq|hq
 .obtain⟨its,r,pl,hz⟩:=I.list hq;refine SeqAt.notIn_listAt (eqU x) pl.isList (λw hw=>mem_eqAt rx fx r fs w (by simpa using hw)) ⟨.bl _,H,I,rfl,?_⟩;rw[show its.toArray.any (eqU x)=its.any (eqU x) by simp,jg r fs];exact q
 .obtain⟨its,r,pl,hz⟩:=I.tuple hq;refine SeqAt.notIn_tupleAt (eqU x) pl (λw hw=>mem_eqAt rx fx r fs w (by simpa using hw)) ⟨.bl _,H,I,rfl,?_⟩;rw[show its.toArray.any (eqU x)=its.any (eqU x) by simp,jg r fs];exact q
def vM:OpR X (Pp .NotIn) (λx y H Q=>∃ i j,x= .str i/\y= .str j/\Q (.bl (!(!(Builtin.Str.occurrences j i 0 j.length 1).isEmpty))) H):=by
 intro pins s σ H x y v u Q I rx ry h;obtain⟨i,j,rfl,rfl,q⟩:=h;obtain⟨t,rfl⟩:=rx;obtain⟨t',rfl⟩:=ry;exact notIn_str ⟨.bl _,H,I,rfl,q⟩
def vN:bz X (.type "list") (λxs H Q=>∃ p ys,xs=[.ref p]/\(SqL X.K H p ys\/SqT X.K H p ys)/\∀ l,H l=q_->Q (.ref l) (upd H l (.lst ys))):=by
 intro pins s σ H xs us Q I r h;obtain⟨p,ys,rfl,hq,q⟩:=h;obtain⟨u,rfl,rx⟩:=bQ r;cases rx;have d8:∀ (its:List KB),Vals ys its->ys.length<=sizeLine->∀ (h':Heap) (c':Nat),(∀ b o',s.heap.get? b=be o'->h'.get? b=be o')->
   h'.get? s.heap.objs.size=be {cls:= .type "list",dict:=q_,data:= .seq its.toArray c',slots:=#[]}->EP X pins σ Q (.ref s.heap.objs.size) {s with heap:=h'}:=λits r' hz h' c' kp e=>
  ⟨.ref s.heap.objs.size,_,I.laid (t':=s.toks) kp (DU _) (show ObjOk X.prog X.w _ h' _ (.lst ys) from⟨hz,its,c',r',e⟩),rfl,q _ (I.hok.fresh (DU _))⟩
 rcases hq with hq|hq
 .obtain⟨its,r',pl,hz⟩:=I.list hq;have a_:=r'.length;obtain⟨o,ho,hc,n,hd⟩:=pl.isList;exact call_list_seq p (.inl rfl) ho hc hd (λh' c' kp e=>d8 its r' hz h' c' kp e) (by simp only[D1]<;>lia)
 .obtain⟨its,r',pl,hz⟩:=I.tuple hq;have a_:=r'.length;obtain⟨o,ho,hc,n,hd⟩:=pl;exact call_list_seq p (.inr rfl) ho hc hd (λh' c' kp e=>d8 its r' hz h' c' kp e) (by simp only[D1]<;>lia)
def vO:bz X (.type "tuple") (λxs H Q=>∃ p ys,xs=[.ref p]/\((SqL X.K H p ys/\∀ l,H l=q_->Q (.ref l) (upd H l (.tup ys)))\/(SqT X.K H p ys/\Q (.ref p) H))):=by
 intro pins s σ H xs us Q I r h;obtain⟨p,ys,rfl,h⟩:=h;obtain⟨u,rfl,rx⟩:=bQ r;cases rx;rcases h with⟨hq,q⟩|⟨hq,q⟩
 .obtain⟨its,r',pl,hz⟩:=I.list hq;have a_:=r'.length;refine call_tuple_list pl.isList (λh' kp=>?_) (by simp only[D1]<;>lia);have I1:Inv X pins σ H {s with heap:=h'}:=I.kept (t':=s.toks) kp;have I2:Inv X pins σ (upd H h'.objs.size (.tup ys)) {s with heap:=h'.push {cls:= .type "tuple",data:= .seq its.toArray} }:=
   I1.laid (t':=s.toks) (λb o e=>Heap.get?_push_of_some _ e) (DU _) (show ObjOk X.prog X.w _ _ _ (.tup ys) from⟨hz,its,r',IsTup.new _ _⟩)
  exact⟨.ref h'.objs.size,_,I2,rfl,q _ (I1.hok.fresh (DU _))⟩
 .obtain⟨its,r',pl,hz⟩:=I.tuple hq;exact call_tuple_same pl ⟨.ref p,H,I,rfl,q⟩
def tyV(K:DR)(T:String)(x:V)(H:Hp):Prop:=match x with
 | .str _=>T="str"
 | .int _=>T="int"
 | .ref p=>(T="list"/\∃ xs,SqL K H p xs)\/(T="tuple"/\∃ o,K.lookup p=be o/\o.cls= .type "tuple"/\o.dict=q_)\/
   (T="dict"/\((∃ a8,H p=be (.dK a8))\/∃ a8,H p=be (.dT a8)))\/(T="set"/\∃ S n,H p=be (.set S n))
 |_=>False
def vP{pins:List (KF × Pu)}{σ:St}{H:Hp}{s:KM}{T:String}{v:KB}(I:Inv X pins σ H s)(r:RelV x v)(ty:tyV X.K T x H):
  s.TypeIs v T/\∀ a,v= .ref a->∃ ob,s.heap.get? a=be ob/\ob.dict=none:=by
 cases x with
 |str z=>
  obtain⟨t,rfl⟩:=r;cases(show T="str" from ty);exact⟨QL s z t,λ_ e=>nomatch e⟩
 |int i=>
  obtain⟨t,rfl⟩:=r;cases(show T="int" from ty);exact⟨typeIs_int s i t,λ_ e=>nomatch e⟩
 |ref p=>
  cases r;rcases ty with⟨rfl,xs,hq⟩|⟨rfl,o,hk,hc,hd⟩|⟨rfl,hk⟩|⟨rfl,S,n,hk⟩
  .obtain⟨its,_,pl,_⟩:=I.list hq;refine⟨pl.isList.typeIs,λa e=>?_⟩;cases e;obtain⟨o,n,e,c,hd,_⟩:=pl;exact⟨o,e,hd⟩
  .refine⟨⟨o,I.kIn p o hk,hc⟩,λa e=>?_⟩;cases e;exact⟨o,I.kIn _ o hk,hd⟩
  .have z:∃ o,s.heap.get? p=be o/\o.ExactDict:=by
    rcases hk with⟨a8,hk⟩|⟨a8,hk⟩
    .obtain⟨_,_,_,_,o,_,_,e,ex,_⟩:=I.hok p _ hk;exact⟨o,e,ex⟩
    .obtain⟨_,_,_,_,o,_,_,e,ex,_⟩:=I.hok p _ hk;exact⟨o,e,ex⟩
   obtain⟨o,e,ex⟩:=z;refine⟨⟨o,e,ex.1⟩,λa e2=>?_⟩;cases e2;exact⟨o,e,ex.2.1⟩
  .obtain⟨o,_,_,_,e,ex,_⟩:=I.hok p _ hk;refine⟨⟨o,e,ex.1⟩,λa e2=>?_⟩;cases e2;exact⟨o,e,ex.2.1⟩
 |_=>exact False.elim ty
def tBM(K:DR)(T:String)(r:V->List V->Hp->VK->Prop)(to:TE)(t:TA):TE:=λσ H Q=>to σ H λx H1=>tyV K T x H1/\t σ H1 λxs H2=>r x xs H2 Q
variable {o e:O_}{es:List O_}{to:TE}{t:TA}{name:x9}{apos cpos:Pm}{T id:String}{r:V->List V->Hp->VK->Prop}
def dQ(pa:PlainAttrs T)(slot:Slot T name id)(Kc:typeOf (.builtin id)=pure (.type "method_descriptor"))(hm:MtR X id r)(ho:PE X o to)(ha:PA X (e::es) t)
  (b9:autoParam (Pi o name X.env (Pj o X.env)=Pj o X.env) zA0)
  (d9:((PP cpos (Pg (e::es) X.env)).all (λx=>!x.1) && (P_ cpos (PM [] X.env)).all (λx=>x.1.isSome)
   && decide ((e::es).length+([]:List Qc).length+(if([]:List Qc).isEmpty then 0 else 1)<30))=true:=by rfl)
  (c7:autoParam ((apos.endLine==cpos.line)=true) zA0) (hs:autoParam (zSE X e es) zA0) (m6:autoParam (zPL X cpos es) zA0):
  PE X (.Call (.Attribute o name apos) (e::es) [] cpos) (tBM X.K T r to t):=by
 intro pins s σ H Q I h;refine wpAny_Call_method_late b9 d9 c7 rfl (thn (ho pins s σ H _ I h) λv s1 b8=>?_);obtain⟨x,H1,I1,r1,ty,q1⟩:=b8;obtain⟨h1,h2⟩:=vP I1 r1 ty;refine⟨T,id,pa,slot,Kc,h1,h2,?_⟩;have hA:=ha cpos pins s1 σ H1 _ I1 q1;rw[hs] at hA ⊢;refine Calls.callWith_builtin (by show(false||(PP cpos (Pg es X.env)).any (·.1))=false;rw[m6]<;>rfl) (Calls.evalArgs_plain ?_);exact thn hA λus s2 ⟨vs,H2,I2,r2,q2⟩=>hm pins s2 σ H2 x vs v us Q I2 r1 r2 q2
end
def MtM(X:Cx)(id:String)(r:V->List V->Hp->VK->Prop):Prop:=
 ∀ (pins:List (KF × Pu)) (s:KM) (σ:St) (H:Hp) (x:V) (xs:List V) (v:KB) (us:List KB) (Q:VK),Inv X pins σ H s->RelV x v->Vals xs us->r x xs H Q->
  Pd (Pc X.prog X.w) X.A (call (.builtin id) (v::us)) (EP X pins σ Q) X.xe s
def Vals.one:∀ {x:V} {us:List KB},Vals [x] us->∃ u,us=[u]/\RelV x u:=by
 intro x us h;cases h with
 |cons r h=>cases h;exact⟨_,rfl,r⟩
def Vals.two:∀ {x y:V} {us:List KB},Vals [x,y] us->∃ u v,us=[u,v]/\RelV x u/\RelV y v:=by
 intro x y us h;cases h with
 |cons r h=>
  obtain⟨u,rfl,q⟩:=Vals.one h;exact⟨_,_,rfl,r,q⟩
def Vals.zero:∀ {us:List KB},Vals [] us->us=[]
 |_,.nil=>rfl
def Vals.dropLast{xs:List V}{us:List KB}(h:Vals xs us):Vals xs.dropLast us.dropLast:=by
 induction h with
 |nil=>exact .nil
 |cons r t ih=>
  cases t with
  |nil=>exact .nil
  |cons q t'=>exact .cons r ih
section
variable {X:Cx}{pins:List (KF × Pu)}{σ:St}{H:Hp}{s:KM}{l b:KF}{xs ys zs:List V}
variable{its:List KB}
def Inv.lset{its':List KB}{n:Nat}{f:Array KB->Array KB}{t':Nat}(I:Inv X pins σ H s)(hH:H l=be (.lst xs))
  (e:s.heap.get? l=be {cls:= .type "list",data:= .seq its.toArray n}) (hf:f its.toArray=its'.toArray) (hv:Vals ys its') (hz:ys.length<=sizeLine):
  Inv X pins σ (upd H l (.lst ys)) {s with heap:=s.heap.update l (Obj.mapSeq f),toks:=t'}:=by
 have q:=PySem.IsL.update e f;rw[hf] at q;refine I.write (x:=l) (e:=l) (by rw[hH];exact trivial) (.inl rfl) (λb' u hb hu=>(Heap.get?_update_other s.heap (Obj.mapSeq f) (Ne.symm hb)).trans hu) ⟨_,q⟩ ?_;exact⟨hz,its',_,hv,q⟩
def Inv.lnew{t':Nat}(I:Inv X pins σ H s)(hv:Vals ys its)(hz:ys.length<=sizeLine):
  Inv X pins σ (upd H s.heap.objs.size (.lst ys)) {s with heap:=s.heap.push {cls:= .type "list",data:= .seq its.toArray},toks:=t'}:=
 I.laid (λ_ _ q=>Heap.get?_push_of_some _ q) (DU _) ⟨hz,its,0,hv,Heap.get?_push_size _ rfl⟩
def Inv.fresh(I:Inv X pins σ H s):H s.heap.objs.size=none:=I.hok.fresh (DU _)
def Inv.lstM(I:Inv X pins σ H s)(hH:H l=be (.lst xs)):xs.length<=sizeLine/\∃ (its:List KB) (n:Nat),Vals xs its/\xs.length=its.length/\s.heap.get? l=be {cls:= .type "list",data:= .seq its.toArray n}:=by
 obtain⟨z,its,n,r,e⟩:=I.hok l _ hH;exact⟨z,its,n,r,r.length,e⟩
def vQ{n:Nat}(h:n<=sizeLine):Builtin.List.listTooLong n=false:=by
 unfold Builtin.List.listTooLong;exact decide_eq_false (by lia)
end
section
variable {X:Cx}
def vR:V->List V->Hp->VK->Prop:=λx vs H Q=>∃ l xs y,x= .ref l/\vs=[y]/\H l=be (.lst xs)/\xs.length<sizeLine/\Q .non (upd H l (.lst (xs++[y])))
def fQ:MtM X "list.append" vR:=by
 intro pins s σ H x vs v us Q I rx rv h;obtain⟨l,xs,y,rfl,rfl,hH,hz,q⟩:=h;cases rx;obtain⟨u,rfl,ru⟩:=rv.one;obtain⟨z,its,n,r,hl,e⟩:=I.lstM hH;refine call_meets F.slot_list_append ⟨_,e,rfl⟩ F.entry_list_append (F.args_list_append_2 _ _) (PySem.list_append l its.toArray n u (by rw[D1];lia)) ⟨e,?_⟩;refine⟨.non,_,I.lset (its':=its++[u]) hH e (by simp) (r.append (.cons ru .nil)) ?_,rfl,q⟩;rw[D7,List.length_singleton];lia
def vS:V->List V->Hp->VK->Prop:=λx vs H Q=>∃ l b xs zs,x= .ref l/\vs=[.ref b]/\H l=be (.lst xs)/\H b=be (.lst zs)/\xs.length+zs.length<=sizeLine/\Q .non (upd H l (.lst (xs++zs)))
def DF:MtM X "list.extend" vS:=by
 intro pins s σ H x vs v us Q I rx rv h;obtain⟨l,b,xs,zs,rfl,rfl,hH,hB,hz,q⟩:=h;cases rx;obtain⟨u,rfl,ru⟩:=rv.one;cases ru;obtain⟨z,its,n,r,hl,e⟩:=I.lstM hH;obtain⟨z2,d7,n2,r2,G9,e2⟩:=I.lstM hB;have gt:its.toArray.size+d7.toArray.size<=sizeLine:=by rw[D1,D1];lia
 have Iu:¬ (!its.toArray.isEmpty && Builtin.List.listTooLong (its.toArray.size+d7.toArray.size))=true:=by
  rw[vQ gt,Gp];exact D6
 refine call_meets F.slot_list_extend ⟨_,e,rfl⟩ F.entry_list_extend (F.args_list_extend_2 _ _)
  (AutoSeq1.list_extend_list_list_0 l its.toArray n b d7.toArray n2 Iu (by rw[D1];lia) (by lia)) ⟨e,e2,?_⟩
 refine⟨.non,_,I.lset (its':=its++d7) hH e (by simp) (r.append r2) ?_,rfl,q⟩;rw[D7];lia
def rCat:R2:=λx y H Q=>∃ l b xs zs,x= .ref l/\y= .ref b/\H l=be (.lst xs)/\H b=be (.lst zs)/\xs.length+zs.length<=sizeLine/\∀ p,H p=q_->Q (.ref p) (upd H p (.lst (xs++zs)))
def vT:OpR X (Pw .Add) rCat:=by
 intro pins s σ H x y v u Q I rx ry h;obtain⟨l,b,xs,zs,rfl,rfl,hH,hB,hz,q⟩:=h;cases rx;cases ry;obtain⟨z,its,n,r,hl,e⟩:=I.lstM hH;obtain⟨z2,d7,n2,r2,G9,e2⟩:=I.lstM hB;refine PySem.P.add_list e e2 ?_ (by rw[D1,D1];lia);have ea:its.toArray++d7.toArray=(its++d7).toArray:=by simp
 rw[ea];exact⟨.ref _,_,I.lnew (t':=s.toks) (r.append r2) (by rw[D7];lia),rfl,q _ I.fresh⟩
end
end L2
namespace Mf
open PySem PySem.W PySem.Calls PyProof.Rows
variable{P:Params}
def vU{h:Heap}:∀ (ns:List Int) (vs:List KB),WellAll P h vs (ns.map WData.int)->Qh vs ns:=by
 intro ns;induction ns with
 |nil=>
  intro vs w;rw[EO] at w;cases w;exact .nil
 |cons n ns ih=>
  intro vs w;rw[Eb] at w;cases w with
  |cons a b=>
   cases a;exact .cons _ _ (ih _ b)
variable{l:OpenLaw}
def vV{n:Nat}(hn:l.most=be n){h:Heap}{args:List WData}{Hq:List KB}
  (y7:l.row.toRowW.claim.pre args=true) (Kd:WellAll P h Hq args):
  ∃ a vs ns,Hq=[Value.ref a]/\args=[WData.list (ns.map WData.int)]/\h.get? a=be {cls:= .type "list",data:= .seq vs.toArray}/\Qh vs ns/\ns.length<=n:=by
 have No:WShape.hasAll [] args [.list .int]=true:=(pre_splitW y7).1;have hc:l.pre.holds [] {args:=args}=true:=(pre_splitW y7).2;obtain⟨d,r,rfl,h1,h2⟩:=hasAllW_cons No;obtain rfl:=hasAllW_nil h2;obtain⟨xs,rfl,h3⟩:=hasW_list h1;obtain⟨ns,rfl⟩:=items_int h3;have a_:ns.length<=n:=by
  unfold OpenLaw.pre at hc;have h4:(WTm.not (.lt (.lit (.int (n:Int))) (.len (.arg 0)))).holds [] {args:=[.list (ns.map .int)]}=true:=by
   have h4:=(holds_andW hc).1;rw[hn] at h4;exact h4
  have h5:=condW_of h4 (w_not (w_lt w_lit (w_len_list (w_arg rfl))));rw[DZ] at h5;refine Fj λq=>?_;have q':(n:Int)<((ns.length:Nat):Int):=by lia
  first
   |(rw[decide_eq_true q'] at h5;exact absurd h5 (by decide))
   |(simp at h5;lia)
 cases Kd with
 |cons w1 w2=>
  cases w2;cases w1 with
  |list ho Ke=>exact⟨_,_,ns,rfl,rfl,ho,vU ns _ Ke,a_⟩
def vW(l:OpenLaw)(args:List WData):l.row.toRowW.claim.post args (.bool true) args=true:=
 postW_of (r:=l.row.toRowW) (X:=(true==true))
  (show WShape.has [] (.bool true) .bool=true by first|rfl|decide|simp[WShape.has,WShape.arms,WShape.armsAll])
  (show(WTm.eq .res (.lit (.bool true))).value [] {args:=args,res:=be (.bool true),after:=args}=be (.bool (true==true)) from w_eq_bool (w_res rfl) w_lit) rfl
def attach_call{n:Nat}{q:O9}{h_:List x9}{XP:(x9->Option KB)->Heap->Prop}{YP:Pe->Heap->Prop}{d:DefRec}
  (hn:l.most=be n) (Iv:d.params.defaults=[])
  (call:∀ (w:Pe) (s₀ s₁:KM) (mg mb:x9->Option KB) (fa:KF) (o:Pu) (pm cd doc:KB) (a:KF) (vs:List KB) (ns:List Int),
   Ground q h_ [] XP w s₀ mg mb s₁.heap->YP w s₁.heap->
   s₁.heap.get? fa=be o->o.data= .func (docDef d.name d.params d.body d.scope pm cd doc)->s₁.heap.CodeRec cd d.name->mg d.name=be (.ref fa)->
   s₁.heap.get? a=be {cls:= .type "list",data:= .seq vs.toArray}->Qh vs ns->ns.length<=n->s₁.gens=#[]->
   P4 (Pc l.prog w) Qf (.call (.ref fa) ⟨[.ref a],[]⟩) (λr s'=>r= .ok (.ret (.bool true))/\OldK s₁.heap s'.heap/\s'.os=s₁.os/\PZ s'.gens) s₁):
  WalkO q h_ XP YP l.row.toRowW d [] (λf vs=>PySem.call f vs):=by
 intro w s₀ s₁ mg mb G Y fa o pm cd doc dV kV ho hd g6 hD k8 hg args Hq as y7 Np OF Kd OG;obtain rfl:dV= .none:=Dflts.none hD Iv;obtain rfl:kV= .none:=Dflts.noKw hD;obtain⟨a,vs,ns,rfl,rfl,Hr,t6,a_⟩:=vV hn y7 Kd;refine enter_call (PQ (call w s₀ s₁ mg mb fa o pm cd doc a vs ns G Y ho (fd_plain hd) g6 k8 Hr t6 a_ hg) λr s' hq=>?_);obtain⟨rfl,h2,h3,h4⟩:=hq;exact⟨.inl ⟨.bool true,.bool true,[],rfl,λ_=>rfl,.bool true,vW l _,λ_=>⟨List.Pairwise.nil,λ_ hm=>(nomatch hm)⟩⟩,h2,h3,h4⟩
end Mf
namespace L2
open PySem PySem.Spec PyProof.Rows
def pi:∀ {vs:List KB} {ns:List Int},Qh vs ns->Vals (ns.map V.int) vs
 |_,_,.nil=> .nil
 |_,_,.cons n t h=> .cons ⟨t,rfl⟩ (pi h)
def Only(H:Hp):Prop:=∀ b,H b=q_\/∃ o xs,H b=be (.frz o (.lst xs))
variable{P:O9}{w:Pe}{a:KF}
def vX{K:DR}{mg mb:x9->Option KB}{CX:CXT}{k:Nat}{fa:KF}{fd:Ph}{x:x9}{sp:Sp}{s₁:KM}{vs:List KB}{ns:List Int}
  (KX:K.In s₁.heap) (hns:s₁.heap.Ns O8 mg) (hb:s₁.heap.Ns QO mb) (Nq:∀ x:x9,x≠"__name__"->mb x=Pr x) (Kf:s₁.heap.NoLimit) (hg:s₁.gens=#[])
  (ha:s₁.heap.get? a=be {cls:= .type "list",data:= .seq vs.toArray}) (hi:Qh vs ns) (hl:ns.length<=sizeLine) (hr:Room k Qf)
  (F:∀ base:Heap,K.In base->base.Ns O8 mg->FnOk P w K mg base CX k fa fd [x] sp) (Iw:∀ (s:KM) (u:KB),Qi s fd ⟨[u],[]⟩ [(x,u)])
  (p8:∀ H:Hp,Only H->SqL K H a (ns.map V.int)->sp [.ref a] H (λv _=>v= .bl true) λ_ _ _=>False)
  (Kg:∀ H e s',CX [] H s₁ (λ_ _ _=>False) e s'->False):
  P4 (Pc P w) Qf (.call (.ref fa) ⟨[.ref a],[]⟩) (λr s'=>r= .ok (.ret (.bool true))/\OldK s₁.heap s'.heap/\s'.os=s₁.os/\PZ s'.gens) s₁:=by
 have rv:=pi hi;have Kh:=hi.length;have Iy:∀ H:Hp,Only H->SqL K H a (ns.map V.int)->HOk P w H s₁.heap->(∀ b,H b≠q_->b=a)->(H a≠q_->K.lookup a=q_)->
   P4 (Pc P w) Qf (.call (.ref fa) ⟨[.ref a],[]⟩) (λr s'=>r= .ok (.ret (.bool true))/\OldK s₁.heap s'.heap/\s'.os=s₁.os/\PZ s'.gens) s₁:=by
  intro H hO hS hok hA hK;have o_:∀ {b:KF} {o:Pu},s₁.heap.get? b=be o->H b=q_->(hidT s₁.heap H).get? b=be o:=λe n=>sZ e n;have Iq:∀ {b:KF} {o:Pu} {es:Array DictEntry} {ep:Nat},s₁.heap.get? b=be o->o.data= .dict es ep->H b=none:=λ{b o es ep} e d=>by
   cases q:H b with
   |none=>rfl
   |some u=>
    have e':b=a:=hA b (by rw[q];simp);subst e';rw[ha] at e;cases e;have d':Data.seq vs.toArray _=Data.dict es ep:=d;cases d'
  have JH:∀ {b:KF} {m:x9->Option KB},s₁.heap.Ns b m->(hidT s₁.heap H).Ns b m:=λ{b m} ⟨o,es,ep,e,d,r⟩=>⟨o,es,ep,o_ e (Iq e d),d,r⟩;have Mh:K.In (hidT s₁.heap H):=λb o e=>o_ (KX b o e) (by
   cases q:H b with
   |none=>rfl
   |some u=>
    have e':b=a:=hA b (by rw[q];simp);subst e';rw[hK (by rw[q];simp)] at e;cases e)
  have hM:Mod K mg (hidT s₁.heap H):=⟨Mh,JH hns,⟨mb,JH hb,Nq⟩,let ⟨mc,h1,h2⟩:=Kf;⟨mc,JH h1,h2⟩⟩;have e0:Env0 P w K mg (hidT s₁.heap H) Qf [] s₁ H:=⟨rfl,hM,λb o e=>tf e,Fz (sY _ _),trivial,λb hb=>absurd (show b∈([]:List KF) from hb) (by simp),hok,.of_eq hg⟩;refine PQ ((F _ Mh (JH hns)).run Qf [] s₁ H ⟨[.ref a],[]⟩ [.ref a] [.ref a] _ _ hr e0 (Iw s₁ (.ref a)) (.cons rfl .nil) (p8 H hO hS)) λr s' h=>?_;cases r with
  |error e=>exact(Kg H e s' h).elim
  |ok fl=>
   cases fl with
   |next=>exact False.elim h
   |brk=>exact False.elim h
   |cont=>exact False.elim h
   |ret u=>
    obtain⟨v,H',os,bare,un,Ki,r',q⟩:=h;have q':v= .bl true:=q;subst q';obtain rfl:u=Value.bool true:=r';refine⟨rfl,OldK.of_keep λb o e=>?_,os,bare⟩;cases q:H b with
    |none=>exact un.keep b o e q (by intro z;exact absurd (show b∈([]:List KF) from z) (by simp)) (by simp)
    |some u=>
     rcases hO b with z|⟨ob,xs,z⟩
     .rw[q] at z;cases z
     .have z2:=un.frzs b ob _ z;obtain⟨e1,_⟩:=hok b _ z;obtain⟨e2,_⟩:=Ki b _ z2;rw[e] at e1;cases e1;exact e2
 cases hk:K.lookup a with
 |some o=>
  have e:=KX a o hk;rw[ha] at e;cases e;refine Iy (λ_=>q_) (λ_=> .inl rfl) (.inr ⟨_,vs.toArray,_,hk,rfl,rfl,rfl,by rw[D1,Kh];exact hl,by simpa using rv⟩) (λb u z=>by have z':(q_:Option HO)=be u:=z;cases z') (λb z=>absurd rfl z) λz=>absurd rfl z
 |none=>
  refine Iy (λb=>if b=a then be (.frz {cls:= .type "list",data:= .seq vs.toArray} (.lst (ns.map V.int))) else q_) (λb=>?_) (.inl (.inr ⟨{cls:= .type "list",data:= .seq vs.toArray},if_pos rfl⟩)) (λb u z=>?_) (λb z=>?_) λ_=>hk
  .by_cases hb:b=a
   .exact .inr ⟨_,_,if_pos hb⟩
   .exact .inl (if_neg hb)
  .by_cases hb:b=a
   .have z':=(if_pos hb).symm.trans z;cases z';subst hb;exact⟨ha,by rw[DZ];exact hl,vs,_,rv,ha⟩
   .have z':=(if_neg hb).symm.trans z;cases z'
  .by_cases hb:b=a
   .exact hb
   .exact absurd (if_neg hb) z
def walk_of{l:FW}{n k:Nat}{q:O9}{h_:List x9}{XP:(x9->Option KB)->Heap->Prop}{YP:Pe->Heap->Prop}{d:DefRec}{K:Params->DR}{CX:Pe->CXT}{sp:Pe->Sp}{x:x9}
  (hn:l.most=be n) (w9:n<=sizeLine) (Iv:d.params.defaults=[]) (hr:Room k Qf)
  (hY:∀ (w:Pe) (h:Heap),YP w h->(K w.params).In h)
  (F:∀ (w:Pe) (mg:x9->Option KB) (fa:KF) (h:Heap),(K w.params).In h->h.Ns O8 mg->mg d.name=be (.ref fa)->
   ∃ fd:Ph,(∀ (s:KM) (u:KB),Qi s fd ⟨[u],[]⟩ [(x,u)])/\
    ∀ base:Heap,(K w.params).In base->base.Ns O8 mg->FnOk l.prog w (K w.params) mg base (CX w) k fa fd [x] (sp w))
  (p8:∀ (w:Pe) (H:Hp) (a:KF) (ns:List Int),ns.length<=n->Only H->SqL (K w.params) H a (ns.map V.int)->sp w [.ref a] H (λv _=>v= .bl true) λ_ _ _=>False)
  (Kg:∀ (w:Pe) (H:Hp) (s:KM) (e:KB) (s':KM),CX w [] H s (λ_ _ _=>False) e s'->False):
  Gq q h_ XP YP l.row.toRowW d [] (λf vs=>PySem.call f vs):=by
 refine Mf.attach_call hn Iv λw s₀ s₁ mg mb fa o pm cd doc a vs ns G Y ho hd g6 k8 Hr t6 a_ hg=>?_;have KX:=hY w _ Y;obtain⟨fd,hb,hF⟩:=F w mg fa _ KX G.T.g k8;exact vX KX G.T.g G.T.b G.T.builtins G.T.nolimit hg Hr t6 (D9 a_ w9) hr hF hb (λH hO hS=>p8 w H a ns a_ hO hS) λH e s'=>Kg w H s₁ e s'
def bf(s:Pb)(j:Nat):Pb:=match s with
 | .ClassDef _ _ _ body _ _ _ _ _ _ _=>body.getD j (.Pass ⟨0,0,0,0⟩)
 |_=> .Pass ⟨0,0,0,0⟩
def bG(s:Pb):Arguments:=match s with
 | .FunctionDef _ a _ _ _ _ _ _ _ _=>a
 |_=>{posonlyargs:=[],args:=[],vararg:=q_,kwonlyargs:=[],kw_defaults:=[],kwarg:=q_,defaults:=[]}
def aK(s:Pb):List Pb:=match s with
 | .FunctionDef _ _ b _ _ _ _ _ _ _=>b
 |_=>[]
def ah(s:Pb):PH:=match s with
 | .FunctionDef _ _ _ _ _ _ sc _ _ _=>sc
 |_=>{kind:= .function,names:=[],isGenerator:=false,isCoroutine:=false}
abbrev CX0:CXT:=λ_ _ _ _ _ _=>False
abbrev E0:XK:=λ_ _ _=>False
structure Fun(K:DR)(x qual:Str)(st:Pb)(f:KF)(fd:Ph):Prop where
 ex:∃ (oc:KB) (od:Option KF) (kV doc pm:KB) (an:Option KF) (cdv ct:KB) (osl:Array (Option KB)),
  fd=fnOf x qual (bG st) (aK st) (ah st) .none kV doc pm an cdv ct/\K.lookup f=be ⟨oc,od,.func fd,osl⟩/\codeIn K cdv qual=true
 kp:keepIn K (.ref f)=true
section
variable {P:O9}{w:Pe}{K:DR}{mg:x9->Option KB}{base:Heap}
variable{x qual:x9}{st:Pb}{f:KF}{ps:List x9}
def Fun.ok{fd:Ph}{N:List x9}{k:Nat}{sp:Sp}(F:Fun K x qual st f fd)(S:FnScope N ps (ah st))(len:∀ vs H Q E,sp vs H Q E->vs.length=ps.length)
  (a9:∀ (cdv:KB) (A:Pf) (outer:List PU) (s:KM) (H:Hp) (vs:List V) (Q:VK) (E:XK),Room k (A.deeper (Pl qual (ah st) s.heap.objs.size f cdv))->sp vs H Q E->
   ∃ t,PSs (cxOf CX0 P w K mg base N qual (ah st) f cdv A outer s H E).nox (aK st) t/\t {nx:=λ_ H'=>Q .non H',rt:=Q} (start N vs) H):FnOk P w K mg base CX0 (k+1) f fd ps sp:=by
 obtain⟨oc,od,kV,doc,pm,an,cdv,ct,osl,rfl,lk,g6⟩:=F.ex;refine oW lk g6 S len λA outer s H vs Q E hr p8=>?_;obtain⟨t,h,q⟩:=a9 cdv A outer s H vs Q E hr p8;exact⟨t,h.nox,q⟩
def Fun.binds{fd:Ph}(F:Fun K x qual st f fd)
  (h:∀ (kV doc pm:KB) (an:Option KF) (cdv ct:KB) (us:List KB),us.length=ps.length->PR (fnOf x qual (bG st) (aK st) (ah st) .none kV doc pm an cdv ct) ⟨us,[]⟩=pure (ps.zip us)):Binds K fd ps []:=by
 obtain⟨oc,od,kV,doc,pm,an,cdv,ct,osl,rfl,lk,g6⟩:=F.ex;exact .all (h kV doc pm an cdv ct)
def fR{oc:KB}{od an:Option KF}{osl:Array (Option KB)}{kV doc pm cdv ct:KB}(l:K.lookup f=be ⟨oc,od,.func (fnOf x qual (bG st) (aK st) (ah st) .none kV doc pm an cdv ct),osl⟩)
  (c:codeIn K cdv qual=true) (k:keepIn K (.ref f)=true):Fun K x qual st f (fnOf x qual (bG st) (aK st) (ah st) .none kV doc pm an cdv ct):=⟨⟨oc,od,kV,doc,pm,an,cdv,ct,osl,rfl,l,c⟩,k⟩
end
def ji{A:Pf}{k:Nat}(hr:Room k A):A.units+1<Qg:=Gr (Nat.add_le_add_left (by decide:1<=64) _) hr.units
def vY{n:Nat}(h:n<=1000):n<sizeLine:=Gr h (by decide)
def ite2{c A B:Prop}[Decidable c](h1:c->A)(h2:¬ c->B):if c then A else B:=by
 by_cases h:c
 .rw[if_pos h];exact h1 h
 .rw[if_neg h];exact h2 h
def Same(H H':Hp):Prop:=∀ b o,H b=be o->H' b=be o
def Same.refl(H:Hp):Same H H:=λ_ _ h=>h
variable{H:Hp}
def Same.trans{H1 H2:Hp}(a:Same H H1)(b:Same H1 H2):Same H H2:=λc o h=>b c o (a c o h)
variable{H':Hp}
def Same.free(e:Same H H'){l:KF}(h:H' l=Option.none):H l=Option.none:=by
 cases q:H l with
 |none=>rfl
 |some o=>
  rw[e l o q] at h;cases h
def Same.seq{K:DR}{xs:List V}(e:Same H H')(h:SqL K H a xs):SqL K H' a xs:=by
 rcases h with(h|⟨o,h⟩)|h
 .exact .inl (.inl (e _ _ h))
 .exact .inl (.inr ⟨o,e _ _ h⟩)
 .exact .inr h
section
variable {κ:Type}[DecidableEq κ]
def valV(a8:List (κ × V))(k:κ):Option V:=(a8.find? λkv=>decide (kv.1=k)).map (·.2)
def putK(a8:List (κ × V))(k:κ)(v:V):List (κ × V):=
 if(a8.any λkv=>decide (kv.1=k))=true then a8.map (λkv=>if kv.1=k then(kv.1,v) else kv) else a8++[(k,v)]
def jj{p:κ × V}{r:List (κ × V)}{k:κ}(e:p.1=k):valV (p::r) k=be p.2:=by simp[valV,E9,e]
def jk{p:κ × V}{r:List (κ × V)}{k:κ}(e:¬ p.1=k):valV (p::r) k=valV r k:=by simp[valV,E9,e]
def RelO.getD{o:Option V}{u:Option KB}{d:V}{d':KB}(r:RelO o u)(rd:RelV d d'):RelV (o.getD d) (u.getD d'):=by
 cases o with
 |none=>cases u with
  |none=>exact rd
  |some _=>exact(show False from r).elim
 |some _=>cases u with
  |none=>exact(show False from r).elim
  |some _=>exact r
def KV.val{a8:List (κ × V)}{vs:List (κ × KB)}(r:KV a8 vs)(k:κ):RelO (valV a8 k) (Qo vs k):=by
 unfold KV at r;induction r with
 |nil=>exact True.intro
 |@cons p q ps qs h t ih=>
  obtain⟨h1,h2⟩:=h;by_cases e:p.1=k
  .have e':q.1=k:=h1.symm.trans e;have b:Qo (q::qs) k=be q.2:=by simp[Qo,E9,e']
   rw[jj e,b];exact h2
  .have e':¬ q.1=k:=λz=>e (h1.trans z);have b:Qo (q::qs) k=Qo qs k:=by simp[Qo,E9,e']
   rw[jk e,b];exact ih
def KV.any{a8:List (κ × V)}{vs:List (κ × KB)}(r:KV a8 vs)(k:κ):(a8.any λkv=>decide (kv.1=k))=vs.any λkv=>decide (kv.1=k):=by
 unfold KV at r;induction r with
 |nil=>rfl
 |cons h t ih=>rw[E8,E8,ih,h.1]
def KV.keys{a8:List (κ × V)}{vs:List (κ × KB)}(r:KV a8 vs):a8.map (·.1)=vs.map (·.1):=by
 unfold KV at r;induction r with
 |nil=>rfl
 |cons h t ih=>rw[Eb,Eb,ih,h.1]
def KV.length{a8:List (κ × V)}{vs:List (κ × KB)}(r:KV a8 vs):a8.length=vs.length:=Paired.length r
end
def pj{k:Key}{u:KB}(r:RelV (kV k) u):(bF P w).is k u=true:=by
 cases k with
 |inl i=>obtain⟨t,e⟩:=(show ∃ t,u=Value.int i t from r);subst e;exact mixKind_int P w i t
 |inr x=>obtain⟨t,e⟩:=(show ∃ t,u=Value.str x t from r);subst e;exact sW P w x t
def pk{P:O9}{w:Pe}:∀ {ks:List Key} {us:List KB},Vals (ks.map kV) us->ItemsAre (bF P w) ks us
 |[],_,r=>by rw[EO] at r;cases r;exact .nil
 |k::ks,_,r=>by
  rw[Eb] at r;cases r with
  |cons h t=>exact .cons (pj h) (pk t)
abbrev KT(H:Hp):List (List Key × V)->List (List Key × KF × KB)->Prop:=Paired λp q=>p.1=q.1/\H q.2.1=be (.tup (p.1.map kV))/\RelV p.2 q.2.2
variable{xs:List (List Key × KF × KB)}{a8:List (List Key × V)}
def KT.val(r:KT H a8 xs)(k:List Key):RelO (valV a8 k) ((Qn xs k).map (·.2)):=by
 induction r with
 |nil=>exact True.intro
 |@cons p q ps qs h t ih=>
  obtain⟨h1,_,h2⟩:=h;by_cases e:p.1=k
  .have e':q.1=k:=h1.symm.trans e;have b:Qn (q::qs) k=be q.2:=by simp[Qn,E9,e']
   rw[jj e,b];exact h2
  .have e':¬ q.1=k:=λz=>e (h1.trans z);have b:Qn (q::qs) k=Qn qs k:=by simp[Qn,E9,e']
   rw[jk e,b];exact ih
def KT.keeps(r:KT H a8 xs)(ht:∀ b ys,H b=be (.tup ys)->H' b=be (.tup ys)):KT H' a8 xs:=
 Paired.mapP r λ_ _ z=>⟨z.1,ht _ _ z.2.1,z.2.2⟩
section
variable {P:O9}{w:Pe}{H:Hp}{h:Heap}{a:KF}
def pp{u:HO}(ok:HOk P w H h)(e:Rd H a u):ObjOk P w H h a u:=e.ok ok
def vZ{a8:List (Key × V)}(ok:HOk P w H h)(e:Rd H a (.dK a8)):a8.length<=sizeLine/\(a==PB)=false/\∃ vs,KV a8 vs/\h.DictOf (bF P w) a vs:=
 show ObjOk P w H h a (.dK a8) from pp ok e
def key_of{ks:List Key}(ok:HOk P w H h)(e:H a=be (.tup (ks.map kV))):(P0 (bF P w)).is h ks a:=by
 obtain⟨_,its,r,o,h1,h2,n,h3⟩:=(show ObjOk P w H h a (.tup (ks.map kV)) from ok a _ e);exact⟨o,its.toArray,n,h1,h2,h3,by simpa using pk r⟩
variable{a8:List (List Key × V)}
def pr(ok:HOk P w H h)(e:Rd H a (.dT a8)):a8.length<=sizeLine/\(a==PB)=false/\
  ∃ xs,KT H a8 xs/\h.DictOfH (P0 (bF P w)) a xs:=by
 obtain⟨z,y,xs,r,o,es,ep,h1,h2,h3,h4,h5⟩:=(show ObjOk P w H h a (.dT a8) from pp ok e);refine⟨z,y,xs,r,o,es,ep,h1,h2,h3,h4,λx hx=>?_,h5⟩;have all:∀ {l:List (List Key × V)} {m:List (List Key × KF × KB)},KT H l m->∀ x∈m,(P0 (bF P w)).is h x.1 x.2.1:=by
  intro l m q;induction q with
  |nil=>intro x hx;exact nomatch hx
  |@cons p q ps qs hq t ih=>
   intro x hx;rcases D2.mp hx with e|hx
   .subst e;exact key_of ok (by rw[<- hq.1];exact hq.2.1)
   .exact ih x hx
 exact all r x hx
def wa(ok:HOk P w H h)(e:H a=be (.dT a8)):a8.length<=sizeLine/\(a==PB)=false/\
  ∃ xs,KT H a8 xs/\h.DictOfH (P0 (bF P w)) a xs:=pr ok (.inl e)
end
def DGet(H:Hp)(a:KF)(y:V)(r:Option V):Prop:=
 (∃ a8 k,Rd H a (.dK a8)/\y=kV k/\r=valV a8 k)\/∃ a8 k b,Rd H a (.dT a8)/\y= .ref b/\H b=be (.tup (k.map kV))/\r=valV a8 k
def DPut(H:Hp)(a:KF)(y v:V)(H':Hp):Prop:=
 (∃ a8 k,H a=be (.dK a8)/\y=kV k/\a8.length<sizeLine/\H'=upd H a (.dK (putK a8 k v)))\/
 ∃ a8 k b,H a=be (.dT a8)/\y= .ref b/\H b=be (.tup (k.map kV))/\a8.length<sizeLine/\H'=upd H a (.dT (putK a8 k v))
def DGet.k{a8:List (Key × V)}{k:Key}(e:H a=be (.dK a8)):DGet H a (kV k) (valV a8 k):= .inl ⟨a8,k,.inl e,rfl,rfl⟩
def DGet.t{b:KF}{k:List Key}(e:H a=be (.dT a8))(eb:H b=be (.tup (k.map kV))):DGet H a (.ref b) (valV a8 k):= .inr ⟨a8,k,b,.inl e,rfl,eb,rfl⟩
def DPut.k{a8:List (Key × V)}{k:Key}{v:V}(e:H a=be (.dK a8))(hl:a8.length<sizeLine):DPut H a (kV k) v (upd H a (.dK (putK a8 k v))):= .inl ⟨a8,k,e,rfl,hl,rfl⟩
def DPut.t{b:KF}{k:List Key}{v:V}(e:H a=be (.dT a8))(eb:H b=be (.tup (k.map kV)))(hl:a8.length<sizeLine):
  DPut H a (.ref b) v (upd H a (.dT (putK a8 k v))):= .inr ⟨a8,k,b,e,rfl,eb,hl,rfl⟩
section
variable {X:Cx}{pins:List (KF × Pu)}{σ:St}{H:Hp}{s:KM}{a:KF}{y v:V}{u r:KB}{o:Option V}{A:Pf}{E:KB->KM->Prop}
def Inv.big(I:Inv X pins σ H s):PB<s.heap.objs.size:=by
 have h:O8<s.heap.objs.size:=(I.mod.glob.keeps I.bk).lt;exact Gs (by decide) h
def wb{h':Heap}{t':Nat}{ob:HO}(I:Inv X pins σ H s)(mu:Mut (H a))(hs:Heap.SameBut a s.heap h')(he:∃ q,h'.get? a=be q)(new:ObjOk X.prog X.w (upd H a ob) h' a ob):
  Inv X pins σ (upd H a ob) {s with heap:=h',toks:=t'}:=
 I.write (x:=a) (e:=a) mu (.inl rfl) (λb q hb z=>(hs.2 b hb).trans z) he new
end
def wc(h:Heap)(hb:PB<h.objs.size):ObjOk P w H (h.push {cls:= .type "dict",data:= .dict #[]}) h.objs.size (.dT []):=
 ⟨Ej _,beq_eq_false_iff_ne.mpr (Ne.symm (D8 hb)),[],.nil,_,#[],0,Heap.get?_push_size _ rfl,⟨rfl,rfl,rfl⟩,rfl,rfl,Gu⟩
def we:TE:=λ_ H Q=>∀ p,H p=q_->Q (.ref p) (upd H p (.dT []))
section
variable {X:Cx}{pos:Pm}
def pe_dnewT:PE X (.Dict [] [] pos) we:=λpins s σ H Q I h=>
 wpAny_Dict_empty ⟨.ref s.heap.objs.size,_,I.laid (a:=s.heap.objs.size) (o:= .dT []) (t':=s.toks) (λ_ _ q=>Heap.get?_push_of_some _ q) (DU _) (wc s.heap I.big),rfl,h _ (I.hok.fresh (DU _))⟩
end
structure M1(X:Cx)(o:O_)(m:Str)(apos:Pm)(e:O_)(cpos:Pm):Prop where
 base:Pi o m X.env (Pj o X.env)=Pj o X.env
 few:((PP cpos (Pg [e] X.env)).all (λx=>!x.1) && (P_ cpos (PM [] X.env)).all (λx=>x.1.isSome)
  && decide (([e]:List O_).length+([]:List Qc).length+(if([]:List Qc).isEmpty then 0 else 1)<30))=true
 line:(apos.endLine==cpos.line)=true
 trees:PP cpos (Pg [e] X.env)=[(false,Pj e X.env)]
structure M2(X:Cx)(o:O_)(m:Str)(apos:Pm)(e f:O_)(cpos:Pm):Prop where
 base:Pi o m X.env (Pj o X.env)=Pj o X.env
 few:((PP cpos (Pg [e,f] X.env)).all (λx=>!x.1) && (P_ cpos (PM [] X.env)).all (λx=>x.1.isSome)
  && decide (([e,f]:List O_).length+([]:List Qc).length+(if([]:List Qc).isEmpty then 0 else 1)<30))=true
 line:(apos.endLine==cpos.line)=true
 trees:PP cpos (Pg [e,f] X.env)=[(false,Pj e X.env),(false,Pj f X.env)]
section
variable {X:Cx}{pins:List (KF × Pu)}{σ:St}{H:Hp}{s:KM}{a:KF}{y d:V}{u r:KB}{o:Option V}{A:Pf}{E:KB->KM->Prop}
def wg{Q:KB->KM->Prop}(hu:A.units+1<Qg)(I:Inv X pins σ H s)(g:DGet H a y o)(ry:RelV y u)(rd:RelV d r)(h:∀ w' s',Inv X pins σ H s'->RelV (o.getD d) w'->Q w' s'):
  Pd (Pc X.prog X.w) A (call (.builtin "dict.get") [.ref a,u,r]) Q E s:=by
 rcases g with⟨a8,k,e,ey,l⟩|⟨a8,k,b,e,ey,eb,l⟩
 .subst ey;obtain⟨z,hd,vs,Ht,dd⟩:=vZ I.hok e;refine QB PySem.F.slot_dict_get dd.typeIs PySem.F.entry_dict_get (PySem.F.args_dict_get_3 _ _ _) (meets_dict_get_default (bF X.prog X.w) a (pj ry) hd r) ⟨_,dd.mapOf,h _ _ (I.tok _) ?_⟩;rw[l];exact(Ht.val k).getD rd
 .subst ey;cases(show u=Value.ref b from ry);obtain⟨z,hd,xs,Ht,dd⟩:=pr I.hok e;refine QB PySem.F.slot_dict_get dd.typeIs PySem.F.entry_dict_get (PySem.F.args_dict_get_3 _ _ _) (meetsH_dict_get_default (P0 (bF X.prog X.w)) a b hd r) ⟨QM hu,k,xs,key_of I.hok eb,dd,h _ _ (I.tok _) ?_⟩;rw[l];exact(Ht.val k).getD rd
end
end L2
end
section
open PySem PySem.Spec PyProof.Rows L2
namespace Exc
open PySem PySem.Spec PyProof.Rows PySem.W L2
def aQ:List KB->Bool
 | .ref _::r=>aQ r
 |l=>l==[.type "ValueError",.type "Exception",.type "BaseException",.type "object"]
def pv(self:KB):∀ {l:List KB},aQ l=true->refuseLoop self "__setattr__" l=pure ()
 | .ref c::r,e=>by rw[refuseLoop_ref];exact pv self (by unfold aQ at e;exact e)
 |[],e=>by simp[aQ] at e
 | .type n::r,e=>by
  have e':(Value.type n::r)=[.type "ValueError",.type "Exception",.type "BaseException",.type "object"]:=by simpa[aQ] using e
  rw[e'];exact PySem.F.store_ValueError.passes self
 | .none::r,e=>by simp[aQ] at e
 | .bool _::r,e=>by simp[aQ] at e
 | .int _ _::r,e=>by simp[aQ] at e
 | .float _ _::r,e=>by simp[aQ] at e
 | .str _ _::r,e=>by simp[aQ] at e
 | .bytes _ _::r,e=>by simp[aQ] at e
 | .builtin _::r,e=>by simp[aQ] at e
def fS{T:String}(hT:[Value.type "ValueError",.type "Exception",.type "BaseException",.type "object"].contains (.type T)=true):∀ {l:List KB},aQ l=true->l.contains (.type T)=true
 | .ref c::r,e=>by rw[Gv,fS hT (l:=r) (by unfold aQ at e;exact e),FX]
 |[],e=>by simp[aQ] at e
 | .type n::r,e=>by
  have e':(Value.type n::r)=[.type "ValueError",.type "Exception",.type "BaseException",.type "object"]:=by simpa[aQ] using e
  rw[e'];exact hT
 | .none::r,e=>by simp[aQ] at e
 | .bool _::r,e=>by simp[aQ] at e
 | .int _ _::r,e=>by simp[aQ] at e
 | .float _ _::r,e=>by simp[aQ] at e
 | .str _ _::r,e=>by simp[aQ] at e
 | .bytes _ _::r,e=>by simp[aQ] at e
 | .builtin _::r,e=>by simp[aQ] at e
section
variable {prog:O9}{w:Pe}{A:Pf}{E:KB->KM->Prop}{s:KM}{K:DR}{x C:KF}{ox:Pu}{cd:ClassData}{name:x9}{v:KB}{vs:Array KB}
def wj{Q:Unit->KM->Prop}(X:K.In s.heap)(hx:s.heap.get? x=be ox)(i8:ox.cls= .ref C)(Hu:ox.data= .fields vs)(hd:ox.dict=q_)(hc:clsIn K C=be cd)(hm:aQ cd.mro=true)(hh:cd.hasDict=true)
  (hs:findIn K (.ref C) "__setattr__"=be (be (.builtin "object.__setattr__"))) (hf:findIn K (.ref C) name=be q_)
  (h:∀ h',h'.get? x=be {ox with dict:=be s.heap.objs.size}->h'.Ns1 s.heap.objs.size (λy=>if y=name then be v else q_)->(∀ b o,b≠x->s.heap.get? b=be o->h'.get? b=be o)->∀ tk,Q () {s with heap:=h',toks:=tk}):
  Pd (Pc prog w) A (setAttr (.ref x) name v) Q E s:=by
 have hn:notCls ox=true:=by unfold notCls;rw[Hu]
 have I:InstAt s.heap x ox C none:=⟨hx,i8,hn,by rw[hd];trivial⟩;refine set_plain X I hs ?_;have SF:=PySem.F.store_object;have ne:cd.mro.isEmpty=false:=by cases q:cd.mro with|nil=>rw[q] at hm;simp[aQ] at hm|cons _ _=>rfl
 have sub:Looks (Pc prog w) s.heap (QN (.ref x) (.type "object")) true:=I.type.andThen (looks_mroIn X (by unfold mroIn;rw[hc,Fk,if_neg (by rw[ne];decide),fS (by decide+kernel) hm]));refine QF SF.slot.plain SF.entry (@check_slot (Pc prog w) _ _ _ "object.__setattr__" "object" "__setattr__" (.ref x) [.str name s.toks,v] [] _ SF.kind SF.split sub (SF.args (.ref x) (.str name s.toks) v) ?_);have Kj:Looks (Pc prog w) s.heap (mroOf (.ref C)) cd.mro:=(looks_clsIn X hc).andThen .now;rw[osa_eq,refuse_eq];refine Os (Os (I.type.here (s:={s with toks:=s.toks+1}) (Os (Kj.here (s:={s with toks:=s.toks+1}) ?_))));rw[pv _ hm];refine Pa (Os (I.type.here (s:={s with toks:=s.toks+1}) (Os ((looks_findIn X hf).here (s:={s with toks:=s.toks+1}) (Os (Looks.now.here (s:={s with toks:=s.toks+1}) ?_))))));obtain⟨oc,Nr,Nt,osl⟩:=ox;dsimp only at i8 hd Hu;subst i8 hd Hu;refine Os (Pa (Os (Os (wpAny_loadPart hx (Os ((looks_clsIn X hc).here (s:={s with toks:=s.toks+1}) ?_))))));rw[hh];rw[if_neg (by decide)];have hx₁:(s.heap.push {cls:= .type "dict",data:= .dict #[]}).get? x=be ⟨.ref C,q_,.fields vs,osl⟩:=Heap.get?_push_of_some _ hx;have Mi:x≠s.heap.objs.size:=D8 (Heap.lt_size hx);show Pd _ _ (do
  let d <- alloc {cls:=Value.type "dict",data:=Data.dict #[]}
  update x λo=>{cls:=o.cls,dict:=be d,data:=o.data,slots:=o.slots}
  dictMade (.ref C) x d) _ _ _
 refine Os (wpAny_alloc' ?_);refine Os (wpAny_update' hx₁ ?_);refine Pa ?_;have Nu:((s.heap.push {cls:= .type "dict",data:= .dict #[]}).update x λo=>{cls:=o.cls,dict:=be s.heap.objs.size,data:=o.data,slots:=o.slots}).get? s.heap.objs.size
   =be {cls:= .type "dict",data:= .dict #[]}:=
  (Heap.get?_update_ne _ _ _ _ Mi.symm).trans (Heap.get?_push_at rfl rfl)
 have Nv:((s.heap.push {cls:= .type "dict",data:= .dict #[]}).update x λo=>{cls:=o.cls,dict:=be s.heap.objs.size,data:=o.data,slots:=o.slots}).Ns s.heap.objs.size (λ_=>q_):=
  ⟨_,#[],_,Nu,rfl,λe he=>absurd he (by simp),λ_=>rfl⟩
 show Pd _ _ (Builtin.ObjectAttr.storeInDict s.heap.objs.size (.str name s.toks) name v) _ _ _;unfold Builtin.ObjectAttr.storeInDict Builtin.ObjectAttr.newKeyGuard;refine Os (Pa (Os (wpAny_nsSet1 (Heap.Ns1.of_empty Nv) λh' j6 hs=>?_)));obtain⟨oD,Nh,Ni,J',J_,Ka⟩:=j6.count (Within.cons name v Within.nil);refine Os (wpAny_lookBehind J' (by rw[J_];exact pastItsLine_dict (D9 Ka (by rw[D0,Fl,P9];lia))) ?_);refine Pa (h h' ?_ j6 (λb o hb q=>?_) _)
 .exact(hs.2 x Mi).trans (Heap.get?_update_self _ hx₁ rfl)
 .exact(hs.2 b (D8 (Heap.lt_size q))).trans ((Heap.get?_update_ne _ _ _ _ hb).trans (Heap.get?_push_of_some _ q))
def wk{Q:KB->KM->Prop}{rest:List KB}{t0:KF}{a1 a2 a3 a4 a5:KB}(X:K.In s.heap)(hx:s.heap.get? x=be ox)(i8:ox.cls= .ref C)(Hu:ox.data= .fields #[.ref t0,a1,a2,a3,a4,a5])(hc:clsIn K C=be cd)(hm:aQ cd.mro=true)(hl:rest.length<=sizeLine)
  (h:∀ h',h'.get? x=be {ox with data:= .fields #[.ref s.heap.objs.size,a1,a2,a3,a4,a5]}->(∀ b o,b≠x->s.heap.get? b=be o->h'.get? b=be o)->Q .none {s with heap:=h'}):
  Pd (Pc prog w) A (call (.builtin "ValueError.__init__") (.ref x::rest)) Q E s:=by
 have F:=PySem.F.excBase_ValueError;have hn:notCls ox=true:=by unfold notCls;rw[Hu]
 have ht:Looks (Pc prog w) s.heap (typeOf (.ref x)) (.ref C):=i8 ▸ (Looks.ld hx).andThen .now;have ne:cd.mro.isEmpty=false:=by cases q:cd.mro with|nil=>rw[q] at hm;simp[aQ] at hm|cons _ _=>rfl
 have sub:Looks (Pc prog w) s.heap (QN (.ref x) (.type "ValueError")) true:=ht.andThen (looks_mroIn X (by unfold mroIn;rw[hc,Fk,if_neg (by rw[ne];decide),fS (by decide+kernel) hm]));have Nw:∀ {Q:Unit->KM->Prop} {E:KB->KM->Prop} {A:Pf},Q () s->Pd (Pc prog w) A (checkBuiltinCall "ValueError.__init__" ⟨.ref x::rest,[]⟩) Q E s:=λ{Q E A} hq=>by
  have Kk:=F.noStar;simp only[checkBuiltinCall,F.initKind,F.initSplit,F.initRow];refine Os (sub.here ?_);obtain⟨hp,g,d,t,os⟩:=s;have Lc:=looks_clsIn (M:=Pc prog w) X hc
  repeat(first|(with_reducible refine Pz hx ?_;rw[i8])|(with_reducible refine Lc.here ?_)|wp_step)
  refine wpAny_onRaise ?_;rw[show ∀ (a b:String) (n:Nat),Bind.check ⟨.positional,"*","ValueError",.self,[⟨"args",.varPos,false⟩]⟩ a b n (Fb (λx=>x.fst) ({pos:=Value.ref x::rest}:Args).kw)=pure () from
   λa b n=>check_star_args _ _ _ _ _ _]
  exact Pa hq
 refine P3 (QF F.init.plain F.initEntry (Nw ?_));obtain⟨hp,g,d,t,os⟩:=s;obtain⟨oc,Nr,Nt,osl⟩:=ox;dsimp only at i8 Hu hx h;subst i8 Hu
 wp_walk
 have hx₁:=Heap.get?_push_of_some {cls:=Value.type "tuple",data:=Data.seq rest.toArray} hx;refine h _ ?_ (λb o hb q=>?_)
 .rw[Heap.get?_update_self _ hx₁ rfl];rfl
 .rw[Heap.get?_update_other _ _ (Ne.symm hb)];exact Heap.get?_push_of_some _ q
end
abbrev veLine:List KB:=[.type "ValueError",.type "Exception",.type "BaseException",.type "object"]
section
variable {prog:O9}{w:Pe}{A:Pf}{E:KB->KM->Prop}{h:Heap}{g:Array GenState}{d:Drawn}{t:Nat}{os:OsState}{K:DR}
variable {nm q:x9}{C N fI:KF}{bs bm:List KB}{hdct:Bool}{sn:List x9}{sub:List KB}{ab:Bool}{col:Option Bool}{dd:Option KF}{k0 k1 k2 k3 k5:Option KB}{rest:List KB}
def wl{Q:Fin->KM->Prop}(X:K.In h)(T:OwnTail h veLine bm)(hC:h.get? C=be (PC nm q C N bs bm hdct sn sub ab col dd k0 k1 k2 k3 k5 "ValueError.__new__"))
  (hi:findIn K (.ref C) "__init__"=be (be (.ref fI))) (hf:typeIn K (.ref fI)=be (.type "function"))
  (hq:∀ h' e,Heap.MadeExcOf h h' e (.ref C) rest->Pd (Pc prog w) A (call (.ref fI) (.ref e::rest)) (λr s'=>r= .none/\Q (.done (.ret (.ref e))) s') E ⟨h',g,d,t,os⟩) (hl:rest.length<=sizeLine):
  Pd (Pc prog w) A (Builtin.«type.__call__» ⟨.ref C::rest,[]⟩) Q E ⟨h,g,d,t,os⟩:=by
 have F:=PySem.F.excBase_ValueError
 repeat(first|(with_reducible refine Pz hC ?_)|(with_reducible refine wpAny_madeBy_exc hC ?_)|wp_step)
 refine codeAny_call_builtin_code (Code.quiet_builtin _ F.quiet) (wpAny_check_new_subT F T hC (codeAny_exc_new_subT F T hC ?_ hl));have kp:∀ b o,h.get? b=be o->((h.push {cls:= .type "tuple",data:= .seq rest.toArray}).push {cls:= .ref C,data:= .fields #[.ref h.objs.size,.none,.none,.none,.bool false,.none]}).get? b=be o:=λb o e=>Heap.get?_push_of_some _ (Heap.get?_push_of_some _ e);have Nx:=kp _ _ hC;have X1:K.In _:=X.keeps kp;have he:((h.push {cls:= .type "tuple",data:= .seq rest.toArray}).push {cls:= .ref C,data:= .fields #[.ref h.objs.size,.none,.none,.none,.bool false,.none]}).get? (h.objs.size+1)=be {cls:= .ref C,data:= .fields #[.ref h.objs.size,.none,.none,.none,.bool false,.none]}:=by heap_get
 have Ny:(Value.ref C::bm).contains (.ref C)=true:=by simp
 have L1:=looks_findIn (M:=Pc prog w) X1 hi;have L2:=bind_fn (M:=Pc prog w) X1 (.ref (h.objs.size+1)) hf;show Pd _ _ _ _ _ _;unfold QN
 repeat(first|(with_reducible refine Pz he ?_)|(with_reducible refine QG Nx ?_;rw[Ny])|wp_step)
 refine L1.at ?_;refine Qs (Os (L2.at ?_));refine Os (Pn (hq _ (h.objs.size+1) ⟨kp,Heap.get?_none_of_le (EV _),h.objs.size,he,Heap.get?_none_of_le (DU _),Heap.get?_push_of_some _ (Heap.get?_push_at rfl rfl)⟩) (λr s' hr=>?_) λ_ _ x=>x);obtain⟨rfl,hQ⟩:=hr;refine Pa ?_;exact Pa hQ
def wm{Q:KB->KM->Prop}(X:K.In h)(T:OwnTail h veLine bm)(hC:h.get? C=be (PC nm q C N bs bm hdct sn sub ab col dd k0 k1 k2 k3 k5 "ValueError.__new__"))
  (hi:findIn K (.ref C) "__init__"=be (be (.ref fI))) (hf:typeIn K (.ref fI)=be (.type "function"))
  (hq:∀ h' e,Heap.MadeExcOf h h' e (.ref C) rest->Pd (Pc prog w) (A.under (.builtin "type.__call__" ⟨.ref C::rest,[]⟩)) (call (.ref fI) (.ref e::rest)) (λr s'=>r= .none/\Q (.ref e) s') E ⟨h',g,d,t,os⟩) (hl:rest.length<=sizeLine):
  Pd (Pc prog w) A (call (.ref C) rest) Q E ⟨h,g,d,t,os⟩:=by
 have f1:=tc_lookup;have f2:=tc_bind (.ref C);have hT:(⟨h,g,d,t,os⟩:KM).TypeIs (.ref C) "type":=⟨_,hC,rfl⟩;refine P3 (codeAny_of_tree ?_);show Pd _ _ (callAny (.ref C) _) _ _ _
 repeat(any_goals (first|(with_reducible refine Pz hC ?_)|assumption|wp_step))
 exact⟨rfl,codeAny_call_builtin_at (Code.quiet_builtin _ (by decide+kernel)) entry_typeCall (wpAny_check_type_call_sub hC (wl X T hC hi hf (λh' e hm=>hq h' e hm) hl))⟩
end
section
variable {prog:O9}{w:Pe}{A:Pf}{E:KB->KM->Prop}{s:KM}{env:PU}
variable {nm q:x9}{C N:KF}{bs bm:List KB}{hdct:Bool}{sn:List x9}{sub:List KB}{ab:Bool}{col:Option Bool}{dd:Option KF}{k0 k1 k2 k3 k5:Option KB}{newId:String}
variable{Q:Flow->KM->Prop}
def wn{x:QC KB}(b9:bm.contains (.type "BaseException")=true)(hh:A.handled=q_)
  (h:Pd (Pc prog w) A x (λv s₁=>∃ e t od sl,v= .ref e/\s₁.heap.get? C=be (PC nm q C N bs bm hdct sn sub ab col dd k0 k1 k2 k3 k5 newId)/\
   s₁.heap.get? e=be ⟨.ref C,od,.fields #[.ref t,.none,.none,.none,.bool false,.none],sl⟩/\E (.ref e) s₁) E s):
  Pd (Pc prog w) A (raiseStmt env (be x) q_) Q E s:=by
 have Nz:(Value.ref C::bm).contains (.type "BaseException")=true:=by rw[Gv,b9,FX]
 unfold raiseStmt;refine Os (Pn h (λv s₁ h₁=>?_) λ_ _ x=>x);obtain⟨e,t,od,sl,rfl,hC,he,hE⟩:=h₁;obtain⟨hp,g,d,tk,os⟩:=s₁
 repeat(first|(with_reducible refine Pz he ?_)|(with_reducible refine Pz hC ?_)|(with_reducible refine QG hC ?_;rw[Nz])|wp_step)
 exact wpAny_raiseNew_none hh hE
def jl{x:O_}{pos:Pm}(b9:bm.contains (.type "BaseException")=true)(hh:A.handled=q_)
  (h:Pd (Pc prog w) A (Pj x env) (λv s₁=>∃ e t od sl,v= .ref e/\s₁.heap.get? C=be (PC nm q C N bs bm hdct sn sub ab col dd k0 k1 k2 k3 k5 newId)/\
   s₁.heap.get? e=be ⟨.ref C,od,.fields #[.ref t,.none,.none,.none,.bool false,.none],sl⟩/\E (.ref e) s₁) E s):
  Pd (Pc prog w) A (exec (.Raise (be x) q_ pos) env) Q E s:=by
 rw[arm_exec_Raise];show Pd (Pc prog w) A (do Qe pos;raiseStmt env (be (do let v <- Pj x env;Qe pos;pure v)) q_) Q E s;exact Os (Qd (wn b9 hh (Os (Pn h (λv s₁ h₁=>Os (Qd (Pa h₁))) λ_ _ x=>x))))
end
def ExAt(h:Heap)(e C:KF)(od:Option KF)(T:KF)(fl:KB):Prop:=
 ∃ sl vs oT ts,h.get? e=be ⟨.ref C,od,.fields vs,sl⟩/\vs[1]?=be (.ref T)/\T≠e/\h.get? T=be oT/\oT.data= .fields ts/\ts[3]?=be fl
structure Stay(fs ex:List KF)(h h':Heap):Prop where
 keep:∀ b o,h.get? b=be o->b ∉ ex->b ∉ fs->h'.get? b=be o
 slot:∀ b o,h.get? b=be o->b ∉ ex->∃ sl,h'.get? b=be {o with slots:=sl}
 there:∀ b o,h.get? b=be o->∃ o',h'.get? b=be o'
variable{fs ex:List KF}{h:Heap}
def Stay.refl:Stay fs ex h h:=⟨λ_ _ e _ _=>e,λ_ o e _=>⟨o.slots,e⟩,λ_ o e=>⟨o,e⟩⟩
section
variable {M:Model}{A:Pf}{E:KB->KM->Prop}{s:KM}{env:PU}{outer:List PU}{base:Heap}{L e C T:KF}{od:Option KF}
variable{Q:Unit->KM->Prop}
def wo{sl:Array (Option KB)}{vs:Array KB}(y8:A.frames=be (env::outer))(hl:s.heap.FunFrames base (env::outer))(hf:env.frame=be L)
  (he:s.heap.get? e=be ⟨.ref C,od,.fields vs,sl⟩) (h1:vs[1]?=be .none)
  (h:∀ h' T,ExAt h' e C od T (P' L)->s.heap.objs.size<=T->Stay (frs (env::outer)) [e] s.heap h'->Q () {s with heap:=h'}):Pd M A (Qk (.ref e) env) Q E s:=by
 have gt:1<vs.size:=(FB.mp h1).1;have Hv:e ∉ (env::outer).filterMap (·.frame):=λhm=>by
  obtain⟨_,o,ho,hnf⟩:=hl.mem hm;rw[he] at ho;injection ho with ho;subst ho;exact hnf vs rfl
 unfold Qk;simp only[hf];refine Os (PK he rfl h1 ?_);rw[if_neg (by decide)];refine Os (QQ y8 hl hf λh₁ hs₁=>Os (QJ λpl c5=>?_));unfold EntryCells.newEntry newFields;refine Os (Pq ?_ (c5.sizeOk5 _ _ _ _ _));have he₁:h₁.get? e=be ⟨.ref C,od,.fields vs,sl⟩:=(hs₁.2.1 e Hv).trans he;have fresh:h₁.get? h₁.objs.size=none:=Heap.get?_none_of_le (DU _);generalize IA:({cls:= .type "traceback",dict:=q_,data:= .fields ([Value.none,.ref L,.none,P' L,.none]++(if pl.isEmpty then EN 6 Value.none else pl)).toArray}:Pu)=oT;have he₂:=Heap.get?_push_of_some (h:=h₁) oT he₁;have Hw:h₁.objs.size≠e:=ET (Heap.lt_size he₁);refine P8 he₂ rfl gt (h _ h₁.objs.size ?_ ?_ ?_)
 .refine⟨sl,vs.setIfInBounds 1 (.ref h₁.objs.size),oT,([Value.none,.ref L,.none,P' L,.none]++(if pl.isEmpty then EN 6 Value.none else pl)).toArray,?_,by simp[gt],Hw,?_,by rw[<- IA],by simp⟩
  .rw[Heap.get?_update_self _ he₂ rfl];rfl
  .rw[Heap.get?_update_other _ _ (Ne.symm Hw)];exact Heap.get?_push_size h₁ (by rw[<- IA];rfl)
 .exact Fz hs₁.1.symm
 .have kp:∀ b o,b≠e->h₁.get? b=be o->((h₁.push oT).update e (Obj.mapFields (·.setIfInBounds 1 (Value.ref h₁.objs.size)))).get? b=be o:=λb o hb z=>by
   rw[Heap.get?_update_other _ _ (Ne.symm hb)];exact Heap.get?_push_of_some _ z
  refine⟨λb o q n m=>kp b o (λz=>n (by simp[z])) ((hs₁.2.1 b m).trans q),λb o q n=>?_,λb o q=>?_⟩
  .obtain⟨w_,z⟩:=hs₁.2.2 b o q;exact⟨w_,kp b _ (λz=>n (by simp[z])) z⟩
  .by_cases hb:b=e
   .subst hb;exact⟨_,Heap.get?_update_self _ he₂ rfl⟩
   .obtain⟨w_,z⟩:=hs₁.2.2 b o q;exact⟨_,kp b _ hb z⟩
def wp(y8:A.frames=be (env::outer))(hl:s.heap.FunFrames base (env::outer))(hf:env.frame=be L)(hx:ExAt s.heap e C od T .none)
  (h:∀ h' T',ExAt h' e C od T' (P' L)->s.heap.objs.size<=T'->Stay (frs (env::outer)) [T,e] s.heap h'->Q () {s with heap:=h'}):Pd M A (Qk (.ref e) env) Q E s:=by
 obtain⟨sl,vs,oT,ts,he,h1,Hw,hT,y9,h3⟩:=hx;have gt:1<vs.size:=(FB.mp h1).1;have JI:3<ts.size:=(FB.mp h3).1;have Hv:e ∉ (env::outer).filterMap (·.frame):=λhm=>by
  obtain⟨_,o,ho,hnf⟩:=hl.mem hm;rw[he] at ho;injection ho with ho;subst ho;exact hnf vs rfl
 unfold Qk;simp only[hf];refine Os (PK he rfl h1 ?_);rw[if_pos (show(Value.ref T !=Value.none)=true from by simp)];refine Os (PK hT y9 h3 ?_);rw[if_neg (show¬ ((Value.none==P' L)=true) from by simp[P'])];refine Os (P8 hT y9 JI ?_);have other:∀ b,b≠T->(s.heap.update T (Obj.mapFields (·.setIfInBounds 3 Value.none))).get? b=s.heap.get? b:=λb hb=>Heap.get?_update_other _ _ (Ne.symm hb);have nT:∀ b o,s.heap.get? b=be o->(∀ vs,o.data≠.fields vs)->b≠T:=λb o hb hnf q=>by
  rw[q,hT] at hb;injection hb with hb;subst hb;exact hnf ts y9
 have NA:(s.heap.update T (Obj.mapFields (·.setIfInBounds 3 Value.none))).FunFrames base (env::outer):=hl.of_keeps λb o hb hnf=>⟨o,(other b (nT b o hb hnf)).trans hb,rfl⟩;have NB:∃ o',(s.heap.update T (Obj.mapFields (·.setIfInBounds 3 Value.none))).get? T=be o':=⟨_,Heap.get?_update_self _ hT (Obj.isFreed_of_fields (Obj.data_mapFields y9 _))⟩;refine Os (QQ y8 NA hf λh₁ hs₁=>Os (QJ λpl c5=>?_));unfold EntryCells.newEntry newFields;refine Os (Pq ?_ (c5.sizeOk5 _ _ _ _ _));have he₁:h₁.get? e=be ⟨.ref C,od,.fields vs,sl⟩:=(hs₁.2.1 e Hv).trans ((other e (Ne.symm Hw)).trans he);have fresh:h₁.get? h₁.objs.size=none:=Heap.get?_none_of_le (DU _);generalize IA:({cls:= .type "traceback",dict:=q_,data:= .fields ([Value.ref T,.ref L,.none,P' L,.none]++(if pl.isEmpty then EN 6 Value.none else pl)).toArray}:Pu)=Kl;have he₂:=Heap.get?_push_of_some (h:=h₁) Kl he₁;have IB:h₁.objs.size≠e:=ET (Heap.lt_size he₁);refine P8 he₂ rfl gt (h _ h₁.objs.size ?_ ?_ ?_)
 .refine⟨sl,vs.setIfInBounds 1 (.ref h₁.objs.size),Kl,([Value.ref T,.ref L,.none,P' L,.none]++(if pl.isEmpty then EN 6 Value.none else pl)).toArray,?_,by simp[gt],IB,?_,by rw[<- IA],by simp⟩
  .rw[Heap.get?_update_self _ he₂ rfl];rfl
  .rw[Heap.get?_update_other _ _ (Ne.symm IB)];exact Heap.get?_push_size h₁ (by rw[<- IA];rfl)
 .exact Fz (hs₁.1.trans (Heap.size_after_update _ _ _)).symm
 .have kp:∀ b o,b≠e->h₁.get? b=be o->((h₁.push Kl).update e (Obj.mapFields (·.setIfInBounds 1 (Value.ref h₁.objs.size)))).get? b=be o:=λb o hb z=>by
   rw[Heap.get?_update_other _ _ (Ne.symm hb)];exact Heap.get?_push_of_some _ z
  refine⟨λb o q n m=>kp b o (λz=>n (by simp[z])) ((hs₁.2.1 b m).trans ((other b (λz=>n (by simp[z]))).trans q)),λb o q n=>?_,λb o q=>?_⟩
  .obtain⟨w_,z⟩:=hs₁.2.2 b o ((other b (λz=>n (by simp[z]))).trans q);exact⟨w_,kp b _ (λz=>n (by simp[z])) z⟩
  .by_cases hb:b=e
   .subst hb;exact⟨_,Heap.get?_update_self _ he₂ rfl⟩
   .have:∃ o',(s.heap.update T (Obj.mapFields (·.setIfInBounds 3 Value.none))).get? b=be o':=by
     by_cases hb:b=T
     .rw[hb];exact NB
     .exact⟨o,(other _ hb).trans q⟩
    obtain⟨o',q'⟩:=this;obtain⟨w_,z⟩:=hs₁.2.2 b o' q';exact⟨_,kp b _ hb z⟩
def pw{fl:KB}(hx:ExAt s.heap e C od T fl)(h:∀ h',ExAt h' e C od T .none->Stay [] [T] s.heap h'->Q () {s with heap:=h'}):Pd M A (setFlight (.ref e) q_) Q E s:=by
 obtain⟨sl,vs,oT,ts,he,h1,Hw,hT,y9,h3⟩:=hx;have JI:3<ts.size:=(FB.mp h3).1;unfold setFlight;refine Os (PK he rfl h1 ?_);rw[if_pos (show(Value.ref T !=Value.none)=true from by simp)];refine P8 hT y9 JI (h _ ?_ ?_)
 .exact⟨sl,vs,_,_,(Heap.get?_update_other _ _ Hw).trans he,h1,Hw,Heap.get?_update_self _ hT (Obj.isFreed_of_fields (Obj.data_mapFields y9 _)),Obj.data_mapFields y9 _,by simp[JI]⟩
 .have other:∀ b o,b ∉ [T]->s.heap.get? b=be o->(s.heap.update T (Obj.mapFields (·.setIfInBounds 3 ((q_:Option KF).elim Value.none λf=>P' f)))).get? b=be o:=λb o hb q=>(Heap.get?_update_other _ _ (λz=>hb (by simp[z]))).trans q;refine⟨λb o q n _=>other b o n q,λb o q n=>⟨o.slots,other b o n q⟩,λb o q=>?_⟩;by_cases hb:b=T
  .subst hb;exact⟨_,Heap.get?_update_self _ hT (Obj.isFreed_of_fields (Obj.data_mapFields y9 _))⟩
  .exact⟨o,other b o (by simp[hb]) q⟩
end
def CX1(P:O9)(w:Pe):CXT:=λouter H s E ev s'=>∃ e C od T H',ev= .ref e/\s'.os=s.os/\PZ s'.gens/\Un (frs outer) [] H H' s.heap s'.heap/\HOk P w H' s'.heap/\ExAt s'.heap e C od T .none/\s.heap.get? e=q_/\s.heap.get? T=q_/\H' e=q_/\H' T=q_/\E (.ref C) od H'
def fT{P:O9}{w:Pe}{H:Hp}{h':Heap}(x:HOk P w H h)(st:Stay fs ex h h')(hf:∀ b∈fs,H b=q_)(he:∀ b∈ex,H b=q_):HOk P w H h':=λa o q=>
 (x a o q).stay (λb u hb r=>by
  have hn:H b≠none:=by
   rcases hb with rfl|hb
   .rw[q];exact λz=>nomatch z
   .rw[hb];exact λz=>nomatch z
  exact st.keep b u r (λz=>hn (he b z)) (λz=>hn (hf b z))) (λ_ q=>q) λ_ _ q=>q
def fU{n_:List KF}{H H':Hp}{h1 h2:Heap}(u:Un fs [] H H' h h1)(st:Stay n_ ex h1 h2)(f9:∀ b∈ex,h.get? b=q_)(NC:∀ b∈n_,b∈fs\/h.get? b=q_):Un fs [] H H' h h2 where
 keep:=λb o q n hb hx=>st.keep b o (u.keep b o q n hb hx) (λz=>by rw[f9 b z] at q;cases q) (λz=>(NC b z).elim hb λy=>by rw[y] at q;cases q)
 slot:=λb o q n hb hx=>by
  obtain⟨sl,e1⟩:=u.slot b o q n hb hx;obtain⟨w_,e2⟩:=st.slot b _ e1 (λz=>by rw[f9 b z] at q;cases q);exact⟨w_,e2⟩
 free:=u.free
 there:=λb o q hx=>by
  obtain⟨o1,e1⟩:=u.there b o q hx;exact st.there b o1 e1
 tups:=u.tups
 frzs:=u.frzs
 tbls:=u.tbls
section
variable {P:O9}{w:Pe}{K:DR}{mg:x9->Option KB}{base:Heap}{N:List x9}{qual:x9}{scope:PH}{f:KF}{cd:KB}{A:Pf}{outer:List PU}{s:KM}{H:Hp}{E E':XK}
def pz{b:KF}(hb:b∈frs (Pl qual scope s.heap.objs.size f cd::outer)):b∈frs outer\/s.heap.get? b=none:=by
 unfold frs at hb;rw[Fx] at hb;rcases D2.mp (show b∈s.heap.objs.size::outer.filterMap (·.frame) from hb) with e|e
 .rw[e];exact .inr (Heap.get?_none_of_le (DU _))
 .exact .inl e
def pA{pins:List (KF × Pu)}{σ:L2.St}{H1:Hp}{s1:KM}{e C:KF}{od:Option KF}{sl:Array (Option KB)}{vs:Array KB}(I:Inv (cxOf (CX1 P w) P w K mg base N qual scope f cd A outer s H E') pins σ H1 s1)
  (he:s1.heap.get? e=be ⟨.ref C,od,.fields vs,sl⟩) (h1:vs[1]?=be .none) (He:H1 e=q_) (ne:s.heap.get? e=q_) (hE:E' (.ref C) od H1):(cxOf (CX1 P w) P w K mg base N qual scope f cd A outer s H E').xe (.ref e) s1:=by
 show Pd _ _ (Qx _ _) _ _ _;unfold Qx;refine Os (wo I.ok.frames I.stack rfl he h1 λh2 T2 IC ID Hn=>pw (s:={s1 with heap:=h2}) IC λh3 Km G7=>?_);have IE:s1.heap.get? T2=none:=Heap.get?_none_of_le ID;have f1:∀ b,s1.heap.get? b=q_->s.heap.get? b=none:=λb q=>by
  cases z:s.heap.get? b with
  |none=>rfl
  |some o=>
   obtain⟨o',z'⟩:=I.base.there b o z (by exact λy=>absurd (show b∈([]:List KF) from y) (by simp));rw[q] at z';cases z'
 have hok:HOk P w H1 s1.heap:=I.hok;have IF:H1 T2=none:=hok.fresh ID;have u2:Un (frs outer) [] H H1 s.heap h2:=fU (show Un (frs outer) [] H H1 s.heap s1.heap from I.base) Hn (λb hb=>by rw[DY.mp hb];exact ne) λb hb=>pz hb;have u3:Un (frs outer) [] H H1 s.heap h3:=fU u2 G7 (λb hb=>by rw[DY.mp hb];exact f1 T2 IE) λb hb=>by cases hb
 have k2:=fT hok Hn (λb hb=>I.stkFree b hb) (λb hb=>by rw[DY.mp hb];exact He);have k3:=fT k2 G7 (λb hb=>by cases hb) (λb hb=>by rw[DY.mp hb];exact IF);exact⟨e,C,od,T2,H1,rfl,I.os,I.bare,u3,k3,Km,ne,f1 T2 IE,He,IF,hE⟩
end
end Exc
namespace L2
def Same.tup{K:DR}{H H':Hp}{a:KF}{xs:List V}(e:Same H H')(h:SqT K H a xs):SqT K H' a xs:=by
 rcases h with(h|⟨o,h⟩)|h
 .exact .inl (.inl (e _ _ h))
 .exact .inl (.inr ⟨o,e _ _ h⟩)
 .exact .inr h
end L2
namespace My
def eY{X:Cx}:eV (Exc.CX1 X.prog X.w) X E0:=λ_ _ _ _ _ _ _ h=>by
 obtain⟨e,C,od,T,H',_,_,_,_,_,_,_,_,_,_,h⟩:=h;exact h.elim
def Fun.okC{P:O9}{w:Pe}{K:DR}{mg:x9->Option KB}{base:Heap}{CX:CXT}{x qual:x9}{st:Pb}{f:KF}{fd:Ph}{N ps:List x9}{k:Nat}{sp:Sp}(F:Fun K x qual st f fd)(S:FnScope N ps (ah st))(len:∀ vs H Q E,sp vs H Q E->vs.length=ps.length)
  (a9:∀ (cdv:KB) (A:Pf) (outer:List PU) (s:KM) (H:Hp) (vs:List V) (Q:VK) (E:XK),Room k (A.deeper (Pl qual (ah st) s.heap.objs.size f cdv))->sp vs H Q E->
   ∃ t,PSs (cxOf CX P w K mg base N qual (ah st) f cdv A outer s H E) (aK st) t/\t {nx:=λ_ H'=>Q .non H',rt:=Q} (start N vs) H):FnOk P w K mg base CX (k+1) f fd ps sp:=by
 obtain⟨oc,od,kV,doc,pm,an,cdv,ct,osl,rfl,lk,g6⟩:=F.ex;refine oW lk g6 S len λA outer s H vs Q E hr p8=>?_;exact a9 cdv A outer s H vs Q E hr p8
def Cal(P:O9)(w:Pe)(K:DR)(mg:x9->Option KB)(base:Heap)(n:Nat)(x:x9)(ps:List x9)(sp:Sp):Prop:=
 ∃ f fd,FnOk P w K mg base (Exc.CX1 P w) n f fd ps sp/\Binds K fd ps []/\keepIn K (.ref f)=true/\mg x=be (.ref f)
def Tx(K:DR)(mg:x9->Option KB)(x:x9)(st:Pb)(ps:List x9):Prop:=
 ∃ f fd,Fun K x x st f fd/\Binds K fd ps []/\mg x=be (.ref f)
section
variable {X:Cx}{n m:Nat}{ps:List x9}{sp:Sp}{x:x9}{p pos:Pm}{e:O_}{es:List O_}{t:TA}
def wq(C:Cal X.prog X.w X.K X.mg X.base n x ps sp)(hr:Room m X.A)(ha:PA X (e::es) t)(hg:autoParam (Gl X x) zA0)(hn:autoParam (n<=m) zA1)(d6:autoParam (zND x) zA1)
  (he:autoParam (zSE X e es) zA0) (c5:autoParam (zPL X pos es) zA0):
  PE X (.Call (.Name x p) (e::es) [] pos) (oS sp [] E0 t):=by
 obtain⟨f,fd,F,hb,hk,hm⟩:=C;exact vo F (hr.mono hn) hg hm hk hb .nil eY ha d6 he c5
end
section
variable {P:O9}{w:Pe}{K:DR}{mg:x9->Option KB}{base:Heap}
def Tx.ok{x:x9}{st:Pb}{N ps:List x9}{k:Nat}{sp:Sp}(T:Tx K mg x st ps)(S:FnScope N ps (ah st))(len:∀ vs H Q E,sp vs H Q E->vs.length=ps.length)
  (a9:∀ (f:KF) (cdv:KB) (A:Pf) (outer:List PU) (s:KM) (H:Hp) (vs:List V) (Q:VK) (E:XK),Room k (A.deeper (Pl x (ah st) s.heap.objs.size f cdv))->sp vs H Q E->
   ∃ t,PSs (cxOf (Exc.CX1 P w) P w K mg base N x (ah st) f cdv A outer s H E).nox (aK st) t/\t {nx:=λ_ H'=>Q .non H',rt:=Q} (start N vs) H):Cal P w K mg base (k+1) x ps sp:=by
 obtain⟨f,fd,F,hb,hm⟩:=T;refine⟨f,fd,Fun.okC F S len (λcdv A outer s H vs Q E hr h=>?_),hb,F.kp,hm⟩;obtain⟨t,h1,h2⟩:=a9 f cdv A outer s H vs Q E hr h;exact⟨t,h1.nox,h2⟩
end
def aT{H:Hp}{p:KF}(h:H p=q_)(o:HO):Same H (upd H p o):=λb u q=>by rw[au (bP q h)];exact q
def sz{n:Nat}(h:n<=1000):n<=sizeLine:=Fw (vY h)
end My
namespace L2
section
variable {X:Cx}
variable{e:O_}
def PE.anti{t t':TE}(h:PE X e t)(a:∀ s H Q,t' s H Q->t s H Q):PE X e t':=λpins s σ H Q I q=>h pins s σ H Q I (a _ _ _ q)
def PT.anti{t t':TT}(h:PT X e t)(a:∀ s H Q,t' s H Q->t s H Q):PT X e t':=λpins s σ H Q I q=>h pins s σ H Q I (a _ _ _ q)
def PW.anti{t t':TT}(h:PW X e t)(a:∀ s H Q,t' s H Q->t s H Q):PW X e t':=λwh pins s σ H Q I q=>h wh pins s σ H Q I (a _ _ _ q)
def PA.anti{e:List O_}{t t':TA}(h:PA X e t)(a:∀ s H Q,t' s H Q->t s H Q):PA X e t':=λp pins s σ H Q I q=>h p pins s σ H Q I (a _ _ _ q)
def PS.anti{e:Pb}{t t':TS}(h:PS X e t)(a:∀ E s H,t' E s H->t E s H):PS X e t':=λpins s σ H Q I q=>h pins s σ H Q I (a _ _ _ q)
def PSs.anti{e:List Pb}{t t':TS}(h:PSs X e t)(a:∀ E s H,t' E s H->t E s H):PSs X e t':=λpins s σ H Q I q=>h pins s σ H Q I (a _ _ _ q)
end
end L2
namespace My
inductive D where
 |non|bl (b:Bool)|int (i:Int)|str (x:Str)|tup (xs:List D)|lst (xs:List D)
  |rol (xs:List D)
  |obj (x:x9) (fs:List (x9 × D))
  |exc (x:x9) (fs:List (x9 × D))
  |own (xs:List D)
  |ptr (a:KF)
  |dti (a8:List ((Int × Int) × Int))
def dtiV(a8:List ((Int × Int) × Int)):List (List Key × V):=a8.map λe=>([.inl e.1.1,.inl e.1.2],.int e.2)
def XO(e C:KF)(od:Option KF):HO:= .ext λh=>∃ vs sl,h.get? e=be ⟨.ref C,od,.fields vs,sl⟩
mutual
def Rep(K:DR)(H:Hp):D->V->Prop
 | .non,v=>v= .non
 | .bl b,v=>v= .bl b
 | .int i,v=>v= .int i
 | .str x,v=>v= .str x
 | .tup ds,v=>∃ a vs,v= .ref a/\H a=be (.tup vs)/\Reps K H ds vs
 | .lst ds,v=>∃ a vs,v= .ref a/\H a=be (.lst vs)/\Reps K H ds vs
 | .rol ds,v=>∃ a vs,v= .ref a/\SqL K H a vs/\Reps K H ds vs
 | .obj x fs,v=>∃ a C dx vs,v= .ref a/\nsIn K O8 x=be (be (.ref C))/\H a=be (.ins C dx vs)/\RepF K H fs vs
 | .exc x fs,v=>∃ a C od vs,v= .ref a/\nsIn K O8 x=be (be (.ref C))/\H a=be (XO a C od)/\RepF K H fs vs/\((od=q_/\vs=[])\/∃ b,od=be b/\H b=be (.xd vs))
 | .own _,_=>False
 | .ptr a,v=>v= .ref a
 | .dti a8,v=>∃ a,v= .ref a/\H a=be (.dT (dtiV a8))
def RepF(K:DR)(H:Hp):List (x9 × D)->List (x9 × V)->Prop
 |[],vs=>vs=[]
 |(f,d)::ds,vs=>∃ v r,vs=(f,v)::r/\Rep K H d v/\RepF K H ds r
def Reps(K:DR)(H:Hp):List D->List V->Prop
 |[],vs=>vs=[]
 |d::ds,vs=>∃ v r,vs=v::r/\Rep K H d v/\Reps K H ds r
end
mutual
def Rep.mono{K:DR}{H H':Hp}(g:Same H H'):∀ (d:D) (v:V),Rep K H d v->Rep K H' d v
 | .non,v,h=>by unfold Rep at h ⊢;exact h
 | .bl b,v,h=>by unfold Rep at h ⊢;exact h
 | .int b,v,h=>by unfold Rep at h ⊢;exact h
 | .str b,v,h=>by unfold Rep at h ⊢;exact h
 | .tup ds,v,h=>by
  unfold Rep at h ⊢;obtain⟨a,vs,e,q,r⟩:=h;exact⟨a,vs,e,g _ _ q,Reps.mono g ds vs r⟩
 | .lst ds,v,h=>by
  unfold Rep at h ⊢;obtain⟨a,vs,e,q,r⟩:=h;exact⟨a,vs,e,g _ _ q,Reps.mono g ds vs r⟩
 | .rol ds,v,h=>by
  unfold Rep at h ⊢;obtain⟨a,vs,e,q,r⟩:=h;exact⟨a,vs,e,g.seq q,Reps.mono g ds vs r⟩
 | .obj C fs,v,h=>by
  unfold Rep at h ⊢;obtain⟨a,C,dx,vs,e,n,q,r⟩:=h;exact⟨a,C,dx,vs,e,n,g _ _ q,RepF.mono g fs vs r⟩
 | .exc C fs,v,h=>by
  unfold Rep at h ⊢;obtain⟨a,C,od,vs,e,n,q,r,d⟩:=h;exact⟨a,C,od,vs,e,n,g _ _ q,RepF.mono g fs vs r,d.imp id λ⟨b,h1,h2⟩=>⟨b,h1,g _ _ h2⟩⟩
 | .own ds,v,h=>by
  unfold Rep at h ⊢;exact h
 | .ptr a,v,h=>by unfold Rep at h ⊢;exact h
 | .dti a8,v,h=>by
  unfold Rep at h ⊢;obtain⟨a,e,q⟩:=h;exact⟨a,e,g _ _ q⟩
def RepF.mono{K:DR}{H H':Hp}(g:Same H H'):∀ (ds:List (x9 × D)) (vs:List (x9 × V)),RepF K H ds vs->RepF K H' ds vs
 |[],vs,h=>by unfold RepF at h ⊢;exact h
 |(f,d)::ds,vs,h=>by
  unfold RepF at h ⊢;obtain⟨v,r,e,q1,q2⟩:=h;exact⟨v,r,e,Rep.mono g d v q1,RepF.mono g ds r q2⟩
def Reps.mono{K:DR}{H H':Hp}(g:Same H H'):∀ (ds:List D) (vs:List V),Reps K H ds vs->Reps K H' ds vs
 |[],vs,h=>by unfold Reps at h ⊢;exact h
 |d::ds,vs,h=>by
  unfold Reps at h ⊢;obtain⟨v,r,e,q1,q2⟩:=h;exact⟨v,r,e,Rep.mono g d v q1,Reps.mono g ds r q2⟩
end
section
variable {K:DR}{H:Hp}
variable{v:V}
def rep_non:Rep K H .non v↔v= .non:=by unfold Rep;exact Iff.rfl
def rep_bl{b:Bool}:Rep K H (.bl b) v↔v= .bl b:=by unfold Rep;exact Iff.rfl
def rep_int{i:Int}:Rep K H (.int i) v↔v= .int i:=by unfold Rep;exact Iff.rfl
variable{x:x9}
def rep_str:Rep K H (.str x) v↔v= .str x:=by unfold Rep;exact Iff.rfl
variable{ds:List D}
def rep_tupS:Rep K H (.tup ds) v↔∃ a vs,v= .ref a/\H a=be (.tup vs)/\Reps K H ds vs:=by
 constructor
 .intro h;unfold Rep at h;exact h
 .intro h;unfold Rep;exact h
def rep_tup_mp(h:Rep K H (.tup ds) v):∃ a vs,v= .ref a/\SqT K H a vs/\Reps K H ds vs:=by
 obtain⟨a,vs,e,q,r⟩:=rep_tupS.mp h;exact⟨a,vs,e,SqT.of q,r⟩
def rep_ptr{a:KF}:Rep K H (.ptr a) v↔v= .ref a:=by unfold Rep;exact Iff.rfl
def rep_dti{a8:List ((Int × Int) × Int)}:Rep K H (.dti a8) v↔∃ a,v= .ref a/\H a=be (.dT (dtiV a8)):=by
 constructor
 .intro h;unfold Rep at h;exact h
 .intro h;unfold Rep;exact h
def rep_lst:Rep K H (.lst ds) v↔∃ a vs,v= .ref a/\H a=be (.lst vs)/\Reps K H ds vs:=by
 constructor
 .intro h;unfold Rep at h;exact h
 .intro h;unfold Rep;exact h
def rep_rol:Rep K H (.rol ds) v↔∃ a vs,v= .ref a/\SqL K H a vs/\Reps K H ds vs:=by
 constructor
 .intro h;unfold Rep at h;exact h
 .intro h;unfold Rep;exact h
variable{fs:List (x9 × D)}
def rep_obj:Rep K H (.obj x fs) v↔∃ a C dx vs,v= .ref a/\nsIn K O8 x=be (be (.ref C))/\H a=be (.ins C dx vs)/\RepF K H fs vs:=by
 constructor
 .intro h;unfold Rep at h;exact h
 .intro h;unfold Rep;exact h
def rep_exc:Rep K H (.exc x fs) v↔∃ a C od vs,v= .ref a/\nsIn K O8 x=be (be (.ref C))/\H a=be (XO a C od)/\RepF K H fs vs/\((od=q_/\vs=[])\/∃ b,od=be b/\H b=be (.xd vs)):=by
 constructor
 .intro h;unfold Rep at h;exact h
 .intro h;unfold Rep;exact h
def rep_own:¬ Rep K H (.own ds) v:=by intro h;unfold Rep at h;exact h
variable{vs:List (x9 × V)}
def repf_nil:RepF K H [] vs↔vs=[]:=by unfold RepF;exact Iff.rfl
def repf_cons{f:x9}{d:D}{ds:List (x9 × D)}:RepF K H ((f,d)::ds) vs↔∃ v r,vs=(f,v)::r/\Rep K H d v/\RepF K H ds r:=by
 constructor
 .intro h;unfold RepF at h;exact h
 .intro h;unfold RepF;exact h
def RepF.look{f:x9}{d:D}:∀ {fs:List (x9 × D)} {vs:List (x9 × V)},RepF K H fs vs->fs.lookup f=be d->∃ v,vs.lookup f=be v/\Rep K H d v
 |[],_,_,e=>by cases e
 |(g,x)::fs,vs,h,e=>by
  obtain⟨v,r,rfl,h1,h2⟩:=repf_cons.mp h;rw[Ee] at e ⊢;split at e
  .cases e;exact⟨v,rfl,h1⟩
  .exact RepF.look h2 e
def RepF.none{f:x9}:∀ {fs:List (x9 × D)} {vs:List (x9 × V)},RepF K H fs vs->fs.lookup f=Option.none->vs.lookup f=Option.none
 |[],vs,h,_=>by rw[repf_nil.mp h];rfl
 |(g,x)::fs,vs,h,e=>by
  obtain⟨v,r,rfl,h1,h2⟩:=repf_cons.mp h;rw[Ee] at e ⊢;split at e
  .cases e
  .exact RepF.none h2 e
def reps_nil{vs:List V}:Reps K H [] vs↔vs=[]:=by unfold Reps;exact Iff.rfl
def reps_cons{d:D}{vs:List V}:Reps K H (d::ds) vs↔∃ v r,vs=v::r/\Rep K H d v/\Reps K H ds r:=by
 constructor
 .intro h;unfold Reps at h;exact h
 .intro h;unfold Reps;exact h
def Reps.length:∀ {ds:List D} {vs:List V},Reps K H ds vs->vs.length=ds.length
 |[],vs,h=>by rw[reps_nil.mp h];rfl
 |d::ds,vs,h=>by
  obtain⟨v,r,rfl,_,h2⟩:=reps_cons.mp h;rw[D0,D0,Reps.length h2]
def Reps.get:∀ {ds:List D} {vs:List V} {i:Nat} {d:D},Reps K H ds vs->ds[i]?=be d->∃ v,vs[i]?=be v/\Rep K H d v
 |[],_,_,_,_,e=>by simp at e
 |x::ds,vs,0,d,h,e=>by
  obtain⟨v,r,rfl,h1,_⟩:=reps_cons.mp h;simp at e;subst e;exact⟨v,rfl,h1⟩
 |x::ds,vs,i+1,d,h,e=>by
  obtain⟨v,r,rfl,_,h2⟩:=reps_cons.mp h;obtain⟨u,q1,q2⟩:=Reps.get (i:=i) h2 (by simpa using e);exact⟨u,by simpa using q1,q2⟩
def Reps.ints:∀ {ns:List Int} {vs:List V},Reps K H (ns.map D.int) vs↔vs=ns.map V.int
 |[],vs=>reps_nil
 |n::ns,vs=>by
  rw[Eb,reps_cons,Eb];constructor
  .rintro⟨v,r,rfl,h1,h2⟩;rw[rep_int.mp h1,Reps.ints.mp h2]
  .rintro rfl;exact⟨_,_,rfl,rep_int.mpr rfl,Reps.ints.mpr rfl⟩
end
abbrev SD:=List (Option D)
def fV:D->Bool| .own _=>true|_=>false
structure RepS(K:DR)(B F H:Hp)(t:SD)(s:L2.St):Prop where
 len:s.length=t.length
 val:∀ (i:Nat) d,t[i]?=be (be d)->fV d=false->∃ v,s[i]?=be (be v)/\Rep K F d v
 own:∀ (i:Nat) ds,t[i]?=be (be (.own ds))->∃ a vs,s[i]?=be (be (.ref a))/\H a=be (.lst vs)/\B a=q_/\F a=q_/\Reps K F ds vs
 apart:∀ (i j:Nat) di dj a,t[i]?=be (be (.own di))->t[j]?=be (be (.own dj))->s[i]?=be (be (.ref a))->s[j]?=be (be (.ref a))->i=j
structure Grow(F H F' H':Hp):Prop where
 ff:Same F F'
 fh:Same F' H'
 hh:Same H H'
 out:∀ b,F b=q_->H b≠q_->F' b=q_
variable{F H:Hp}
def Grow.refl(h:Same F H):Grow F H F H:=⟨Same.refl F,h,Same.refl H,λ_ h _=>h⟩
def Grow.trans{F1 H1 F2 H2:Hp}(g:Grow F H F1 H1)(k:Grow F1 H1 F2 H2):Grow F H F2 H2:=
 ⟨g.ff.trans k.ff,k.fh,g.hh.trans k.hh,λb h1 h2=>k.out b (g.out b h1 h2) (by
  cases e:H b with
  |none=>exact absurd e h2
  |some o=>rw[g.hh b o e];exact λz=>nomatch z)⟩
def Grow.new{p:KF}(h:Same F H)(hp:H p=q_)(o:HO):Grow F H (upd F p o) (upd H p o):=by
 have fp:F p=none:=h.free hp;refine⟨aT fp o,λb u e=>?_,aT hp o,λb h1 h2=>?_⟩
 .by_cases hb:b=p
  .subst hb;rw[aC] at e ⊢;exact e
  .rw[au hb] at e ⊢;exact h b u e
 .by_cases hb:b=p
  .subst hb;exact absurd hp h2
  .rw[au hb];exact h1
class Jx where
 B:Hp
 F0:Hp
 RX:SD->x9->List (x9 × D)->Prop
structure Kept[J:Jx](B F0 F H:Hp):Prop where
 bh:Same B H
 fh:Same F H
 f0:Same F0 F
 out:∀ b,F0 b=q_->B b≠q_->F b=q_
 eb:B=J.B
 jf:Same J.F0 F0
 jo:∀ b,J.F0 b=q_->B b≠q_->F0 b=q_
variable{B:Hp}
def Kept.kf[J:Jx]{F0:Hp}(k:Kept B F0 F H):Kept B J.F0 F H:=⟨k.bh,k.fh,k.jf.trans k.f0,λb h1 h2=>k.out b (k.jo b h1 h2) h2,k.eb,Same.refl _,λ_ h _=>h⟩
def Kept.grow[Jx]{F0 F' H':Hp}(k:Kept B F0 F H)(g:Grow F H F' H'):Kept B F0 F' H':=
 ⟨k.bh.trans g.hh,g.fh,k.f0.trans g.ff,λb h1 h2=>g.out b (k.out b h1 h2) (by
  cases e:B b with
  |none=>exact absurd e h2
  |some o=>rw[k.bh b o e];exact λz=>nomatch z),k.eb,k.jf,k.jo⟩
section
variable {K:DR}{B F H F' H':Hp}{t:SD}{s:L2.St}
def RepS.grow(g:Grow F H F' H')(h:RepS K B F H t s):RepS K B F' H' t s where
 len:=h.len
 val:=λi d e no=>let ⟨v,q1,q2⟩:=h.val i d e no;⟨v,q1,q2.mono g.ff⟩
 own:=λi ds e=>by
  obtain⟨a,vs,q1,q2,q3,q4,q5⟩:=h.own i ds e;exact⟨a,vs,q1,g.hh a _ q2,q3,g.out a q4 (by rw[q2];exact λz=>nomatch z),q5.mono g.ff⟩
 apart:=h.apart
variable{i:Nat}
def RepS.set{d:D}{v:V}(h:RepS K B F H t s)(r:Rep K F d v):RepS K B F H (t.set i (be d)) (s.set i (be v)):=by
 have no:fV d=false:=by
  cases d with
  |own ds=>exact absurd r rep_own
  |_=>rfl
 have get:∀ {j:Nat} {x:D},(t.set i (be d))[j]?=be (be x)->(j=i/\x=d/\i<t.length)\/(j≠i/\t[j]?=be (be x)):=λ{j x} e=>by
  by_cases hj:i=j
  .subst hj;rw[Fo] at e;simp at e;exact .inl ⟨rfl,e.2.symm,e.1⟩
  .rw[Eh hj] at e;exact .inr ⟨λz=>hj z.symm,e⟩
 refine⟨by rw[Fp,Fp];exact h.len,λj x e nx=>?_,λj ds e=>?_,λj k dj dk a e1 e2 e3 e4=>?_⟩
 .rcases get e with⟨rfl,rfl,hl⟩|⟨hj,e⟩
  .exact⟨v,by rw[EG (by rw[h.len];exact hl)],r⟩
  .obtain⟨u,q1,q2⟩:=h.val j x e nx;exact⟨u,by rw[Eh (λz=>hj z.symm)];exact q1,q2⟩
 .rcases get e with⟨rfl,rfl,hl⟩|⟨hj,e⟩
  .cases no
  .obtain⟨a,vs,q1,q⟩:=h.own j ds e;exact⟨a,vs,by rw[Eh (λz=>hj z.symm)];exact q1,q⟩
 .rcases get e1 with⟨rfl,rfl,hl⟩|⟨hj,e1⟩
  .cases no
  .rcases get e2 with⟨rfl,rfl,hl⟩|⟨hk,e2⟩
   .cases no
   .rw[Eh (λz=>hj z.symm)] at e3;rw[Eh (λz=>hk z.symm)] at e4;exact h.apart j k dj dk a e1 e2 e3 e4
variable{ds:List D}
def RepS.setOwn{a:KF}{vs:List V}(h:RepS K B F H t s)(hB:B a=q_)(hF:F a=q_)(r:Reps K F ds vs)
  (free:∀ (j:Nat) dj,j≠i->t[j]?=be (be (.own dj))->s[j]?≠be (be (.ref a))):RepS K B F (upd H a (.lst vs)) (t.set i (be (.own ds))) (s.set i (be (.ref a))):=by
 have get:∀ {j:Nat} {x:D},(t.set i (be (.own ds)))[j]?=be (be x)->(j=i/\x= .own ds/\i<t.length)\/(j≠i/\t[j]?=be (be x)):=λ{j x} e=>by
  by_cases hj:i=j
  .subst hj;rw[Fo] at e;simp at e;exact .inl ⟨rfl,e.2.symm,e.1⟩
  .rw[Eh hj] at e;exact .inr ⟨λz=>hj z.symm,e⟩
 refine⟨by rw[Fp,Fp];exact h.len,λj x e nx=>?_,λj dj e=>?_,λj k dj dk b e1 e2 e3 e4=>?_⟩
 .rcases get e with⟨rfl,rfl,hl⟩|⟨hj,e⟩
  .cases nx
  .obtain⟨u,q1,q2⟩:=h.val j x e nx;exact⟨u,by rw[Eh (λz=>hj z.symm)];exact q1,q2⟩
 .rcases get e with⟨rfl,e,hl⟩|⟨hj,e⟩
  .cases e;exact⟨a,vs,by rw[EG (by rw[h.len];exact hl)],aC,hB,hF,r⟩
  .obtain⟨b,us,q1,q2,q⟩:=h.own j dj e;have ne:b≠a:=λz=>free j dj hj e (z ▸ q1);exact⟨b,us,by rw[Eh (λz=>hj z.symm)];exact q1,by rw[au ne];exact q2,q⟩
 .rcases get e1 with⟨hj,c1,hl⟩|⟨hj,f1⟩
  .rcases get e2 with⟨hk,c2,G9⟩|⟨hk,f2⟩
   .rw[hj,hk]
   .rw[hj,EG (by rw[h.len];exact hl)] at e3;rw[Eh (λz=>hk z.symm)] at e4;cases e3;exact absurd e4 (free k dk hk f2)
  .rcases get e2 with⟨hk,c2,G9⟩|⟨hk,f2⟩
   .rw[hk,EG (by rw[h.len];exact G9)] at e4;rw[Eh (λz=>hj z.symm)] at e3;cases e4;exact absurd e3 (free j dj hj f1)
   .rw[Eh (λz=>hj z.symm)] at e3;rw[Eh (λz=>hk z.symm)] at e4;exact h.apart j k dj dk b f1 f2 e3 e4
def RepS.freeze[Jx]{F0:Hp}(h:RepS K B F H t s)(k:Kept B F0 F H)(e:t[i]?=be (be (.own ds))):∃ F',Kept B F0 F' H/\RepS K B F' H (t.set i (be (.lst ds))) s:=by
 obtain⟨a,vs,q1,q2,q3,q4,q5⟩:=h.own i ds e;have hl:i<t.length:=(Ec.mp e).1;have g:Same F (upd F a (.lst vs)):=aT q4 _;have get:∀ {j:Nat} {x:D},(t.set i (be (.lst ds)))[j]?=be (be x)->(j=i/\x= .lst ds)\/(j≠i/\t[j]?=be (be x)):=λ{j x} e=>by
  by_cases hj:i=j
  .subst hj;rw[Fo] at e;simp at e;exact .inl ⟨rfl,e.2.symm⟩
  .rw[Eh hj] at e;exact .inr ⟨λz=>hj z.symm,e⟩
 refine⟨upd F a (.lst vs),⟨k.bh,λb o z=>?_,k.f0.trans g,λb h1 h2=>?_,k.eb,k.jf,k.jo⟩,⟨by rw[Fp];exact h.len,λj x e' nx=>?_,λj dj e'=>?_,λj l dj dl b e1 e2 e3 e4=>?_⟩⟩
 .by_cases hb:b=a
  .subst hb;rw[aC] at z;cases z;exact q2
  .rw[au hb] at z;exact k.fh b o z
 .by_cases hb:b=a
  .subst hb;exact absurd q3 h2
  .rw[au hb];exact k.out b h1 h2
 .rcases get e' with⟨rfl,rfl⟩|⟨hj,e'⟩
  .exact⟨.ref a,q1,rep_lst.mpr ⟨a,vs,rfl,aC,q5.mono g⟩⟩
  .obtain⟨u,p1,p2⟩:=h.val j x e' nx;exact⟨u,p1,p2.mono g⟩
 .rcases get e' with⟨rfl,c⟩|⟨hj,e'⟩
  .cases c
  .obtain⟨b,us,p1,p2,p3,p4,p5⟩:=h.own j dj e';have ne:b≠a:=λz=>hj (h.apart j i dj ds a e' e (z ▸ p1) q1);exact⟨b,us,p1,p2,p3,by rw[au ne];exact p4,p5.mono g⟩
 .rcases get e1 with⟨rfl,c⟩|⟨hj,e1⟩
  .cases c
  .rcases get e2 with⟨rfl,c⟩|⟨hk,e2⟩
   .cases c
   .exact h.apart j l dj dl b e1 e2 e3 e4
end
def startD(N:List x9)(ds:List D):SD:=ds.map be++EN (N.length - ds.length) q_
variable{K:DR}
def Rep.noown{d:D}{v:V}(r:Rep K F d v):fV d=false:=by
 cases d with
 |own ds=>exact absurd r rep_own
 |_=>rfl
def dR{N:List x9}{ds:List D}{vs:List V}(h:Reps K F ds vs):RepS K B F H (startD N ds) (L2.start N vs):=by
 have hl:=h.length;have get:∀ (i:Nat) d,(startD N ds)[i]?=be (be d)->∃ v,(L2.start N vs)[i]?=be (be v)/\Rep K F d v:=λi d e=>by
  unfold startD at e;unfold L2.start;by_cases hi:i<ds.length
  .rw[EH (by simpa using hi),D5] at e;cases q:ds[i]? with
   |none=>rw[q] at e;cases e
   |some x=>
    rw[q] at e;cases e;obtain⟨v,q1,q2⟩:=h.get q;exact⟨v,by rw[EH (by simpa[hl] using hi),D5,q1];rfl,q2⟩
  .rw[EW (by simpa using hi),FU] at e;split at e<;>cases e
 refine⟨by unfold startD L2.start;simp[hl],λi d e _=>get i d e,λi d e=>?_,λi j di dj a e=>?_⟩
 .obtain⟨v,_,r⟩:=get i _ e;exact absurd r rep_own
 .obtain⟨v,_,r⟩:=get i _ e;exact absurd r rep_own
abbrev TD:=SD->(D->Prop)->Prop
abbrev TDT:=SD->(Bool->Prop)->Prop
abbrev TDA:=SD->(List D->Prop)->Prop
structure EndsD where
 nx:SD->Prop
 rt:D->Prop
 bk:SD->Prop:=λ_=>False
 ct:SD->Prop:=λ_=>False
abbrev TSD:=EndsD->SD->Prop
def lE(K:DR)[J:Jx](t:TD):TE:=λs H Q=>∃ B F z,Kept B J.F0 F H/\RepS K B F H z s/\∃ R:D->Prop,t z R/\∀ d v F' H',Grow F H F' H'->R d->Rep K F' d v->Q v H'
def lT(K:DR)[J:Jx](t:TDT):TT:=λs H Q=>∃ B F z,Kept B J.F0 F H/\RepS K B F H z s/\∃ R:Bool->Prop,t z R/\∀ b F' H',Grow F H F' H'->R b->Q b H'
def lA(K:DR)[J:Jx](t:TDA):TA:=λs H Q=>∃ B F z,Kept B J.F0 F H/\RepS K B F H z s/\∃ R:List D->Prop,t z R/\∀ ds vs F' H',Grow F H F' H'->R ds->Reps K F' ds vs->Q vs H'
structure EndsOk[Jx](K:DR)(B F0:Hp)(ED:EndsD)(E:Ends):Prop where
 nx:∀ z' s' F' H',Kept B F0 F' H'->ED.nx z'->RepS K B F' H' z' s'->E.nx s' H'
 rt:∀ d v F' H',Kept B F0 F' H'->ED.rt d->Rep K F' d v->E.rt v H'
 bk:∀ z' s' F' H',Kept B F0 F' H'->ED.bk z'->RepS K B F' H' z' s'->E.bk s' H'
 ct:∀ z' s' F' H',Kept B F0 F' H'->ED.ct z'->RepS K B F' H' z' s'->E.ct s' H'
def lS(K:DR)[Jx](t:TSD):TS:=λE s H=>∃ B F0 F z,Kept B F0 F H/\RepS K B F H z s/\∃ ED:EndsD,t ED z/\EndsOk K B F0 ED E
abbrev DE(X:Cx)[Jx](e:O_)(t:TD):Prop:=PE X e (lE X.K t)
abbrev DT(X:Cx)[Jx](e:O_)(t:TDT):Prop:=PT X e (lT X.K t)
abbrev DW(X:Cx)[Jx](e:O_)(t:TDT):Prop:=PW X e (lT X.K t)
abbrev DA(X:Cx)[Jx](es:List O_)(t:TDA):Prop:=PA X es (lA X.K t)
abbrev DS(X:Cx)[Jx](st:Pb)(t:TSD):Prop:=PS X st (lS X.K t)
abbrev DSs(X:Cx)[Jx](st:List Pb)(t:TSD):Prop:=PSs X st (lS X.K t)
structure WDE(X:Cx)[Jx](e:O_)(t:TD):Prop where
 out:DE X e t
structure WDT(X:Cx)[Jx](e:O_)(t:TDT):Prop where
 out:DT X e t
structure WDW(X:Cx)[Jx](e:O_)(t:TDT):Prop where
 out:DW X e t
structure WDA(X:Cx)[Jx](es:List O_)(t:TDA):Prop where
 out:DA X es t
structure WDS(X:Cx)[Jx](st:Pb)(t:TSD):Prop where
 out:DS X st t
structure WDSs(X:Cx)[Jx](st:List Pb)(t:TSD):Prop where
 out:DSs X st t
section
variable {X:Cx}
def okR(R:D->Prop):D->Prop| .own _=>False|d=>R d
def dVar(i:Nat):TD:=λz R=>match z[i]? with|some (be d)=>okR R d|_=>False
def dC(d:D):TD:=λ_ R=>R d
variable{x:x9}
def aa[Jx](i:Nat){pos:Pm}(hN:autoParam (X.N[i]?=be x) zA0)(hv:autoParam (Vis X.env.scope x) zA5)(hd:autoParam (zND x) zA1)
  (g6:autoParam (zNC x) zA1):WDE X (.Name x pos) (dVar i):=⟨(eO hN hv hd g6).anti λs H Q h=>by
 obtain⟨B,F,z,kf,r,R,h1,h2⟩:=h;have fh:=kf.fh;unfold dVar at h1;split at h1
 .rename_i d e;have no:fV d=false:=by
   cases d with
   |own ds=>exact False.elim h1
   |_=>rfl
  have ND:R d:=by
   cases d with
   |own ds=>exact False.elim h1
   |_=>exact h1
  obtain⟨v,q1,q2⟩:=r.val i d e no;exact⟨v,q1,h2 d v F H (Grow.refl fh) ND q2⟩
 .exact h1.elim⟩
variable{e:O_}
def de_c[Jx]{d:D}{v:V}(h:PE X e (tC v))(r:∀ H,Rep X.K H d v):DE X e (dC d):=h.anti λs H Q q=>by
 obtain⟨B,F,z,kf,_,R,h1,h2⟩:=q;have fh:=kf.fh;exact h2 d v F H (Grow.refl fh) h1 (r F)
def ad[Jx]{i j pos}:WDE X (.Constant (.int i) j pos) (dC (.int i)):=⟨de_c tm λ_=>rep_int.mpr rfl⟩
def bx[Jx]{b j pos}:WDE X (.Constant (.bool b) j pos) (dC (.bl b)):=⟨de_c tw λ_=>rep_bl.mpr rfl⟩
def eZ[Jx]{j pos}:WDE X (.Constant .none j pos) (dC .non):=⟨de_c tz λ_=>rep_non.mpr rfl⟩
def aw[Jx]{x j pos}:WDE X (.Constant (.str x) j pos) (dC (.str x)):=⟨de_c oa λ_=>rep_str.mpr rfl⟩
abbrev RD2:=D->D->(D->Prop)->Prop
def dOp(r:RD2)(ta tb:TD):TD:=λz R=>ta z λx=>tb z λy=>r x y R
def aW(K:DR)(r:R2)(rd:RD2):Prop:=∀ x y u v F H R Q,Same F H->rd x y R->Rep K F x u->Rep K F y v->(∀ d w F' H',Grow F H F' H'->R d->Rep K F' d w->Q w H')->r u v H Q
variable{r:R2}{rd:RD2}
def jm[Jx]{ta tb:TD}(L:aW X.K r rd)(h:PE X e (tOp r (lE X.K ta) (lE X.K tb))):DE X e (dOp rd ta tb):=h.anti λs H Q q=>by
 obtain⟨B,F,z,kf,rs,R,h1,h2⟩:=q;have fh:=kf.fh;refine⟨B,F,z,kf,rs,_,h1,λx u F1 H1 g1 hx rx=>?_⟩;refine⟨B,F1,z,kf.grow g1,rs.grow g1,_,hx,λy v F2 H2 g2 hy ry=>?_⟩;exact L x y u v F2 H2 R Q g2.fh hy (rx.mono g2.ff) ry λd w F' H' g3=>h2 d w F' H' (g1.trans (g2.trans g3))
variable {a b c:O_}{ta tb tc:TD}{pos:Pm}
def cT[Jx]{op:Operator}(ho:OpR X (Pw op) r)(L:aW X.K r rd)(ha:DE X a ta)(hb:DE X b tb):DE X (.BinOp a op b pos) (dOp rd ta tb):=jm L (oC ho ha hb)
def pB[Jx]{op:QT}(ho:OpR X (Pp op) r)(L:aW X.K r rd)(ha:DE X a ta)(hb:DE X b tb)(hm:Py op b=false):DE X (.Compare a [op] [b] pos) (dOp rd ta tb):=jm L (um ho ha hb hm)
def wr[Jx](hr:IxR X r)(L:aW X.K r rd)(ha:DE X a ta)(hb:DE X b tb)(hs:autoParam (eX b) zA6):DE X (.Subscript a b pos) (dOp rd ta tb):=jm L (pe_ix hr ha hb hs)
def rdAdd:RD2:=λx y R=>match x,y with
 | .int i,.int j=>R (.int (i+j))
 | .str i,.str j=>i.length+j.length<=1000000/\R (.str (i++j))
 | .lst xs,.lst ys=>xs.length+ys.length<=1000000/\R (.lst (xs++ys))
 | .tup xs,.tup ys=>(xs≠[]/\ys≠[]/\xs.length+ys.length<=1000000)/\R (.tup (xs++ys))
 |_,_=>False
def pC(K:DR):R2:=λx y H Q=>rI0 (λi j=> .int (i+j)) x y H Q\/((λx y H Q=>∃ i j,x= .str i/\y= .str j/\i.length+j.length<=sizeLine/\Q (.str (i++j)) H) x y H Q\/(rCat x y H Q\/pe K x y H Q))
def pD:OpR X (Pw .Add) (pC X.K):=OpR.or tY (OpR.or uv (OpR.or vT vF))
def Reps.append{K:DR}{F:Hp}:∀ {xs ys:List D} {us vs:List V},Reps K F xs us->Reps K F ys vs->Reps K F (xs++ys) (us++vs)
 |[],ys,us,vs,r1,r2=>by rw[reps_nil.mp r1];exact r2
 |x::xs,ys,us,vs,r1,r2=>by
  obtain⟨u,ur,rfl,a1,a2⟩:=reps_cons.mp r1;exact reps_cons.mpr ⟨u,ur++vs,rfl,a1,Reps.append a2 r2⟩
variable{K:DR}
def Reps.ne_nil{F:Hp}{xs:List D}{us:List V}(r:Reps K F xs us)(h:xs≠[]):us≠[]:=by
 cases xs with
 |nil=>exact absurd rfl h
 |cons x xs=>obtain⟨u,ur,rfl,_⟩:=reps_cons.mp r;exact λz=>nomatch z
def pE:aW K (pC K) rdAdd:=by
 intro x y u v F H R Q fh h rx ry q;unfold rdAdd at h;split at h
 .exact .inl ⟨_,_,rep_int.mp rx,rep_int.mp ry,q _ _ F H (Grow.refl fh) h (rep_int.mpr rfl)⟩
 .exact .inr (.inl ⟨_,_,rep_str.mp rx,rep_str.mp ry,D9 h.1 (by decide),q _ _ F H (Grow.refl fh) h.2 (rep_str.mpr rfl)⟩)
 .obtain⟨a,us,rfl,hq,rr⟩:=rep_lst.mp rx;obtain⟨b,vs,rfl,k6,l9⟩:=rep_lst.mp ry;refine .inr (.inr (.inl ⟨a,b,us,vs,rfl,rfl,fh _ _ hq,fh _ _ k6,by rw[rr.length,l9.length];exact D9 h.1 (by decide),λp hp=>?_⟩));exact q _ _ _ _ (Grow.new fh hp _) h.2 (rep_lst.mpr ⟨p,_,rfl,aC,(rr.append l9).mono (aT (fh.free hp) _)⟩)
 .obtain⟨a,us,rfl,hq,rr⟩:=rep_tup_mp rx;obtain⟨b,vs,rfl,k6,l9⟩:=rep_tup_mp ry;obtain⟨⟨n1,n2,hz⟩,h⟩:=h;refine .inr (.inr (.inr ⟨a,b,us,vs,rfl,rfl,fh.tup hq,fh.tup k6,rr.ne_nil n1,by rw[rr.length,l9.length];exact D9 hz (by decide),λz=>absurd z (l9.ne_nil n2),λ_ p hp=>?_⟩));exact q _ _ _ _ (Grow.new fh hp _) h (rep_tupS.mpr ⟨p,_,rfl,aC,(rr.append l9).mono (aT (fh.free hp) _)⟩)
 .exact h.elim
def ao[Jx](ha:WDE X a ta)(hb:WDE X b tb):WDE X (.BinOp a .Add b pos) (dOp rdAdd ta tb):=⟨have ha:=ha.out;have hb:=hb.out;cT pD pE ha hb⟩
def rdSub:RD2:=λx y R=>match x,y with| .int i,.int j=>R (.int (i - j))|_,_=>False
def pF:aW K (rI0 λi j=> .int (i - j)) rdSub:=by
 intro x y u v F H R Q fh h rx ry q;unfold rdSub at h;split at h
 .exact⟨_,_,rep_int.mp rx,rep_int.mp ry,q _ _ F H (Grow.refl fh) h (rep_int.mpr rfl)⟩
 .exact h.elim
def bA[Jx](ha:WDE X a ta)(hb:WDE X b tb):WDE X (.BinOp a .Sub b pos) (dOp rdSub ta tb):=⟨have ha:=ha.out;have hb:=hb.out;cT oE pF ha hb⟩
def rdMul:RD2:=λx y R=>match x,y with| .int i,.int j=>CMul i j/\R (.int (i*j))|_,_=>False
def wt:aW K (rI CMul λi j=> .int (i*j)) rdMul:=by
 intro x y u v F H R Q fh h rx ry q;unfold rdMul at h;split at h
 .exact⟨_,_,rep_int.mp rx,rep_int.mp ry,h.1,q _ _ F H (Grow.refl fh) h.2 (rep_int.mpr rfl)⟩
 .exact h.elim
def aE[Jx](ha:WDE X a ta)(hb:WDE X b tb):WDE X (.BinOp a .Mult b pos) (dOp rdMul ta tb):=⟨have ha:=ha.out;have hb:=hb.out;cT tZ wt ha hb⟩
def rdFdiv:RD2:=λx y R=>match x,y with| .int i,.int j=>(0<j/\j<1073741824)/\R (.int (i / j))|_,_=>False
def wu:aW K (rI CDiv λi j=> .int (i / j)) rdFdiv:=by
 intro x y u v F H R Q fh h rx ry q;unfold rdFdiv at h;split at h
 .exact⟨_,_,rep_int.mp rx,rep_int.mp ry,h.1,q _ _ F H (Grow.refl fh) h.2 (rep_int.mpr rfl)⟩
 .exact h.elim
def bv[Jx](ha:WDE X a ta)(hb:WDE X b tb):WDE X (.BinOp a .FloorDiv b pos) (dOp rdFdiv ta tb):=⟨have ha:=ha.out;have hb:=hb.out;cT ub wu ha hb⟩
def pG(i j:Int):Prop:=j≠0/\j.natAbs<4611686018427387904
def wv:OpR X (Pw .FloorDiv) (rI pG λi j=> .int (i.fdiv j)):=opI λ_ j _ _ _ _ _ hc q=>floordiv_int hc.1 q (.inl (PyProof.noPylong_of_log2 (Gs ((Gw (λz=>hc.1 (Int.natAbs_eq_zero.mp z))).mpr (show j.natAbs<2 ^ 62 from hc.2)) (by decide))))
def rdFdivN:RD2:=λx y R=>match x,y with| .int i,.int j=>(j≠0/\j.natAbs<4611686018427387904)/\R (.int (i.fdiv j))|_,_=>False
def ww:aW K (rI pG λi j=> .int (i.fdiv j)) rdFdivN:=by
 intro x y u v F H R Q fh h rx ry q;unfold rdFdivN at h;split at h
 .exact⟨_,_,rep_int.mp rx,rep_int.mp ry,h.1,q _ _ F H (Grow.refl fh) h.2 (rep_int.mpr rfl)⟩
 .exact h.elim
def wx[Jx](ha:WDE X a ta)(hb:WDE X b tb):WDE X (.BinOp a .FloorDiv b pos) (dOp rdFdivN ta tb):=⟨have ha:=ha.out;have hb:=hb.out;cT wv ww ha hb⟩
def rdMod:RD2:=λx y R=>match x,y with| .int i,.int j=>0<j/\R (.int (i % j))|_,_=>False
def wy:aW K (rI (λ_ j=>0<j) λi j=> .int (i % j)) rdMod:=by
 intro x y u v F H R Q fh h rx ry q;unfold rdMod at h;split at h
 .exact⟨_,_,rep_int.mp rx,rep_int.mp ry,h.1,q _ _ F H (Grow.refl fh) h.2 (rep_int.mpr rfl)⟩
 .exact h.elim
def aG[Jx](ha:WDE X a ta)(hb:WDE X b tb):WDE X (.BinOp a .Mod b pos) (dOp rdMod ta tb):=⟨have ha:=ha.out;have hb:=hb.out;cT uc wy ha hb⟩
def rdModN:RD2:=λx y R=>match x,y with| .int i,.int j=>j≠0/\R (.int (i.fmod j))|_,_=>False
def wz:aW K (rI (λ_ j=>j≠0) λi j=> .int (i.fmod j)) rdModN:=by
 intro x y u v F H R Q fh h rx ry q;unfold rdModN at h;split at h
 .exact⟨_,_,rep_int.mp rx,rep_int.mp ry,h.1,q _ _ F H (Grow.refl fh) h.2 (rep_int.mpr rfl)⟩
 .exact h.elim
def pH[Jx](ha:WDE X a ta)(hb:WDE X b tb):WDE X (.BinOp a .Mod b pos) (dOp rdModN ta tb):=⟨have ha:=ha.out;have hb:=hb.out;cT ud wz ha hb⟩
def rdPow:RD2:=λx y R=>match x,y with| .int i,.int j=>(0<=j/\j<=1000000/\i.natAbs<2 ^ 64)/\R (.int (i ^ j.toNat))|_,_=>False
def wA:aW K (rI CPow λi j=> .int (i ^ j.toNat)) rdPow:=by
 intro x y u v F H R Q fh h rx ry q;unfold rdPow at h;split at h
 .exact⟨_,_,rep_int.mp rx,rep_int.mp ry,h.1,q _ _ F H (Grow.refl fh) h.2 (rep_int.mpr rfl)⟩
 .exact h.elim
def dS[Jx](ha:WDE X a ta)(hb:WDE X b tb):WDE X (.BinOp a .Pow b pos) (dOp rdPow ta tb):=⟨have ha:=ha.out;have hb:=hb.out;cT ue wA ha hb⟩
def rdLt:RD2:=λx y R=>match x,y with| .int i,.int j=>R (.bl (decide (i<j)))|_,_=>False
def pI:aW K (rI0 λi j=> .bl (decide (i<j))) rdLt:=by
 intro x y u v F H R Q fh h rx ry q;unfold rdLt at h;split at h
 .exact⟨_,_,rep_int.mp rx,rep_int.mp ry,q _ _ F H (Grow.refl fh) h (rep_bl.mpr rfl)⟩
 .exact h.elim
def rdGt:RD2:=λx y R=>match x,y with| .int i,.int j=>R (.bl (decide (j<i)))|_,_=>False
def wB:aW K (rI0 λi j=> .bl (decide (j<i))) rdGt:=by
 intro x y u v F H R Q fh h rx ry q;unfold rdGt at h;split at h
 .exact⟨_,_,rep_int.mp rx,rep_int.mp ry,q _ _ F H (Grow.refl fh) h (rep_bl.mpr rfl)⟩
 .exact h.elim
def rdGe:RD2:=λx y R=>match x,y with| .int i,.int j=>R (.bl (decide (j<=i)))|_,_=>False
def wC:aW K (rI0 λi j=> .bl (decide (j<=i))) rdGe:=by
 intro x y u v F H R Q fh h rx ry q;unfold rdGe at h;split at h
 .exact⟨_,_,rep_int.mp rx,rep_int.mp ry,q _ _ F H (Grow.refl fh) h (rep_bl.mpr rfl)⟩
 .exact h.elim
def rdEq:RD2:=λx y R=>match x,y with
 | .int i,.int j=>R (.bl (decide (i=j)))
 | .bl i,.bl j=>R (.bl (decide (i=j)))
 | .str i,.str j=>R (.bl (decide (i=j)))
 | .non,.non=>R (.bl true)
 |_,_=>False
def rdNe:RD2:=λx y R=>match x,y with
 | .int i,.int j=>R (.bl (!decide (i=j)))
 | .bl i,.bl j=>R (.bl (!decide (i=j)))
 | .str i,.str j=>R (.bl (!decide (i=j)))
 | .non,.non=>R (.bl false)
 |_,_=>False
def jn:aW K rEq rdEq:=by
 intro x y u v F H R Q fh h rx ry q;unfold rdEq at h;split at h
 .rw[rep_int.mp rx,rep_int.mp ry];refine⟨rfl,q _ _ F H (Grow.refl fh) h (rep_bl.mpr ?_)⟩;simp
 .rw[rep_bl.mp rx,rep_bl.mp ry];refine⟨rfl,q _ _ F H (Grow.refl fh) h (rep_bl.mpr ?_)⟩;simp
 .rw[rep_str.mp rx,rep_str.mp ry];refine⟨rfl,q _ _ F H (Grow.refl fh) h (rep_bl.mpr ?_)⟩;simp
 .rw[rep_non.mp rx,rep_non.mp ry];refine⟨rfl,q _ _ F H (Grow.refl fh) h (rep_bl.mpr ?_)⟩;simp
 .exact h.elim
def wE:aW K rNe rdNe:=by
 intro x y u v F H R Q fh h rx ry q;unfold rdNe at h;split at h
 .rw[rep_int.mp rx,rep_int.mp ry];refine⟨rfl,q _ _ F H (Grow.refl fh) h (rep_bl.mpr ?_)⟩;simp
 .rw[rep_bl.mp rx,rep_bl.mp ry];refine⟨rfl,q _ _ F H (Grow.refl fh) h (rep_bl.mpr ?_)⟩;simp
 .rw[rep_str.mp rx,rep_str.mp ry];refine⟨rfl,q _ _ F H (Grow.refl fh) h (rep_bl.mpr ?_)⟩;simp
 .rw[rep_non.mp rx,rep_non.mp ry];refine⟨rfl,q _ _ F H (Grow.refl fh) h (rep_bl.mpr ?_)⟩;simp
 .exact h.elim
def jp[Jx](ha:WDE X a ta)(hb:WDE X b tb):WDE X (.Compare a [.Eq] [b] pos) (dOp rdEq ta tb):=⟨have ha:=ha.out;have hb:=hb.out;pB ja jn ha hb (nomark _)⟩
def pJ:D->Bool| .non=>true|_=>false
def rdIs(f:Bool->Bool):RD2:=λx y R=>match y with| .non=>R (.bl (f (pJ x)))|_=>False
def pK{H:Hp}{x:D}{u:V}(r:Rep K H x u):decide (u= .non)=pJ x:=by
 cases x with
 |non=>rw[rep_non.mp r];rfl
 |bl b=>rw[rep_bl.mp r];rfl
 |int b=>rw[rep_int.mp r];rfl
 |str b=>rw[rep_str.mp r];rfl
 |tup b=>obtain⟨a,vs,rfl,_⟩:=rep_tup_mp r;rfl
 |lst b=>obtain⟨a,vs,rfl,_⟩:=rep_lst.mp r;rfl
 |rol b=>obtain⟨a,vs,rfl,_⟩:=rep_rol.mp r;rfl
 |obj C b=>obtain⟨a,C,dx,vs,rfl,_⟩:=rep_obj.mp r;rfl
 |exc C b=>obtain⟨a,C,od,vs,rfl,_⟩:=rep_exc.mp r;rfl
 |own b=>exact absurd r rep_own
 |ptr b=>rw[rep_ptr.mp r];rfl
 |dti b=>obtain⟨a,rfl,_⟩:=rep_dti.mp r;rfl
def wF:aW K (λx y H Q=>y= .non/\Q (.bl (decide (x= .non))) H) (rdIs id):=by
 intro x y u v F H R Q fh h rx ry q;unfold rdIs at h;split at h
 .exact⟨rep_non.mp ry,q _ _ F H (Grow.refl fh) h (rep_bl.mpr (by rw[pK rx];rfl))⟩
 .exact h.elim
def wG:aW K (λx y H Q=>y= .non/\Q (.bl (!decide (x= .non))) H) (rdIs not):=by
 intro x y u v F H R Q fh h rx ry q;unfold rdIs at h;split at h
 .exact⟨rep_non.mp ry,q _ _ F H (Grow.refl fh) h (rep_bl.mpr (by rw[pK rx]))⟩
 .exact h.elim
def rdIx:RD2:=λx y R=>match x,y with
 | .tup ds,.int i=>∃ d,atI ds i=be d/\R d
 | .lst ds,.int i=>∃ d,atI ds i=be d/\R d
 | .rol ds,.int i=>∃ d,atI ds i=be d/\R d
 | .str x,.int i=>∃ c,(x.length<=1000000/\atI x.cps.toList i=be c)/\R (.str ⟨#[c]⟩)
 |_,_=>False
def Reps.at{H:Hp}{ds:List D}{vs:List V}{i:Int}{d:D}(r:Reps K H ds vs)(e:atI ds i=be d):∃ v,atI vs i=be v/\Rep K H d v:=by
 unfold atI at e ⊢;rw[r.length];cases q:ixN ds.length i with
 |none=>rw[q] at e;cases e
 |some j=>
  rw[q] at e;exact r.get e
def pL:aW K (rIx K) rdIx:=by
 intro x y u v F H R Q fh h rx ry q;unfold rdIx at h;split at h
 .obtain⟨d,e,h⟩:=h;obtain⟨a,vs,e1,hq,rs⟩:=rep_tup_mp rx;obtain⟨w,e2,k7⟩:=rs.at e;exact .inr (.inl ⟨a,vs,_,w,e1,rep_int.mp ry,fh.tup hq,e2,q d w F H (Grow.refl fh) h k7⟩)
 .obtain⟨d,e,h⟩:=h;obtain⟨a,vs,e1,hq,rs⟩:=rep_lst.mp rx;obtain⟨w,e2,k7⟩:=rs.at e;exact .inl ⟨a,vs,_,w,e1,rep_int.mp ry,fh.seq (SqL.of hq),e2,q d w F H (Grow.refl fh) h k7⟩
 .obtain⟨d,e,h⟩:=h;obtain⟨a,vs,e1,hq,rs⟩:=rep_rol.mp rx;obtain⟨w,e2,k7⟩:=rs.at e;exact .inl ⟨a,vs,_,w,e1,rep_int.mp ry,fh.seq hq,e2,q d w F H (Grow.refl fh) h k7⟩
 .obtain⟨c,⟨hz,e⟩,h⟩:=h;exact .inr (.inr ⟨_,_,c,rep_str.mp rx,rep_int.mp ry,D9 hz (by decide),e,q _ _ F H (Grow.refl fh) h (rep_str.mpr rfl)⟩)
 .exact h.elim
def af[Jx](ha:WDE X a ta)(hb:WDE X b tb)(hs:autoParam (eX b) zA6):WDE X (.Subscript a b pos) (dOp rdIx ta tb):=⟨have ha:=ha.out;have hb:=hb.out;wr pf pL ha hb hs⟩
def dUn(r:D->(D->Prop)->Prop)(ta:TD):TD:=λz R=>ta z λx=>r x R
def pM:D->(D->Prop)->Prop:=λx R=>match x with| .int i=>R (.int (-i))|_=>False
def cw[Jx](ha:WDE X a ta):WDE X (.UnaryOp .USub a pos) (dUn pM ta):=⟨have ha:=ha.out;(tX uf ha).anti λs H Q h=>by
 obtain⟨B,F,z,kf,rs,R,h1,h2⟩:=h;have fh:=kf.fh;refine⟨B,F,z,kf,rs,_,h1,λx u F1 H1 g1 hx rx=>?_⟩;unfold pM at hx;split at hx
 .exact⟨_,rep_int.mp rx,h2 _ _ F1 H1 g1 hx (rep_int.mpr rfl)⟩
 .exact hx.elim⟩
def dNil:TDA:=λ_ R=>R []
def wH(ta:TD)(tr:TDA):TDA:=λz R=>ta z λx=>tr z λxs=>R (x::xs)
def ae[Jx]:WDA X [] dNil:=⟨pa_nil.anti λs H Q h=>by
 obtain⟨B,F,z,kf,rs,R,h1,h2⟩:=h;have fh:=kf.fh;exact h2 [] [] F H (Grow.refl fh) h1 (reps_nil.mpr rfl)⟩
variable{es:List O_}{t:TDA}
def ac[Jx]{te:TD}(ha:WDE X e te)(hr:WDA X es t)(hs:autoParam (zSE X e es) zA0):WDA X (e::es) (wH te t):=⟨have ha:=ha.out;have hr:=hr.out;(bg ha hr hs).anti λs H Q h=>by
 obtain⟨B,F,z,kf,rs,R,h1,h2⟩:=h;have fh:=kf.fh;refine⟨B,F,z,kf,rs,_,h1,λx u F1 H1 g1 hx rx=>?_⟩;refine⟨B,F1,z,kf.grow g1,rs.grow g1,_,hx,λxs us F2 H2 g2 hy ry=>?_⟩;exact h2 _ _ F2 H2 (g1.trans g2) hy (reps_cons.mpr ⟨_,_,rfl,rx.mono g2.ff,ry⟩)⟩
def dTup(t:TDA):TD:=λz R=>t z λxs=>xs.length<=1000/\R (.tup xs)
def dLst(t:TDA):TD:=λz R=>t z λxs=>xs.length<=1000/\R (.lst xs)
def aR[Jx]{x1}(h:WDA X es t):WDE X (.Tuple es x1 pos) (dTup t):=⟨have h:=h.out;(oR h).anti λs H Q q=>by
 obtain⟨B,F,z,kf,rs,R,h1,h2⟩:=q;have fh:=kf.fh;refine⟨B,F,z,kf,rs,_,h1,λds vs F1 H1 g1 hx rx=>?_⟩;have hl:=rx.length;refine⟨sz (by rw[hl];exact hx.1),λp hp=>?_⟩;exact h2 _ _ _ _ (g1.trans (Grow.new g1.fh hp _)) hx.2 (rep_tupS.mpr ⟨p,vs,rfl,aC,rx.mono (aT (g1.fh.free hp) _)⟩)⟩
def bR[Jx](h:WDA X es t):WDE X (.List es pos) (dLst t):=⟨have h:=h.out;(jd h).anti λs H Q q=>by
 obtain⟨B,F,z,kf,rs,R,h1,h2⟩:=q;have fh:=kf.fh;refine⟨B,F,z,kf,rs,_,h1,λds vs F1 H1 g1 hx rx=>?_⟩;have hl:=rx.length;refine⟨sz (by rw[hl];exact hx.1),λp hp=>?_⟩;exact h2 _ _ _ _ (g1.trans (Grow.new g1.fh hp _)) hx.2 (rep_lst.mpr ⟨p,vs,rfl,aC,rx.mono (aT (g1.fh.free hp) _)⟩)⟩
abbrev SpD:=List D->(D->Prop)->Prop
def lSp(K:DR)(S:SpD):Sp:=λvs H Q _=>∃ F ds,Same F H/\Reps K F ds vs/\∃ R:D->Prop,S ds R/\∀ d v F' H',Grow F H F' H'->R d->Rep K F' d v->Q v H'
def wI(S:SpD)(t:TDA):TD:=λz R=>t z λds=>S ds R
abbrev CalD(P:O9)(w:Pe)(K:DR)(mg:x9->Option KB)(base:Heap)(n:Nat)(x:x9)(ps:List x9)(S:SpD):Prop:=Cal P w K mg base n x ps (lSp K S)
variable{p:Pm}
def ax[Jx]{n m:Nat}{ps:List x9}{S:SpD}(C:CalD X.prog X.w X.K X.mg X.base n x ps S)(hr:Room m X.A)(ha:WDA X (e::es) t)(hg:autoParam (Gl X x) zA0)(hn:autoParam (n<=m) zA1)(d6:autoParam (zND x) zA1)
  (he:autoParam (zSE X e es) zA0) (c5:autoParam (zPL X pos es) zA0):WDE X (.Call (.Name x p) (e::es) [] pos) (wI S t):=⟨have ha:=ha.out;(wq C hr ha hg hn d6 he c5).anti λs H Q h=>by
 obtain⟨B,F,z,kf,rs,R,h1,h2⟩:=h;have fh:=kf.fh;refine⟨B,F,z,kf,rs,_,h1,λds vs F1 H1 g1 hx rx=>?_⟩;exact⟨F1,ds,g1.fh,by rw[EA];exact rx,R,hx,λd v F' H' g=>h2 d v F' H' (g1.trans g)⟩⟩
abbrev RDn:=List D->(D->Prop)->Prop
def ci(K:DR)(r:List V->Hp->VK->Prop)(rd:RDn):Prop:=∀ ds vs F H R Q,Same F H->rd ds R->Reps K F ds vs->(∀ d w F' H',Grow F H F' H'->R d->Rep K F' d w->Q w H')->r vs H Q
def dCB(r:RDn)(t:TDA):TD:=λz R=>t z λds=>r ds R
def fW[Jx]{id:String}{r:List V->Hp->VK->Prop}{rd:RDn}(hc:bz X (.builtin id) r)(L:ci X.K r rd)(hm:X.mg x=q_)(hv:Pr x=be (.builtin id))(ha:DA X (e::es) t)(hg:autoParam (Gl X x) zA0)(hn:autoParam (x≠"__name__") zA1)(d6:autoParam (zND x) zA1)
  (he:autoParam (zSE X e es) zA0) (c5:autoParam (zPL X pos es) zA0):DE X (.Call (.Name x p) (e::es) [] pos) (dCB rd t):=(fP hc hg hm hv ha hn d6 he c5).anti λs H Q h=>by
 obtain⟨B,F,z,kf,rs,R,h1,h2⟩:=h;have fh:=kf.fh;refine⟨B,F,z,kf,rs,_,h1,λds vs F1 H1 g1 hx rx=>?_⟩;exact L ds vs F1 H1 R Q g1.fh hx rx λd w F' H' g=>h2 d w F' H' (g1.trans g)
def rdLen:RDn:=λds R=>match ds with
 |[.tup xs]=>R (.int xs.length)
 |[.lst xs]=>R (.int xs.length)
 |[.rol xs]=>R (.int xs.length)
 |[.str x]=>x.length<=1000000/\R (.int x.length)
 |_=>False
def pN:ci K (λxs H Q=>∃ x n,xs=[x]/\LenV K x H n/\Q (.int n) H) rdLen:=by
 intro ds vs F H R Q fh h rx q;unfold rdLen at h;split at h
 .obtain⟨v,r,rfl,h1,h2⟩:=reps_cons.mp rx;rw[reps_nil.mp h2];obtain⟨a,us,rfl,hq,rs⟩:=rep_tup_mp h1;exact⟨.ref a,us.length,rfl,.inr ⟨us,fh.tup hq,rfl⟩,q _ _ F H (Grow.refl fh) h (rep_int.mpr (by rw[rs.length]))⟩
 .obtain⟨v,r,rfl,h1,h2⟩:=reps_cons.mp rx;rw[reps_nil.mp h2];obtain⟨a,us,rfl,hq,rs⟩:=rep_lst.mp h1;exact⟨.ref a,us.length,rfl,.inl ⟨us,fh.seq (SqL.of hq),rfl⟩,q _ _ F H (Grow.refl fh) h (rep_int.mpr (by rw[rs.length]))⟩
 .obtain⟨v,r,rfl,h1,h2⟩:=reps_cons.mp rx;rw[reps_nil.mp h2];obtain⟨a,us,rfl,hq,rs⟩:=rep_rol.mp h1;exact⟨.ref a,us.length,rfl,.inl ⟨us,fh.seq hq,rfl⟩,q _ _ F H (Grow.refl fh) h (rep_int.mpr (by rw[rs.length]))⟩
 .obtain⟨v,r,rfl,h1,h2⟩:=reps_cons.mp rx;rw[reps_nil.mp h2,rep_str.mp h1];exact⟨.str _,_,rfl,⟨D9 h.1 (by decide),rfl⟩,q _ _ F H (Grow.refl fh) h.2 (rep_int.mpr rfl)⟩
 .exact h.elim
def cj[Jx](hm:X.mg "len"=q_)(ha:WDA X [e] t)(hg:autoParam (Gl X "len") zA0)(he:autoParam (zSE X e []) zA0):WDE X (.Call (.Name "len" p) [e] [] pos) (dCB rdLen t):=⟨have ha:=ha.out;fW jb pN hm PySem.boot_len ha hg (by decide) (by decide) he⟩
def rdAbs:RDn:=λds R=>match ds with
 |[.int i]=>R (.int (if i<0 then -i else i))
 |_=>False
def wJ:ci K (λxs H Q=>∃ i,xs=[.int i]/\Q (.int (if i<0 then -i else i)) H) rdAbs:=by
 intro ds vs F H R Q fh h rx q;unfold rdAbs at h;split at h
 .obtain⟨v,r,rfl,h1,h2⟩:=reps_cons.mp rx;rw[reps_nil.mp h2,rep_int.mp h1];exact⟨_,rfl,q _ _ F H (Grow.refl fh) h (rep_int.mpr rfl)⟩
 .exact h.elim
def jq[Jx](hm:X.mg "abs"=q_)(ha:WDA X [e] t)(hg:autoParam (Gl X "abs") zA0)(he:autoParam (zSE X e []) zA0):WDE X (.Call (.Name "abs" p) [e] [] pos) (dCB rdAbs t):=⟨have ha:=ha.out;fW uw wJ hm PyProof.Rows.boot_abs ha hg (by decide) (by decide) he⟩
end
section
variable {X:Cx}{a b c e:O_}{ta tb tc te:TD}{pos:Pm}
def dTst(t:TD):TDT:=λz R=>t z λx=>match x with| .bl k=>R k|_=>False
def du[Jx]{op:QT}{r:R2}{rd:RD2}(ho:OpR X (Pp op) r)(L:aW X.K r rd)(ha:DE X a ta)(hb:DE X b tb)(hm:Py op b=false):DT X (.Compare a [op] [b] pos) (dTst (dOp rd ta tb)):=(oK ho ha hb hm).anti λs H Q q=>by
 obtain⟨B,F,z,kf,rs,R,h1,h2⟩:=q;have fh:=kf.fh;refine⟨B,F,z,kf,rs,_,h1,λx u F1 H1 g1 hx rx=>?_⟩;refine⟨B,F1,z,kf.grow g1,rs.grow g1,_,hx,λy v F2 H2 g2 hy ry=>?_⟩;refine L x y u v F2 H2 _ _ g2.fh hy (rx.mono g2.ff) ry λd w F' H' g3 hd rd=>?_;split at hd
 .exact⟨_,rep_bl.mp rd,h2 _ F' H' (g1.trans (g2.trans g3)) hd⟩
 .exact hd.elim
def fb[Jx](ha:WDE X a ta)(hb:WDE X b tb):WDT X (.Compare a [.Lt] [b] pos) (dTst (dOp rdLt ta tb)):=⟨have ha:=ha.out;have hb:=hb.out;du oJ pI ha hb (nomark _)⟩
def jr[Jx](ha:WDE X a ta)(hb:WDE X b tb):WDT X (.Compare a [.Gt] [b] pos) (dTst (dOp rdGt ta tb)):=⟨have ha:=ha.out;have hb:=hb.out;du ui wB ha hb (nomark _)⟩
def wK[Jx](ha:WDE X a ta)(hb:WDE X b tb):WDT X (.Compare a [.GtE] [b] pos) (dTst (dOp rdGe ta tb)):=⟨have ha:=ha.out;have hb:=hb.out;du uj wC ha hb (nomark _)⟩
def bH[Jx](ha:WDE X a ta)(hb:WDE X b tb):WDT X (.Compare a [.Eq] [b] pos) (dTst (dOp rdEq ta tb)):=⟨have ha:=ha.out;have hb:=hb.out;du ja jn ha hb (nomark _)⟩
def bX[Jx](ha:WDE X a ta)(hb:WDE X b tb):WDT X (.Compare a [.NotEq] [b] pos) (dTst (dOp rdNe ta tb)):=⟨have ha:=ha.out;have hb:=hb.out;du uh wE ha hb (nomark _)⟩
def wL[Jx](ha:WDE X a ta)(hb:WDE X b tb):WDT X (.Compare a [.IsNot] [b] pos) (dTst (dOp (rdIs not) ta tb)):=⟨have ha:=ha.out;have hb:=hb.out;du ul wG ha hb (nomark _)⟩
def dTru(t:TD):TDT:=λz R=>t z λx=>match x with
 | .non=>R false
 | .bl k=>R k
 | .int i=>R (i !=0)
 | .str y=>y.length<=1000/\R ((y.length:Int) !=0)
 | .tup xs=>R (!xs.isEmpty)
 | .lst xs=>R (!xs.isEmpty)
 | .rol xs=>R (!xs.isEmpty)
 |_=>False
variable{K:DR}
def Reps.isEmpty{H:Hp}{ds:List D}{vs:List V}(r:Reps K H ds vs):vs.isEmpty=ds.isEmpty:=by
 cases ds with
 |nil=>rw[reps_nil.mp r];rfl
 |cons d ds=>obtain⟨v,r',rfl,_⟩:=reps_cons.mp r;rfl
def bB[Jx](ha:WDE X a ta)(he:autoParam (∀ gV,isTrue a X.env gV=(do let v <- gV;Qe a.pos;Qy [v] (truthy v))) zA2):WDT X a (dTru ta):=⟨have ha:=ha.out;(uu ha he).anti λs H Q q=>by
 obtain⟨B,F,z,kf,rs,R,h1,h2⟩:=q;have fh:=kf.fh;refine⟨B,F,z,kf,rs,_,h1,λx u F1 H1 g1 hx rx=>?_⟩;split at hx
 .rw[rep_non.mp rx];exact⟨false,rfl,h2 _ F1 H1 g1 hx⟩
 .rw[rep_bl.mp rx];exact⟨_,rfl,h2 _ F1 H1 g1 hx⟩
 .rw[rep_int.mp rx];exact⟨_,rfl,h2 _ F1 H1 g1 hx⟩
 .rw[rep_str.mp rx];exact⟨_,⟨sz hx.1,rfl⟩,h2 _ F1 H1 g1 hx.2⟩
 .obtain⟨p,vs,rfl,hq,rr⟩:=rep_tup_mp rx;exact⟨_,.inr (.inl ⟨vs,g1.fh.tup hq,by rw[rr.isEmpty]⟩),h2 _ F1 H1 g1 hx⟩
 .obtain⟨p,vs,rfl,hq,rr⟩:=rep_lst.mp rx;exact⟨_,.inl ⟨vs,g1.fh.seq (SqL.of hq),by rw[rr.isEmpty]⟩,h2 _ F1 H1 g1 hx⟩
 .obtain⟨p,vs,rfl,hq,rr⟩:=rep_rol.mp rx;exact⟨_,.inl ⟨vs,g1.fh.seq hq,by rw[rr.isEmpty]⟩,h2 _ F1 H1 g1 hx⟩
 .exact hx.elim⟩
variable {tA x8:TDT}{rest:List O_}
def dAnd(t u:TDT):TDT:=λz R=>t z λc=>if c=true then u z R else R false
def dOr(t u:TDT):TDT:=λz R=>t z λc=>if c=true then R true else u z R
def dNot(t:TDT):TDT:=λz R=>t z λc=>R (!c)
def wM[Jx](ha:WDT X a tA):WDW X (.BoolOp .And [a] pos) tA:=⟨have ha:=ha.out;oe ha⟩
def dv[Jx](ha:WDT X a tA):WDW X (.BoolOp .Or [a] pos) tA:=⟨have ha:=ha.out;og ha⟩
def wN[Jx](ha:WDT X a tA)(hb:WDW X (.BoolOp .And (b::rest) pos) x8):WDW X (.BoolOp .And (a::b::rest) pos) (dAnd tA x8):=⟨have ha:=ha.out;have hb:=hb.out;(oh ha hb).anti λs H Q q=>by
 obtain⟨B,F,z,kf,rs,R,h1,h2⟩:=q;have fh:=kf.fh;refine⟨B,F,z,kf,rs,_,h1,λk F1 H1 g1 hx=>?_⟩;cases k with
 |true=>exact⟨B,F1,z,kf.grow g1,rs.grow g1,R,hx,λb F' H' g=>h2 b F' H' (g1.trans g)⟩
 |false=>exact h2 _ F1 H1 g1 hx⟩
def cU[Jx](ha:WDT X a tA)(hb:WDW X (.BoolOp .Or (b::rest) pos) x8):WDW X (.BoolOp .Or (a::b::rest) pos) (dOr tA x8):=⟨have ha:=ha.out;have hb:=hb.out;(oi ha hb).anti λs H Q q=>by
 obtain⟨B,F,z,kf,rs,R,h1,h2⟩:=q;have fh:=kf.fh;refine⟨B,F,z,kf,rs,_,h1,λk F1 H1 g1 hx=>?_⟩;cases k with
 |false=>exact⟨B,F1,z,kf.grow g1,rs.grow g1,R,hx,λb F' H' g=>h2 b F' H' (g1.trans g)⟩
 |true=>exact h2 _ F1 H1 g1 hx⟩
def cV[Jx](h:WDW X a tA):WDT X a tA:=⟨have h:=h.out;PW.pt h⟩
def ck[Jx](ha:WDT X a tA):WDT X (.UnaryOp .Not a pos) (dNot tA):=⟨have ha:=ha.out;(tF ha).anti λs H Q q=>by
 obtain⟨B,F,z,kf,rs,R,h1,h2⟩:=q;have fh:=kf.fh;exact⟨B,F,z,kf,rs,_,h1,λk F1 H1 g1 hx=>h2 _ F1 H1 g1 hx⟩⟩
def wO(ta tb:TD):TD:=λz R=>ta z λx=>match x with| .bl k=>if k=true then tb z R else R (.bl false)|_=>False
def wP(ta:TD):TD:=λz R=>ta z λx=>match x with| .bl k=>R (.bl (!k))|_=>False
def pO[Jx]{op}(h:WDE X a ta):WDE X (.BoolOp op [a] pos) ta:=⟨have h:=h.out;tI h⟩
def pP[Jx](ha:WDE X a ta)(hb:WDE X (.BoolOp .And (b::rest) pos) tb):WDE X (.BoolOp .And (a::b::rest) pos) (wO ta tb):=⟨have ha:=ha.out;have hb:=hb.out;(tJ ha hb).anti λs H Q q=>by
 obtain⟨B,F,z,kf,rs,R,h1,h2⟩:=q;have fh:=kf.fh;refine⟨B,F,z,kf,rs,_,h1,λx u F1 H1 g1 hx rx=>?_⟩;split at hx
 .rename_i k;refine⟨k,rep_bl.mp rx,?_⟩;cases k with
  |true=>exact⟨B,F1,z,kf.grow g1,rs.grow g1,R,hx,λd v F' H' g=>h2 d v F' H' (g1.trans g)⟩
  |false=>exact h2 _ _ F1 H1 g1 hx (rep_bl.mpr rfl)
 .exact hx.elim⟩
def wQ[Jx](ha:WDE X a ta):WDE X (.UnaryOp .Not a pos) (wP ta):=⟨have ha:=ha.out;(tK ha).anti λs H Q q=>by
 obtain⟨B,F,z,kf,rs,R,h1,h2⟩:=q;have fh:=kf.fh;refine⟨B,F,z,kf,rs,_,h1,λx u F1 H1 g1 hx rx=>?_⟩;split at hx
 .exact⟨_,rep_bl.mp rx,h2 _ _ F1 H1 g1 hx (rep_bl.mpr rfl)⟩
 .exact hx.elim⟩
def tyD:D->String
 | .non=>"NoneType"| .bl _=>"bool"| .int _=>"int"| .str _=>"str"| .tup _=>"tuple"| .lst _=>"list"| .rol _=>"list"| .obj _ _=>"object"| .exc _ _=>"object"| .own _=>"list"| .ptr _=>"object"| .dti _=>"dict"
def dw(t:String)(x:D):Bool:=tyD x==t||(tyD x=="bool" && t=="int")
def TyQ(K:DR)(H:Hp)(x:V)(t:String):Prop:=TyOf K H x (.type t)\/(t="tuple"/\∃ a xs,x= .ref a/\SqT K H a xs)\/(t="list"/\∃ a xs,x= .ref a/\SqL K H a xs)
def wR:bz X (.builtin "isinstance") (λxs H Q=>∃ x t c k,xs=[x,.ty c]/\TyQ X.K H x t/\kitOne X.K (.type t) (.type c)=be k/\Q (.bl k) H):=by
 intro pins s σ H xs us Q I r h;obtain⟨x,t,c,k,rfl,ty,e,q⟩:=h;obtain⟨u,u',rfl,rx,rc⟩:=fM r;cases(show u'=Value.type c from rc);rcases ty with ty|⟨rfl,a,ys,rfl,hq⟩|⟨rfl,a,ys,rfl,hq⟩
 .exact vi I rx ty e λtk=>⟨.bl k,H,I.tok _,rfl,q⟩
 .cases(show u=Value.ref a from rx);obtain⟨its,_,⟨o,h1,h2,_⟩,_⟩:=I.tuple hq;exact kia_one kitx_tuple I.kIn ⟨o,h1,h2⟩ e (λz=>nomatch z) λtk=>⟨.bl k,H,I.tok _,rfl,q⟩
 .cases(show u=Value.ref a from rx);obtain⟨its,_,pl,_⟩:=I.list hq;obtain⟨o,n,h1,h2,_⟩:=pl;exact kia_one kitx_list I.kIn ⟨o,h1,h2⟩ e (λz=>nomatch z) λtk=>⟨.bl k,H,I.tok _,rfl,q⟩
def dz:D->Bool| .obj _ _=>false| .exc _ _=>false| .ptr _=>false| .dti _=>false|_=>true
def wS{F H:Hp}{x:D}{u:V}(fh:Same F H)(r:Rep K F x u)(no:dz x=true):TyQ K H u (tyD x):=by
 cases x with
 |non=>rw[rep_non.mp r];exact .inl .non
 |bl b=>rw[rep_bl.mp r];exact .inl (.bl b)
 |int b=>rw[rep_int.mp r];exact .inl (.int b)
 |str b=>rw[rep_str.mp r];exact .inl (.str b)
 |tup b=>obtain⟨a,vs,rfl,hq,_⟩:=rep_tup_mp r;exact .inr (.inl ⟨rfl,a,vs,rfl,fh.tup hq⟩)
 |lst b=>obtain⟨a,vs,rfl,hq,_⟩:=rep_lst.mp r;exact .inr (.inr ⟨rfl,a,vs,rfl,fh.seq (SqL.of hq)⟩)
 |rol b=>obtain⟨a,vs,rfl,hq,_⟩:=rep_rol.mp r;exact .inr (.inr ⟨rfl,a,vs,rfl,fh.seq hq⟩)
 |obj C b=>cases no
 |exc C b=>cases no
 |ptr b=>cases no
 |dti b=>cases no
 |own b=>exact absurd r rep_own
def wT(t:String):D->(D->Prop)->Prop:=λx R=>match x with| .obj _ _=>False| .exc _ _=>False| .ptr _=>False| .dti _=>False|x=>R (.bl (dw t x))
def dU[Jx]{p p2:Pm}{y:x9}{t:String}(hm:X.mg "isinstance"=q_)(NE:X.mg y=q_)(ha:WDE X a ta)(hv:Pr y=be (.type t))
  (hk:∀ x:D,dz x=true->kitOne X.K (.type (tyD x)) (.type t)=be (dw t x)) (hg:autoParam (Gl X "isinstance") zA0) (NF:autoParam (Gl X y) zA0) (hn:autoParam (y≠"__name__") zA1) (d6:autoParam (zND y) zA1)
  (m8:autoParam (Pg [a,.Name y p2] X.env=(false,Pj a X.env)::Pg [.Name y p2] X.env) zA0) (j_:autoParam (Pg [.Name y p2] X.env=(false,Pj (.Name y p2) X.env)::Pg [] X.env) zA0) (c5:autoParam ((PP pos (Pg [.Name y p2] X.env)).any (·.1)=false) zA0):WDE X (.Call (.Name "isinstance" p) [a,.Name y p2] [] pos) (dUn (wT t) ta):=⟨have ha:=ha.out;(fP wR hg hm PyProof.Rows.boot_isinstance (bg ha (bg (tE (v:= .ty t) NF NE hv rfl hn d6) pa_nil j_) m8) (by decide) (by decide) m8 c5).anti λs H Q q=>by
 obtain⟨B,F,z,kf,rs,R,h1,h2⟩:=q;have fh:=kf.fh;refine⟨B,F,z,kf,rs,_,h1,λx u F1 H1 g1 hx rx=>?_⟩;have no:dz x=true:=by
  cases x with
  |obj C b=>exact False.elim hx
  |exc C b=>exact False.elim hx
  |ptr b=>exact False.elim hx
  |dti b=>exact False.elim hx
  |_=>rfl
 have i6:R (.bl (dw t x)):=by
  cases x with
  |obj C b=>exact False.elim hx
  |exc C b=>exact False.elim hx
  |ptr b=>exact False.elim hx
  |dti b=>exact False.elim hx
  |_=>exact hx
 exact⟨u,tyD x,t,_,rfl,wS g1.fh rx no,hk x no,h2 _ _ F1 H1 g1 i6 (rep_bl.mpr rfl)⟩⟩
def wU:∀ x:D,dz x=true->kitOne K (.type (tyD x)) (.type "int")=be (dw "int" x):=by intro x no;cases x<;>first|rfl|cases no
def kit_bool:∀ x:D,dz x=true->kitOne K (.type (tyD x)) (.type "bool")=be (dw "bool" x):=by intro x no;cases x<;>first|rfl|cases no
def kit_tuple:∀ x:D,dz x=true->kitOne K (.type (tyD x)) (.type "tuple")=be (dw "tuple" x):=by intro x no;cases x<;>first|rfl|cases no
def kit_str:∀ x:D,dz x=true->kitOne K (.type (tyD x)) (.type "str")=be (dw "str" x):=by intro x no;cases x<;>first|rfl|cases no
def toV:D->Option V
 | .non=>be .non| .bl b=>be (.bl b)| .int i=>be (.int i)| .str x=>be (.str x)|_=>q_
def bj(d:D):Bool:=(toV d).isSome
def eqF:D->D->Bool
 | .non,.non=>true
 | .bl a,.bl b=>a==b
 | .bl a,.int b=>(if a then 1 else 0)==b
 | .int a,.bl b=>a==(if b then 1 else 0)
 | .int a,.int b=>a==b
 | .str a,.str b=>a==b
 |_,_=>false
def eqFs:List D->List D->Bool
 |[],[]=>true
 |x::xs,y::ys=>eqF x y && eqFs xs ys
 |_,_=>false
end
section
variable {X:Cx}{a b:O_}{ta tb:TD}{pos:Pm}
def eqVs:List V->List V->Bool
 |[],[]=>true
 |x::xs,y::ys=>eqV x y && eqVs xs ys
 |_,_=>false
def fX:∀ (xs ys:List V),((DV (min xs.length ys.length)).all (λj=>eqV (xs.getD j .non) (ys.getD j .non)) && xs.length==ys.length)=eqVs xs ys
 |[],[]=>rfl
 |[],_::_=>by simp[eqVs]
 |_::_,[]=>by simp[eqVs]
 |x::xs,y::ys=>by
  have ih:=fX xs ys;rw[eqVs,<- ih];have e:min (x::xs).length (y::ys).length=min xs.length ys.length+1:=by simp only[D0];lia
  rw[e,Gx,EI,FY];have e2:((x::xs).length==(y::ys).length)=(xs.length==ys.length):=by simp
  rw[e2,Bool.and_assoc];rfl
variable{xs:List V}
def Vals.getD{us:List KB}{j:Nat}(r:Vals xs us)(h:j<us.length):RelV (xs.getD j .non) us[j]:=by
 have hl:=L2.Vals.length r;obtain⟨u,q1,q2⟩:=L2.Vals.get (i:=j) (x:=xs.getD j .non) r (by rw[Ei (by lia)];simp[EB,Ei (show j<xs.length by lia)]);rw[Ei h] at q1;cases q1;exact q2
def flat_getD{j:Nat}(h:xs.all bp=true):bp (xs.getD j .non)=true:=by
 by_cases hj:j<xs.length
 .have q:=EQ.mp h xs[j] (EJ hj);simpa[EB,Ei hj] using q
 .simp[EB,EC (Fj hj),bp]
def js{K:DR}{H:Hp}{x y:D}{u v:V}(rx:Rep K H x u)(ry:Rep K H y v)(fx:bj x=true)(fy:bj y=true):eqV u v=eqF x y:=by
 cases x with
 |tup _=>cases fx
 |lst _=>cases fx
 |rol _=>cases fx
 |obj _ _=>cases fx
 |exc _ _=>cases fx
 |ptr _=>cases fx
 |dti _=>cases fx
 |own _=>cases fx
 |non=>rw[rep_non.mp rx];cases y with
  |tup _=>cases fy
  |lst _=>cases fy
  |rol _=>cases fy
  |obj _ _=>cases fy
  |exc _ _=>cases fy
  |ptr _=>cases fy
  |dti _=>cases fy
  |own _=>cases fy
  |non=>rw[rep_non.mp ry];rfl
  |bl _=>rw[rep_bl.mp ry];rfl
  |int _=>rw[rep_int.mp ry];rfl
  |str _=>rw[rep_str.mp ry];rfl
 |bl _=>rw[rep_bl.mp rx];cases y with
  |tup _=>cases fy
  |lst _=>cases fy
  |rol _=>cases fy
  |obj _ _=>cases fy
  |exc _ _=>cases fy
  |ptr _=>cases fy
  |dti _=>cases fy
  |own _=>cases fy
  |non=>rw[rep_non.mp ry];rfl
  |bl _=>rw[rep_bl.mp ry];rfl
  |int _=>rw[rep_int.mp ry];rfl
  |str _=>rw[rep_str.mp ry];rfl
 |int _=>rw[rep_int.mp rx];cases y with
  |tup _=>cases fy
  |lst _=>cases fy
  |rol _=>cases fy
  |obj _ _=>cases fy
  |exc _ _=>cases fy
  |ptr _=>cases fy
  |dti _=>cases fy
  |own _=>cases fy
  |non=>rw[rep_non.mp ry];rfl
  |bl _=>rw[rep_bl.mp ry];rfl
  |int _=>rw[rep_int.mp ry];rfl
  |str _=>rw[rep_str.mp ry];rfl
 |str _=>rw[rep_str.mp rx];cases y with
  |tup _=>cases fy
  |lst _=>cases fy
  |rol _=>cases fy
  |obj _ _=>cases fy
  |exc _ _=>cases fy
  |ptr _=>cases fy
  |dti _=>cases fy
  |own _=>cases fy
  |non=>rw[rep_non.mp ry];rfl
  |bl _=>rw[rep_bl.mp ry];rfl
  |int _=>rw[rep_int.mp ry];rfl
  |str _=>rw[rep_str.mp ry];rfl
def dW{K:DR}{H:Hp}{x:D}{u:V}(rx:Rep K H x u)(fx:bj x=true):bp u=true:=by
 cases x with
 |tup _=>cases fx
 |lst _=>cases fx
 |rol _=>cases fx
 |obj _ _=>cases fx
 |exc _ _=>cases fx
 |ptr _=>cases fx
 |dti _=>cases fx
 |own _=>cases fx
 |non=>rw[rep_non.mp rx];rfl
 |bl _=>rw[rep_bl.mp rx];rfl
 |int _=>rw[rep_int.mp rx];rfl
 |str _=>rw[rep_str.mp rx];rfl
def cW{K:DR}{H:Hp}:∀ {xs:List D} {us:List V},Reps K H xs us->xs.all bj=true->us.all bp=true
 |[],us,r,_=>by rw[reps_nil.mp r];rfl
 |x::xs,us,r,f=>by
  obtain⟨v,vr,rfl,r1,r2⟩:=reps_cons.mp r;rw[EI,Ek] at f ⊢;exact⟨dW r1 f.1,cW r2 f.2⟩
def jt{K:DR}{H:Hp}:∀ {xs ys:List D} {us vs:List V},Reps K H xs us->Reps K H ys vs->xs.all bj=true->ys.all bj=true->eqVs us vs=eqFs xs ys
 |[],[],us,vs,r1,r2,_,_=>by rw[reps_nil.mp r1,reps_nil.mp r2];rfl
 |[],y::ys,us,vs,r1,r2,_,_=>by
  obtain⟨v,vr,rfl,_,_⟩:=reps_cons.mp r2;rw[reps_nil.mp r1];rfl
 |x::xs,[],us,vs,r1,r2,_,_=>by
  obtain⟨v,vr,rfl,_,_⟩:=reps_cons.mp r1;rw[reps_nil.mp r2];rfl
 |x::xs,y::ys,us,vs,r1,r2,f1,f2=>by
  obtain⟨u,ur,rfl,a1,a2⟩:=reps_cons.mp r1;obtain⟨v,vr,rfl,b1,b2⟩:=reps_cons.mp r2;rw[EI,Ek] at f1 f2;rw[eqVs,eqFs,js a1 b1 f1.1 f2.1,jt a2 b2 f1.2 f2.2]
end
section
variable {X:Cx}{a b c e:O_}{ta tb tc te:TD}{pos:Pm}{st:Pb}{rest:List Pb}{t u:TSD}
def wV:TSD:=λE z=>E.nx z
def dSeq(t u:TSD):TSD:=λE z=>t {E with nx:=u E} z
def aV[Jx]:WDSs X [] wV:=⟨pss_nil.anti λE s H q=>by
 obtain⟨B,F0,F,z,k,rs,ED,h,e⟩:=q;exact e.nx z s F H k h rs⟩
def ai[Jx](h1:WDS X st t)(h2:WDSs X rest u):WDSs X (st::rest) (dSeq t u):=⟨have h1:=h1.out;have h2:=h2.out;(eQ h1 h2).anti λE s H q=>by
 obtain⟨B,F0,F,z,k,rs,ED,h,e⟩:=q;exact⟨B,F0,F,z,k,rs,{ED with nx:=u ED},h,⟨λz' s' F' H' k' hz r'=>⟨B,F0,F',z',k',r',ED,hz,e⟩,e.rt,e.bk,e.ct⟩⟩⟩
def aq[Jx](h1:WDS X st t):WDSs X [st] t:=⟨have h1:=h1.out;oj h1⟩
def dFrz(i:Nat)(t:TSD):TSD:=λE z=>match z[i]? with|some (be (.own ds))=>t E (z.set i (be (.lst ds)))|_=>False
def fg[Jx](i:Nat){IG:List Pb}(h:WDSs X IG t):WDSs X IG (dFrz i t):=⟨have h:=h.out;PSs.anti h λE s H q=>by
 obtain⟨B,F0,F,z,k,rs,ED,h,e⟩:=q;unfold dFrz at h;split at h
 .rename_i ds ez;obtain⟨F',k',r'⟩:=rs.freeze k ez;exact⟨B,F0,F',_,k',r',ED,h,e⟩
 .exact h.elim⟩
def dRet(te:TD):TSD:=λE z=>te z E.rt
def aA[Jx](he:WDE X e te):WDS X (.Return (be e) pos) (dRet te):=⟨have he:=he.out;(om he).anti λE s H q=>by
 obtain⟨B,F0,F,z,k,rs,ED,h,e⟩:=q;exact⟨B,F,z,k.kf,rs,_,h,λd v F' H' g hd rd=>e.rt d v F' H' (k.grow g) hd rd⟩⟩
def dIfS(c:TDT)(t u:TSD):TSD:=λE z=>c z λb=>if b=true then t E z else u E z
variable{l r:List Pb}
def pQ[Jx]{c:O_}{tc:TDT}(hc:DT X c tc)(ha:DSs X l t)(hb:DSs X r u):DS X (.If c l r pos) (dIfS tc t u):=(oq hc ha hb).anti λE s H q=>by
 obtain⟨B,F0,F,z,k,rs,ED,h,e⟩:=q;refine⟨B,F,z,k.kf,rs,_,h,λb F1 H1 g hk=>?_⟩;cases b with
 |true=>exact⟨B,F0,F1,z,k.grow g,rs.grow g,ED,hk,e⟩
 |false=>exact⟨B,F0,F1,z,k.grow g,rs.grow g,ED,hk,e⟩
def dIfJ(c:TDT)(t u:TSD):TSD:=λE z=>∃ J:SD->Prop,(c z λb=>if b=true then t {E with nx:=J} z else u {E with nx:=J} z)/\∀ z',J z'->E.nx z'
def dA[Jx]{c:O_}{tc:TDT}(hc:WDT X c tc)(ha:WDSs X l t)(hb:WDSs X r u):WDS X (.If c l r pos) (dIfJ tc t u):=⟨have hc:=hc.out;have ha:=ha.out;have hb:=hb.out;(pQ hc ha hb).anti λE s H q=>by
 obtain⟨B,F0,F,z,k,rs,ED,⟨J,h,j⟩,e⟩:=q;exact⟨B,F0,F,z,k,rs,{ED with nx:=J},h,⟨λz' s' F' H' k' hz r'=>e.nx z' s' F' H' k' (j z' hz) r',e.rt,e.bk,e.ct⟩⟩⟩
def dSet(i:Nat)(te:TD):TSD:=λE z=>∃ P:D->Prop,te z P/\∀ d,P d->E.nx (z.set i (be d))
variable{x:x9}
def am[Jx](i:Nat){c8:Pm}(hN:X.N.Nodup)(he:WDE X e te)(hi:autoParam (X.N[i]?=be x) zA0)(hx:autoParam (Loc X.env.scope x) zA4)(hs:autoParam (Pt e (be (.Name x c8)) pos.line X.env=pure false) zA0)
  (hf:autoParam (zFN X x) zA3):WDS X (.Assign [.Name x c8] e pos) (dSet i te):=⟨have he:=he.out;(iY hN hi hx he hs hf).anti λE s H q=>by
 obtain⟨B,F0,F,z,k,rs,ED,⟨P,h,j⟩,e⟩:=q;exact⟨B,F,z,k.kf,rs,P,h,λd v F' H' g hd rd=>e.nx _ _ F' H' (k.grow g) (j d hd) ((rs.grow g).set rd)⟩⟩
def dNew(i:Nat)(ta:TDA):TSD:=λE z=>ta z λds=>ds.length<=1000/\E.nx (z.set i (be (.own ds)))
variable{es:List O_}
def fY[Jx](i:Nat){c8 p2:Pm}{ta:TDA}(hN:X.N.Nodup)(he:WDA X es ta)(hi:autoParam (X.N[i]?=be x) zA0)(hx:autoParam (Loc X.env.scope x) zA4)(hs:autoParam (Pt (.List es p2) (be (.Name x c8)) pos.line X.env=pure false) zA0)
  (hf:autoParam (zFN X x) zA3):WDS X (.Assign [.Name x c8] (.List es p2) pos) (dNew i ta):=⟨have he:=he.out;(iY hN hi hx (jd he) hs hf).anti λE s H q=>by
 obtain⟨B,F0,F,z,k,rs,ED,h,e⟩:=q;refine⟨B,F,z,k.kf,rs,_,h,λds vs F1 H1 g hd rd=>?_⟩;have hl:=rd.length;refine⟨sz (by rw[hl];exact hd.1),λp hp=>?_⟩;have k1:=k.grow g;have r1:=rs.grow g;have hB:B p=none:=k1.bh.free hp;have hF:F1 p=none:=k1.fh.free hp;refine e.nx _ _ F1 _ ⟨k1.bh.trans (aT hp _),k1.fh.trans (aT hp _),k1.f0,k1.out,k1.eb,k1.jf,k1.jo⟩ hd.2 (r1.setOwn hB hF rd λj dj hj e1 e2=>?_);obtain⟨a,us,q1,q2,_⟩:=r1.own j dj e1;rw[e2] at q1;cases q1;rw[hp] at q2;cases q2⟩
def dApp(i:Nat)(te:TD):TSD:=λE z=>match z[i]? with|some (be (.own ds))=>(te z λd=>ds.length<=100000/\E.nx (z.set i (be (.own (ds++[d])))))|_=>False
def dX{K:DR}{F:Hp}{d:D}{v:V}(r:Rep K F d v):Reps K F [d] [v]:=reps_cons.mpr ⟨v,[],rfl,r,reps_nil.mpr rfl⟩
def fj[Jx](i:Nat){p1 apos cpos:Pm}(he:WDE X e te)(hN:autoParam (X.N[i]?=be x) zA0)(hv:autoParam (Vis X.env.scope x) zA5)(hd:autoParam (zND x) zA1)
  (g6:autoParam (zNC x) zA1) (m8:autoParam (zSE X e []) zA0)
  (b9:autoParam (Pi (.Name x p1) "append" X.env (Pj (.Name x p1) X.env)=Pj (.Name x p1) X.env) zA0)
  (d9:autoParam (zHF X cpos [e]) zA0)
  (c7:autoParam ((apos.endLine==cpos.line)=true) zA0) (y_:autoParam (Pt (.Call (.Attribute (.Name x p1) "append" apos) [e] [] cpos) q_ pos.line X.env=pure false) zA0):WDS X (.Expr (.Call (.Attribute (.Name x p1) "append" apos) [e] [] cpos) pos) (dApp i te):=⟨have he:=he.out;(ol (dQ PySem.F.plainAttrs_list PySem.F.slot_list_append PySem.F.type_list_append fQ (eO hN hv hd g6) (bg he pa_nil m8) b9 d9 c7 m8) y_).anti λE s H q=>by
 obtain⟨B,F0,F,z,k,rs,ED,h,e⟩:=q;unfold dApp at h;split at h
 .rename_i ds ez;obtain⟨a,vs,q1,q2,q3,q4,q5⟩:=rs.own i ds ez;refine⟨.ref a,q1,.inl ⟨rfl,vs,SqL.of q2⟩,?_⟩;refine⟨B,F,z,k.kf,rs,_,h,λd v F1 H1 g hd rd=>?_⟩;have k1:=k.grow g;have r1:=rs.grow g;have a1:H1 a=be (.lst vs):=g.hh a _ q2;have f1:F1 a=none:=g.out a q4 (by rw[q2];exact λz=>nomatch z);have hl:vs.length=ds.length:=q5.length;have hz:vs.length<sizeLine:=by
   have h1:ds.length<=100000:=hd.1;have h2:(100000:Nat)<sizeLine:=by decide
   lia
  refine⟨a,vs,v,rfl,rfl,a1,hz,?_⟩;have same:∀ {G:Hp},G a=q_->Same G H1->Same G (upd H1 a (.lst (vs++[v]))):=λ{G} ga gs b o eb=>by
   have ne:b≠a:=λz=>by rw[z,ga] at eb;cases eb
   rw[au ne];exact gs b o eb
  have r2:=r1.setOwn (i:=i) (a:=a) (vs:=vs++[v]) (ds:=ds++[d]) q3 f1 ((q5.mono g.ff).append (dX rd)) (λj dj hj e1 e2=>hj (rs.apart j i dj ds a e1 ez e2 q1));have es:s.set i (be (.ref a))=s:=by
   apply FC;intro n;by_cases hn:i=n
   .subst hn;rw[EG (Ec.mp q1).1,q1]
   .rw[Eh hn]
  rw[es] at r2;exact e.nx _ s F1 _ ⟨same q3 k1.bh,same f1 k1.fh,k1.f0,k1.out,k1.eb,k1.jf,k1.jo⟩ hd.2 r2
 .exact h.elim⟩
def aX:List Nat->List D->SD->SD
 |i::is,d::ds,z=>aX is ds (z.set i (be d))
 |_,_,z=>z
def DGs(X:Cx)(ts:List O_)(is:List Nat):Prop:=∃ u:TGs,PGs X ts u/\∀ (ds:List D) (vs:List V) (z:SD) (s:L2.St) (B F H:Hp) (Q:L2.St->Hp->Prop),ds.length=is.length->Reps X.K F ds vs->RepS X.K B F H z s->(∀ s',RepS X.K B F H (aX is ds z) s'->Q s' H)->u vs s H Q
def fZ[Jx]:DGs X [] []:=⟨_,tP,λds vs z s B F H Q hl r rs q=>by
 cases ds with
 |nil=>exact⟨reps_nil.mp r,q s rs⟩
 |cons _ _=>cases hl⟩
variable{p:Pm}{is:List Nat}
def dg_cons[Jx](i:Nat)(hN:X.N.Nodup)(h2:DGs X es is)(hi:autoParam (X.N[i]?=be x) zA0)(hx:autoParam (Loc X.env.scope x) zA4)(hf:autoParam (zFN X x) zA3)
  (hs:autoParam ((Pk (.Name x p::es) X.env).map (·.2)=Qa (.Name x p) X.env::(Pk es X.env).map (·.2)) zA0):DGs X (.Name x p::es) (i::is):=by
 obtain⟨u,hu,k⟩:=h2;refine⟨_,tQ (eU hN hi hx hf) hu hs,λds vs z s B F H Q hl r rs q=>?_⟩;cases ds with
 |nil=>cases hl
 |cons d ds=>
  obtain⟨v,vr,rfl,r1,r2⟩:=reps_cons.mp r;exact⟨v,vr,rfl,k ds vr _ _ B F H Q (Nat.succ.inj hl) r2 (rs.set r1) q⟩
def wW(is:List Nat)(te:TD):TSD:=λE z=>te z λx=>match x with| .tup ds=>ds.length=is.length/\E.nx (aX is ds z)|_=>False
def wX[Jx]{k:Nat}(hc:X.calm=true)(he:WDE X e te)(hg:DGs X es is)(hn:autoParam ((Pk es X.env).length=is.length) zA0)(t5:autoParam ((Pk es X.env).findIdx? (·.1)=none) zA0)
  (hs:autoParam (swapsWithSole [.Tuple es k p] e pos.line X.env=pure false) zA0) (hw:autoParam (swappedStores [.Tuple es k p] e X.env=pure none) zA0) (h1:autoParam ((Pk [.Tuple es k p] X.env).map (·.2)=[Qa (.Tuple es k p) X.env]) zA0):WDS X (.Assign [.Tuple es k p] e pos) (wW is te):=⟨by
 have he:=he.out;obtain⟨u,hu,kk⟩:=hg;refine(tR he (fH hc hu hn t5) hs hw h1).anti λE s H q=>?_;obtain⟨B,F0,F,z,k,rs,ED,h,e⟩:=q;refine⟨B,F,z,k.kf,rs,_,h,λd v F' H' g hd rd=>?_⟩;split at hd
 .obtain⟨p,vs,rfl,hq,rr⟩:=rep_tup_mp rd;exact⟨p,vs,rfl,g.fh.tup hq,by rw[rr.length];exact hd.1,kk _ vs z s B F' H' _ hd.1 rr (rs.grow g) λs' r'=>e.nx _ _ F' H' (k.grow g) hd.2 r'⟩
 .exact hd.elim⟩
def wY(c:TDT)(tb:TSD):TSD:=λE z=>∃ W:Nat->SD->Prop,(∃ m,W m z)/\∀ m z,W m z->
 c z λb=>if b=true then tb {E with nx:=λz'=>∃ m',m'<m/\W m' z',ct:=λz'=>∃ m',m'<m/\W m' z',bk:=E.nx} z else E.nx z
variable{body:List Pb}
def ju[Jx]{c:O_}{tc:TDT}{tb:TSD}(hp:PF (Pc X.prog X.w) X.A X.env X.xe)(hc:WDT X c tc)(hb:WDSs X body tb):WDS X (.While c body [] pos) (wY tc tb):=⟨have hc:=hc.out;have hb:=hb.out;(ot hp hc hb).anti λE s H q=>by
 obtain⟨B,F0,F,z,k,rs,ED,⟨W,⟨m0,w0⟩,b_⟩,e⟩:=q;refine⟨λm s' H'=>∃ F' z',Kept B F0 F' H'/\RepS X.K B F' H' z' s'/\W m z',⟨m0,F,z,k,rs,w0⟩,?_⟩;rintro m s1 H1 ⟨F1,z1,k1,r1,w1⟩;refine⟨B,F1,z1,k1.kf,r1,_,b_ m z1 w1,λb F2 H2 g2 hk=>?_⟩;cases b with
 |true=>
  refine⟨λs3 H3=>∃ F3 z3,Kept B F0 F3 H3/\RepS X.K B F3 H3 z3 s3/\∃ m',m'<m/\W m' z3,λs3 H3 ⟨F3,z3,k3,r3,m',l,w3⟩=>⟨m',l,F3,z3,k3,r3,w3⟩,?_⟩;exact⟨B,F0,F2,z1,k1.grow g2,r1.grow g2,_,hk,⟨λz3 s3 F3 H3 k3 h3 r3=>⟨F3,z3,k3,r3,h3⟩,e.rt,e.nx,λz3 s3 F3 H3 k3 h3 r3=>⟨F3,z3,k3,r3,h3⟩⟩⟩
 |false=>exact e.nx z1 s1 F2 H2 (k1.grow g2) hk (r1.grow g2)⟩
abbrev TDI:=SD->(List D->Prop)->Prop
def dItL(t:TD):TDI:=λz R=>t z λx=>match x with| .lst ds=>R ds| .rol ds=>R ds|_=>False
def dItR(t:TD):TDI:=λz R=>t z λx=>match x with| .int n=>(0<=n/\n<2 ^ 62)/\R ((DV n.toNat).map λk=>D.int ((k:Nat):Int))|_=>False
def dFor(i:Nat)(ti:TDI)(tb:TSD):TSD:=λE z=>ti z λds=>∃ W:Nat->SD->Prop,W 0 z/\(∀ k x z,ds[k]?=be x->W k z->tb {E with nx:=W (k+1),ct:=W (k+1),bk:=E.nx} (z.set i (be x)))/\∀ z,W ds.length z->E.nx z
def Reps.get'{K:DR}{H:Hp}{ds:List D}{vs:List V}{k:Nat}{v:V}(r:Reps K H ds vs)(e:vs[k]?=be v):∃ d,ds[k]?=be d/\Rep K H d v:=by
 have hk:k<ds.length:=by rw[<- r.length];exact(Ec.mp e).1
 obtain⟨u,q1,q2⟩:=r.get (Ei hk);rw[e] at q1;cases q1;exact⟨_,Ei hk,q2⟩
def pR[Jx](i:Nat){tb:TSD}(hp:PF (Pc X.prog X.w) X.A X.env X.xe)(hc:X.calm=true)(hN:X.N.Nodup)(he:WDE X e te)(hb:WDSs X body tb)(hi:autoParam (X.N[i]?=be x) zA0)(hx:autoParam (Loc X.env.scope x) zA4)
  (hf:autoParam (zFN X x) zA3) (hs:autoParam (∀ y,zFS X e y) zA2):WDS X (.For (.Name x p) e body [] pos) (dFor i (dItL te) tb):=⟨have he:=he.out;have hb:=hb.out;(dq hp hc (iZ he) (eU hN hi hx hf) hb hs).anti λE s H q=>by
 obtain⟨B,F0,F,z,kp,rs,ED,h,e⟩:=q;refine⟨B,F,z,kp.kf,rs,_,h,λd v F1 H1 g1 hd rd=>?_⟩;split at hd
 .obtain⟨p,vs,rfl,hq,rr⟩:=rep_lst.mp rd;obtain⟨W,w0,b_,out⟩:=hd;refine⟨p,rfl,⟨vs,g1.fh.seq (SqL.of hq)⟩,oA (K:=X.K) (a:=p) (xs:=vs) (λk s' H'=>∃ F' z',Kept B F0 F' H'/\Same F1 F'/\RepS X.K B F' H' z' s'/\W k z') ⟨F1,z,kp.grow g1,Same.refl F1,rs.grow g1,w0⟩ (λk s' H' _ ⟨F',z',k',g',r',w'⟩=>k'.fh.seq (g'.seq (SqL.of hq))) ?_ ?_⟩
  .rintro k y s' H' hk ⟨F',z',k',g',r',w'⟩;obtain⟨d,hd,ry⟩:=rr.get' hk;refine⟨B,F',F',_,⟨k'.bh,k'.fh,Same.refl F',λb h1 _=>h1,k'.eb,k'.jf.trans k'.f0,λb h1 h2=>k'.out b (k'.jo b h1 h2) h2⟩,r'.set (ry.mono g'),_,b_ k d z' hd w',?_⟩;have up:∀ {F2 H2:Hp},Kept B F' F2 H2->Kept B F0 F2 H2:=λk2=>⟨k2.bh,k2.fh,k'.f0.trans k2.f0,λb h1 h2=>k2.out b (k'.out b h1 h2) h2,k'.eb,k'.jf,k'.jo⟩;exact⟨λz3 s3 F3 H3 k3 h3 r3=>⟨F3,z3,up k3,g'.trans k3.f0,r3,h3⟩,λd v F3 H3 k3=>e.rt d v F3 H3 (up k3),λz3 s3 F3 H3 k3=>e.nx z3 s3 F3 H3 (up k3),λz3 s3 F3 H3 k3 h3 r3=>⟨F3,z3,up k3,g'.trans k3.f0,r3,h3⟩⟩
  .rintro s' H' ⟨F',z',k',g',r',w'⟩;exact e.nx z' s' F' H' k' (out z' (by rw[<- rr.length];exact w')) r'
 .obtain⟨p,vs,rfl,hq,rr⟩:=rep_rol.mp rd;obtain⟨W,w0,b_,out⟩:=hd;refine⟨p,rfl,⟨vs,g1.fh.seq hq⟩,oA (K:=X.K) (a:=p) (xs:=vs) (λk s' H'=>∃ F' z',Kept B F0 F' H'/\Same F1 F'/\RepS X.K B F' H' z' s'/\W k z') ⟨F1,z,kp.grow g1,Same.refl F1,rs.grow g1,w0⟩ (λk s' H' _ ⟨F',z',k',g',r',w'⟩=>k'.fh.seq (g'.seq hq)) ?_ ?_⟩
  .rintro k y s' H' hk ⟨F',z',k',g',r',w'⟩;obtain⟨d,hd,ry⟩:=rr.get' hk;refine⟨B,F',F',_,⟨k'.bh,k'.fh,Same.refl F',λb h1 _=>h1,k'.eb,k'.jf.trans k'.f0,λb h1 h2=>k'.out b (k'.jo b h1 h2) h2⟩,r'.set (ry.mono g'),_,b_ k d z' hd w',?_⟩;have up:∀ {F2 H2:Hp},Kept B F' F2 H2->Kept B F0 F2 H2:=λk2=>⟨k2.bh,k2.fh,k'.f0.trans k2.f0,λb h1 h2=>k2.out b (k'.out b h1 h2) h2,k'.eb,k'.jf,k'.jo⟩;exact⟨λz3 s3 F3 H3 k3 h3 r3=>⟨F3,z3,up k3,g'.trans k3.f0,r3,h3⟩,λd v F3 H3 k3=>e.rt d v F3 H3 (up k3),λz3 s3 F3 H3 k3=>e.nx z3 s3 F3 H3 (up k3),λz3 s3 F3 H3 k3 h3 r3=>⟨F3,z3,up k3,g'.trans k3.f0,r3,h3⟩⟩
  .rintro s' H' ⟨F',z',k',g',r',w'⟩;exact e.nx z' s' F' H' k' (out z' (by rw[<- rr.length];exact w')) r'
 .exact hd.elim⟩
def bY[Jx](i:Nat){p1 p2:Pm}{tb:TSD}(hp:PF (Pc X.prog X.w) X.A X.env X.xe)(hc:X.calm=true)(hN:X.N.Nodup)(hm:X.mg "range"=q_)(he:WDE X e te)(hb:WDSs X body tb)(hg:autoParam (Gl X "range") zA0)(hi:autoParam (X.N[i]?=be x) zA0)(hx:autoParam (Loc X.env.scope x) zA4)
  (hf:autoParam (zFN X x) zA3) (hs:autoParam (∀ y,zFS X (.Call (.Name "range" p1) [e] [] p2) y) zA2) (j7:autoParam (zSE X e []) zA0) (d_:autoParam (Pg [e] X.env=[(false,Pj e X.env)]) zA0):WDS X (.For (.Name x p) (.Call (.Name "range" p1) [e] [] p2) body [] pos) (dFor i (dItR te) tb):=⟨have he:=he.out;have hb:=hb.out;(dq hp hc (fK hg hm (bg he pa_nil j7) d_) (eU hN hi hx hf) hb hs).anti λE s H q=>by
 obtain⟨B,F0,F,z,kp,rs,ED,h,e⟩:=q;refine⟨B,F,z,kp.kf,rs,_,h,λd v F1 H1 g1 hd rd=>?_⟩;split at hd
 .rename_i n;obtain⟨⟨b1,b2⟩,W,w0,b_,out⟩:=hd;have hl:((DV n.toNat).map λk=>D.int ((k:Nat):Int)).length=n.toNat:=by simp
  refine⟨n,by rw[rep_int.mp rd],by lia,b2,oB (lo:=0) (n:=n.toNat) (λk s' H'=>∃ F' z',Kept B F0 F' H'/\RepS X.K B F' H' z' s'/\W k z') ⟨F1,z,kp.grow g1,rs.grow g1,w0⟩ ?_ ?_⟩
  .rintro k s' H' hk ⟨F',z',k',r',w'⟩;have e1:(0:Int)+(k:Int)=(k:Int):=by lia
   exact⟨B,F0,F',_,k',r'.set (d:= .int (k:Int)) (rep_int.mpr (by rw[e1])),_,b_ k (.int (k:Int)) z' (by simp[hk]) w',⟨λz3 s3 F3 H3 k3 h3 r3=>⟨F3,z3,k3,r3,h3⟩,e.rt,e.nx,λz3 s3 F3 H3 k3 h3 r3=>⟨F3,z3,k3,r3,h3⟩⟩⟩
  .rintro s' H' ⟨F',z',k',r',w'⟩;exact e.nx z' s' F' H' k' (out z' (by rw[hl];exact w')) r'
 .exact hd.elim⟩
end
section
variable {P:O9}{w:Pe}{K:DR}{mg:x9->Option KB}{base:Heap}
variable{N ps:List x9}
def _root_.L2.Fun.okD{x:x9}{st:Pb}{f:KF}{fd:Ph}{k:Nat}{S:SpD}(T:Fun K x x st f fd)(F:FnScope N ps (ah st))(len:∀ ds R,S ds R->ds.length=ps.length)
  (a9:∀ (cdv:KB) (A:Pf) (outer:List PU) (s:KM) (H:Hp) (E:XK) (J:Jx),Room k (A.deeper (Pl x (ah st) s.heap.objs.size f cdv))->
   ∃ t,DSs (cxOf (Exc.CX1 P w) P w K mg base N x (ah st) f cdv A outer s H E).nox (aK st) t/\∀ ds R,S ds R->t {nx:=λ_=>R .non,rt:=R} (startD N ds)):FnOk P w K mg base (Exc.CX1 P w) (k+1) f fd ps (lSp K S):=by
 refine Fun.okC T F (λvs H Q E h=>?_) (λcdv A outer s H vs Q E hr h=>?_)
 .obtain⟨F,ds,fh,rs,R,h,_⟩:=h;rw[rs.length];exact len ds R h
 .obtain⟨F,ds,fh,rs,R,h,q⟩:=h
  letI:Jx:=⟨H,F,λ_ _ _=>False⟩
  obtain⟨t,ht,hq⟩:=a9 cdv A outer s H E inferInstance hr;refine⟨_,ht.nox,H,F,F,startD N ds,⟨Same.refl H,fh,Same.refl F,λ_ h _=>h,rfl,Same.refl F,λ_ h _=>h⟩,dR rs,_,hq ds R h,⟨λz' s' F' H' k hn _=>q _ _ F' H' ⟨k.f0,k.fh,k.bh,k.out⟩ hn (rep_non.mpr rfl),λd v F' H' k hd rd=>q d v F' H' ⟨k.f0,k.fh,k.bh,k.out⟩ hd rd,λ_ _ _ _ _ h _=>h.elim,λ_ _ _ _ _ h _=>h.elim⟩⟩
def Tx.okD{x:x9}{st:Pb}{k:Nat}{S:SpD}(T:Tx K mg x st ps)(F:FnScope N ps (ah st))(len:∀ ds R,S ds R->ds.length=ps.length)
  (a9:∀ (f:KF) (cdv:KB) (A:Pf) (outer:List PU) (s:KM) (H:Hp) (E:XK) (J:Jx),Room k (A.deeper (Pl x (ah st) s.heap.objs.size f cdv))->
   ∃ t,DSs (cxOf (Exc.CX1 P w) P w K mg base N x (ah st) f cdv A outer s H E).nox (aK st) t/\∀ ds R,S ds R->t {nx:=λ_=>R .non,rt:=R} (startD N ds)):CalD P w K mg base (k+1) x ps S:=by
 obtain⟨f,fd,T,hb,hm⟩:=T;exact⟨f,fd,T.okD F len λcdv A outer s H E J hr=>a9 f cdv A outer s H E J hr,hb,T.kp,hm⟩
end
def dY:SpD:=λds R=>∃ ns:List Int,ds=[.rol (ns.map D.int)]/\ns.length<=63/\R (.bl true)
def wZ{a:KF}{ns:List Int}(hl:ns.length<=63)(hS:SqL K H a (ns.map V.int)){E:XK}:lSp K dY [.ref a] H (λv _=>v= .bl true) E:=
 ⟨H,[.rol (ns.map D.int)],Same.refl H,reps_cons.mpr ⟨_,_,rfl,rep_rol.mpr ⟨a,_,rfl,hS,Reps.ints.mpr rfl⟩,reps_nil.mpr rfl⟩,λd=>d= .bl true,⟨ns,rfl,hl,rfl⟩,λd v F' H' _ hd rd=>by subst hd;exact rep_bl.mp rd⟩
section
variable {X:Cx}{a b c e:O_}{ta tb tc te:TD}{pos:Pm}
variable{p:Pm}{t:TDA}
def gc[Jx]{x:x9}{es:List O_}{T:String}{r:List V->Hp->VK->Prop}{rd:RDn}(hc:bz X (.type T) r)(L:ci X.K r rd)(hm:X.mg x=q_)(hv:Pr x=be (.type T))(ha:DA X (e::es) t)(hg:autoParam (Gl X x) zA0)(hn:autoParam (x≠"__name__") zA1)(d6:autoParam (zND x) zA1)
  (he:autoParam (zSE X e es) zA0) (c5:autoParam (zPL X pos es) zA0):DE X (.Call (.Name x p) (e::es) [] pos) (dCB rd t):=(oX hc hg hm hv ha hn d6 he c5).anti λs H Q h=>by
 obtain⟨B,F,z,kf,rs,R,h1,h2⟩:=h;have fh:=kf.fh;refine⟨B,F,z,kf,rs,_,h1,λds vs F1 H1 g1 hx rx=>?_⟩;exact L ds vs F1 H1 R Q g1.fh hx rx λd w F' H' g=>h2 d w F' H' (g1.trans g)
def rdStr:RDn:=λds R=>match ds with|[.int i]=>i.natAbs<18446744073709551616/\R (.str (toString i))|_=>False
variable{K:DR}
def xa:ci K (λxs H Q=>∃ i,xs=[.int i]/\i.natAbs.log2<1920/\Q (.str (toString i)) H) rdStr:=by
 intro ds vs F H R Q fh h rx q;unfold rdStr at h;split at h
 .obtain⟨v,r,rfl,h1,h2⟩:=reps_cons.mp rx;rw[reps_nil.mp h2,rep_int.mp h1];refine⟨_,rfl,?_,q _ _ F H (Grow.refl fh) h.2 (rep_str.mpr rfl)⟩;rename_i i;by_cases h0:i.natAbs=0
  .rw[h0];decide
  .have:=(Gw h0).mpr (show i.natAbs<2 ^ 64 from h.1);lia
 .exact h.elim
def cD[Jx](hm:X.mg "str"=q_)(ha:WDA X [e] t)(hg:autoParam (Gl X "str") zA0)(he:autoParam (zSE X e []) zA0):WDE X (.Call (.Name "str" p) [e] [] pos) (dCB rdStr t):=⟨have ha:=ha.out;gc uz xa hm PyProof.Rows.boot_str ha hg (by decide) (by decide) he⟩
def rdInt:RDn:=λds R=>match ds with
 |[.int i]=>R (.int i)
 |[.bl k]=>R (.int (if k then 1 else 0))
 |[.str x]=>∃ n,(PySem.intText? x=be n/\x.length<=640)/\R (.int n)
 |_=>False
def pS:bz X (.type "int") (λxs H Q=>((∃ i,xs=[.int i]/\Q (.int i) H)\/∃ k,xs=[.bl k]/\Q (.int (if k then 1 else 0)) H)\/∃ x n,xs=[.str x]/\PySem.intText? x=be n/\x.length<=640/\Q (.int n) H):=by
 intro pins s σ H xs us Q I r h;rcases h with h|⟨x,n,rfl,h1,h2,q⟩
 .exact uy pins s σ H xs us Q I r h
 .obtain⟨u,rfl,t,rfl⟩:=bQ r;exact PySem.W.KIN.call_text h1 h2 ⟨.int n,H,I.tok _,⟨_,rfl⟩,q⟩
def pT:ci K (λxs H Q=>((∃ i,xs=[.int i]/\Q (.int i) H)\/∃ k,xs=[.bl k]/\Q (.int (if k then 1 else 0)) H)\/∃ x n,xs=[.str x]/\PySem.intText? x=be n/\x.length<=640/\Q (.int n) H) rdInt:=by
 intro ds vs F H R Q fh h rx q;unfold rdInt at h;split at h
 .obtain⟨v,r,rfl,h1,h2⟩:=reps_cons.mp rx;rw[reps_nil.mp h2,rep_int.mp h1];exact .inl (.inl ⟨_,rfl,q _ _ F H (Grow.refl fh) h (rep_int.mpr rfl)⟩)
 .obtain⟨v,r,rfl,h1,h2⟩:=reps_cons.mp rx;rw[reps_nil.mp h2,rep_bl.mp h1];exact .inl (.inr ⟨_,rfl,q _ _ F H (Grow.refl fh) h (rep_int.mpr rfl)⟩)
 .obtain⟨v,r,rfl,h1,h2⟩:=reps_cons.mp rx;rw[reps_nil.mp h2,rep_str.mp h1];obtain⟨n,⟨e1,e2⟩,h⟩:=h;exact .inr ⟨_,n,rfl,e1,e2,q _ _ F H (Grow.refl fh) h (rep_int.mpr rfl)⟩
 .exact h.elim
def jv[Jx](hm:X.mg "int"=q_)(ha:WDA X [e] t)(hg:autoParam (Gl X "int") zA0)(he:autoParam (zSE X e []) zA0):WDE X (.Call (.Name "int" p) [e] [] pos) (dCB rdInt t):=⟨have ha:=ha.out;gc pS pT hm PyProof.Rows.boot_int ha hg (by decide) (by decide) he⟩
def rdList:RDn:=λds R=>match ds with|[.lst xs]=>R (.lst xs)|[.tup xs]=>R (.lst xs)|[.rol xs]=>R (.lst xs)|_=>False
def xb:ci K (λxs H Q=>∃ p ys,xs=[.ref p]/\(SqL K H p ys\/SqT K H p ys)/\∀ l,H l=q_->Q (.ref l) (upd H l (.lst ys))) rdList:=by
 intro ds vs F H R Q fh h rx q;unfold rdList at h;split at h
 .obtain⟨v,r,rfl,h1,h2⟩:=reps_cons.mp rx;rw[reps_nil.mp h2];obtain⟨a,us,rfl,hq,rs⟩:=rep_lst.mp h1;exact⟨a,us,rfl,.inl (fh.seq (SqL.of hq)),λl hl=>q _ _ _ _ (Grow.new fh hl _) h (rep_lst.mpr ⟨l,us,rfl,aC,rs.mono (aT (fh.free hl) _)⟩)⟩
 .obtain⟨v,r,rfl,h1,h2⟩:=reps_cons.mp rx;rw[reps_nil.mp h2];obtain⟨a,us,rfl,hq,rs⟩:=rep_tup_mp h1;exact⟨a,us,rfl,.inr (fh.tup hq),λl hl=>q _ _ _ _ (Grow.new fh hl _) h (rep_lst.mpr ⟨l,us,rfl,aC,rs.mono (aT (fh.free hl) _)⟩)⟩
 .obtain⟨v,r,rfl,h1,h2⟩:=reps_cons.mp rx;rw[reps_nil.mp h2];obtain⟨a,us,rfl,hq,rs⟩:=rep_rol.mp h1;exact⟨a,us,rfl,.inl (fh.seq hq),λl hl=>q _ _ _ _ (Grow.new fh hl _) h (rep_lst.mpr ⟨l,us,rfl,aC,rs.mono (aT (fh.free hl) _)⟩)⟩
 .exact h.elim
def xc[Jx](hm:X.mg "list"=q_)(ha:WDA X [e] t)(hg:autoParam (Gl X "list") zA0)(he:autoParam (zSE X e []) zA0):WDE X (.Call (.Name "list" p) [e] [] pos) (dCB rdList t):=⟨have ha:=ha.out;gc vN xb hm PyProof.Rows.boot_list ha hg (by decide) (by decide) he⟩
def rdMax:RDn:=λds R=>match ds with|[.int i,.int j]=>R (.int (if j>i then j else i))|_=>False
def xg:ci K (λxs H Q=>∃ i j,xs=[.int i,.int j]/\Q (.int (if j>i then j else i)) H) rdMax:=by
 intro ds vs F H R Q fh h rx q;unfold rdMax at h;split at h
 .obtain⟨v,r,rfl,h1,h2⟩:=reps_cons.mp rx;obtain⟨v',r',rfl,h3,h4⟩:=reps_cons.mp h2;rw[reps_nil.mp h4,rep_int.mp h1,rep_int.mp h3];exact⟨_,_,rfl,q _ _ F H (Grow.refl fh) h (rep_int.mpr rfl)⟩
 .exact h.elim
def xh[Jx](hc:X.calm=true)(hm:X.mg "max"=q_)(ha:WDA X [e,a] t)(hg:autoParam (Gl X "max") zA0)(he:autoParam (zSE X e [a]) zA0)(c5:autoParam (zPL X pos [a]) zA0):WDE X (.Call (.Name "max" p) [e,a] [] pos) (dCB rdMax t):=⟨have ha:=ha.out;fW (ux hc) xg hm PyProof.Rows.boot_max ha hg (by decide) (by decide) he c5⟩
def cX:List D->Option (List x9)
 |[]=>be []
 | .str x::r=>(cX r).map (x::·)
 |_=>q_
def pU{K:DR}{F:Hp}:∀ {ds:List D} {xs:List x9} {vs:List V} {us:List KB},cX ds=be xs->Reps K F ds vs->Vals vs us->StrsAre us xs
 |[],xs,vs,us,e,r,q=>by
  cases e;rw[reps_nil.mp r] at q;cases q;exact .nil
 | .str x::ds,xs,vs,us,e,r,q=>by
  obtain⟨v,r',rfl,h1,h2⟩:=reps_cons.mp r;rw[rep_str.mp h1] at q;cases q with
  |cons q1 q2=>
   obtain⟨t,rfl⟩:=q1;cases e2:cX ds with
   |none=>simp[cX,e2] at e
   |some ys=>
    simp[cX,e2] at e;subst e;exact .cons x t (pU e2 h2 q2)
def xi:V->List V->Hp->VK->Prop:=λx vs H Q=>∃ pc l xs ys,x= .str pc/\vs=[.ref l]/\H l=be (.lst xs)/\(∀ us,Vals xs us->StrsAre us ys)/\(ys.map (·.length)).sum+ys.length*pc.length<=16777216/\Q (.str (Txt.join pc ys)) H
def xj:MtR X "str.join" xi:=by
 intro pins s σ H x vs v us Q I rx rv h;obtain⟨pc,l,xs,ys,rfl,rfl,hl,hs,hz,q⟩:=h;obtain⟨t,rfl⟩:=rx;obtain⟨u,rfl,ru⟩:=bQ rv;cases ru;obtain⟨its,r,pl,_⟩:=I.list (SqL.of hl);exact PyProof.Rows.join_list pl.isList (by simpa using hs its r) hz λt' k=>⟨.str _,H,I.tok _,⟨_,rfl⟩,q⟩
def xk(pc:x9)(te:TD):TD:=λz R=>te z λx=>match x with
 | .lst ds=>∃ ys,cX ds=be ys/\(ys.map (·.length)).sum+ys.length*pc.length<=1000000/\R (.str (Txt.join pc ys))
 |_=>False
def jw[Jx]{pc:x9}{k:Nat}{p1 apos cpos:Pm}(he:WDE X e te)(m8:autoParam (zSE X e []) zA0)
  (b9:autoParam (Pi (.Constant (.str pc) k p1) "join" X.env (Pj (.Constant (.str pc) k p1) X.env)=Pj (.Constant (.str pc) k p1) X.env) zA0)
  (d9:autoParam (zHF X cpos [e]) zA0)
  (c7:autoParam ((apos.endLine==cpos.line)=true) zA0):WDE X (.Call (.Attribute (.Constant (.str pc) k p1) "join" apos) [e] [] cpos) (xk pc te):=⟨have he:=he.out;(dQ PySem.F.plainAttrs_str PySem.F.slot_str_join PySem.F.type_str_join xj oa (bg he pa_nil m8) b9 d9 c7 m8).anti λs H Q q=>by
 obtain⟨B,F,z,kf,rs,R,h1,h2⟩:=q;have fh:=kf.fh;refine⟨rfl,?_⟩;refine⟨B,F,z,kf,rs,_,h1,λx u F1 H1 g1 hx rx=>?_⟩;split at hx
 .obtain⟨ys,e1,e2,hx⟩:=hx;obtain⟨l,vs,rfl,hq,rr⟩:=rep_lst.mp rx;exact⟨pc,l,vs,ys,rfl,rfl,g1.fh _ _ hq,λus q=>pU e1 rr q,D9 e2 (by decide),h2 _ _ F1 H1 g1 hx (rep_str.mpr rfl)⟩
 .exact hx.elim⟩
def cutD(xs:List D)(lo hi:Option Int):List D:=(xs.drop (HT.sIx xs.length 0 lo)).take (HT.sIx xs.length xs.length hi - HT.sIx xs.length 0 lo)
def Reps.drop{K:DR}{F:Hp}:∀ (n:Nat) {xs:List D} {us:List V},Reps K F xs us->Reps K F (xs.drop n) (us.drop n)
 |0,_,_,r=>r
 |n+1,[],us,r=>by rw[reps_nil.mp r];exact reps_nil.mpr rfl
 |n+1,x::xs,us,r=>by
  obtain⟨u,ur,rfl,_,a2⟩:=reps_cons.mp r;exact Reps.drop n a2
def Reps.take{K:DR}{F:Hp}:∀ (n:Nat) {xs:List D} {us:List V},Reps K F xs us->Reps K F (xs.take n) (us.take n)
 |0,_,_,_=>reps_nil.mpr rfl
 |n+1,[],us,r=>by rw[reps_nil.mp r];exact reps_nil.mpr rfl
 |n+1,x::xs,us,r=>by
  obtain⟨u,ur,rfl,a1,a2⟩:=reps_cons.mp r;exact reps_cons.mpr ⟨u,_,rfl,a1,Reps.take n a2⟩
def Reps.cut{F:Hp}{xs:List D}{us:List V}(r:Reps K F xs us)(lo hi:Option Int):Reps K F (cutD xs lo hi) (cutV us lo hi):=by
 unfold cutD cutV;rw[r.length];exact(r.drop _).take _
end
end My
namespace L2
def jx{env:PU}:∀ (names:List (x9 × PN)) (r_:List (x9 × KF)),(∀ n,(n,NameKind.free)∈names->∃ c,env.cells.lookup n=be c)->
  ∃ cl,(forIn (m:=QC) names r_ λx r=>match x with
     |(name,kind)=>if(kind==NameKind.free)=true then(do let a <- cellOf env name;pure (ForInStep.yield ((name,a)::r))) else pure (ForInStep.yield r))=(pure cl:QC (List (x9 × KF)))/\
   (∀ n c,cl.lookup n=be c->env.cells.lookup n=be c\/r_.lookup n=be c)/\(∀ n,(n,NameKind.free)∈names->∃ c,cl.lookup n=be c)/\∀ n c,r_.lookup n=be c->∃ c',cl.lookup n=be c'
 |[],r_,_=>⟨r_,rfl,(λ_ _ h=> .inr h),(λ_ h=>by cases h),(λ_ c h=>⟨c,h⟩)⟩
 |(name,kind)::r,r_,h=>by
  by_cases hk:(kind==NameKind.free)=true
  .have ek:kind= .free:=by simpa using hk
   subst ek;obtain⟨c,hc⟩:=h name Ea;obtain⟨cl,e,p1,p2,p3⟩:=jx r ((name,c)::r_) λn q=>h n (D4 _ q);refine⟨cl,?_,λn c' q=>?_,λn q=>?_,λn c' q=>?_⟩
   .rw[Gy];have ec:cellOf env name=pure c:=by unfold cellOf;rw[hc]
    simp only[hk,if_true,ec];exact e
   .rcases p1 n c' q with z|z
    .exact .inl z
    .rw[Ee] at z;split at z
     .rename_i q2;have en:n=name:=by simpa using q2
      cases z;exact .inl (en ▸ hc)
     .exact .inr z
   .rcases D2.mp q with z|z
    .cases z;exact p3 _ c (by rw[Ee];simp)
    .exact p2 n z
   .by_cases hn:n=name
    .subst hn;exact p3 n c (by rw[Ee];simp)
    .exact p3 n c' (by rw[Ee,beq_eq_false_iff_ne.mpr hn];exact q)
  .obtain⟨cl,e,p1,p2,p3⟩:=jx r r_ λn q=>h n (D4 _ q);refine⟨cl,?_,p1,λn q=>?_,p3⟩
   .rw[Gy];simp only[hk];exact e
   .rcases D2.mp q with z|z
    .cases z;exact absurd rfl hk
    .exact p2 n z
def closure_is{env:PU}{scope:PH}(h:∀ n,(n,NameKind.free)∈scope.names->∃ c,env.cells.lookup n=be c):
  ∃ cl,closureFor scope env=pure cl/\(∀ n c,cl.lookup n=be c->env.cells.lookup n=be c)/\∀ n,(n,NameKind.free)∈scope.names->∃ c,cl.lookup n=be c:=by
 obtain⟨cl,e,p1,p2,_⟩:=jx scope.names [] h;refine⟨cl,?_,λn c q=>(p1 n c q).elim id (λz=>nomatch z),p2⟩;unfold closureFor;show(forIn (m:=QC) scope.names [] _>>=λs=>pure s)=pure cl;rw[e];rfl
def gf{env:PU}:∀ {names:List (x9 × PN)} {n:x9} {k:PN},(∀ y∈names,y.2≠.cell)->k= .cell\/k= .free->
  (names.map λ(n,k)=>if(k==NameKind.free && env.scope.kind== .function && env.kindOf n==be .cell) then(n,NameKind.cell) else(n,k)).lookup n=be k->(n,NameKind.free)∈names
 |[],_,_,_,_,h=>by simp at h
 |(a,b)::r,n,k,hc,hk,h=>by
  rw[Eb] at h;by_cases hb:(b==NameKind.free && env.scope.kind== .function && env.kindOf a==be .cell)=true
  .have eb:b= .free:=by
    have:=(Ek _ _ ▸ ((Ek _ _ ▸ hb).1)).1;simpa using this
   simp only[hb,if_true] at h;rw[Ee] at h;split at h
   .rename_i q;have en:n=a:=by simpa using q
    subst en eb;exact Ea
   .exact D4 _ (gf (λy q=>hc y (D4 _ q)) hk h)
  .simp only[hb] at h;rw[if_neg (by simp),Ee] at h;split at h
   .rename_i q;have en:n=a:=by simpa using q
    cases h;subst en;rcases hk with z|z
    .exact absurd z (hc _ Ea)
    .rw[z];exact Ea
   .exact D4 _ (gf (λy q=>hc y (D4 _ q)) hk h)
section
variable {prog:O9}{w:Pe}{A:Pf}{R:Result->KM->Prop}{s:KM}
abbrev pV(g7:List O_)(env:PU):QC Bool:=forIn g7 true λc r=>if r=true then do let ok <- isTrue c env (Pj c env);pure (ForInStep.yield ok) else pure (ForInStep.yield r)
def pW{f8 f_ iter:O_}{g7:List O_}{scope:PH}{pos:Pm}{it r_:KB}{env:PU}(I:Nat->KM->Prop)
  (b_:∀ n s,I n s->Pd (Pc prog w) A (pyNext it) (λr s₁=>match r with
   |none=>R (.ok .next) s₁
   |some v=>Pd (Pc prog w) A (P7 f_ it v) (λ_ s₁'=>Pd (Pc prog w) A (Qa f_ env v) (λ_ s₂=>Pd (Pc prog w) A (pV g7 env) (λok s₂'=>if ok=true then Pd (Pc prog w) A (Pj f8 env) (λx s₃=>
     Pd (Pc prog w) A (call (.builtin "list.append") [r_,x]) (λ_ s₄=>∃ m,m<n/\I m s₄) (λ_ _=>False) s₃)
     (λ_ _=>False) s₂' else ∃ m,m<n/\I m s₂') (λ_ _=>False) s₂) (λ_ _=>False) s₁') (λ_ _=>False) s₁) (λ_ _=>False) s)
  (n:Nat) (h:I n s):
  P4 (Pc prog w) A (.compLoop (.ListComp f8 [⟨f_,iter,g7,0⟩] scope pos) 0 it r_ env) R s:=by
 refine codeAny_loop rfl I (λn s hI=>?_) n h;show Pd _ _ ((compTurn (.ListComp f8 [⟨f_,iter,g7,0⟩] scope pos) 0 it r_ env).onRaise (λx=>do Qk x env;theTreesLotGoes x)) _ _ s;refine wpAny_noted ?_;rw[compTurn_list];refine Os (Qd (Os (Pn (b_ n s hI) (λr s₁ h₁=>?_) λ_ _ h'=>h'.elim)));cases r with
 |none=>exact Pa h₁
 |some v=>
  refine Os (Pn h₁ (λ_ s₁' h₁'=>Os (Pn h₁' (λ_ s₂ h₂=>Os (Pn h₂ (λok s₃ h₃=>?_) λ_ _ h'=>h'.elim)) λ_ _ h'=>h'.elim)) λ_ _ h'=>h'.elim);cases ok with
  |false=>exact Pa ⟨rfl,h₃⟩
  |true=>
   exact Os (Os (Pn h₃ (λx s₄ h₄=>Os (Pn h₄ (λ_ s₅ h₅=>Pa (Pa ⟨rfl,h₅⟩)) λ_ _ h'=>h'.elim)) λ_ _ h'=>h'.elim))
end
def bI(X:Cx)(scope:PH)(cl:List (x9 × KF))(x:x9)(s₀:KM)(H₀:Hp)(fp:List KF):Cx where
 prog:=X.prog
 w:=X.w
 K:=X.K
 mg:=X.mg
 base:=X.base
 A:=X.A
 N:=X.N.map (λn=>if n=x then("":x9) else n)++[x]
 s₀:=s₀
 H₀:=H₀
 env:=Qr scope cl s₀.heap.objs.size X.env
 outer:=X.stack
 stack:=X.stack
 ex:=fp
 fn:=λ_=>false
 calm:=X.calm
 pn:=[]
 xe:=λ_ _=>False
structure CompScope(X:Cx)(scope:PH)(x:Str):Prop where
 kind:scope.kind= .function
 nocell:∀ y∈scope.names,y.2≠.cell
 names:∀ y∈scope.names,y.2= .local->scope.names.lookup y.1=be .local
 own:scope.names.lookup x=be .local
 free:∀ n,(n,NameKind.free)∈scope.names->X.env.kindOf n=be .cell
 vis:∀ n∈X.N,n≠x->Vis (QR scope X.env) n->(n,NameKind.free)∈scope.names
 empty:¬ Vis (QR scope X.env) ("":x9)
 cells:∀ n,(n,NameKind.free)∈scope.names->(QR scope X.env).names.lookup n=be .cell
 nd:(X.N.map (λn=>if n=x then("":x9) else n)++[x]).Nodup
section
variable {X:Cx}{pins:List (KF × Pu)}{σ:St}{H:Hp}{s:KM}{scope:PH}{cl:List (x9 × KF)}{x:x9}{fp:List KF}
def jy(I:Inv X pins σ H s)(S:CompScope X scope x)(c1:∀ n c,cl.lookup n=be c->X.env.cells.lookup n=be c)(c2:∀ n,(n,NameKind.free)∈scope.names->∃ c,cl.lookup n=be c)
  (hf:∀ b∈fp,FpOk X pins H b) (hl:∀ b∈fp,b<s.heap.objs.size):(bI X scope cl x s H fp).Ok where
 mod:=I.ok.mod
 kind:=S.kind
 glob:=I.ok.glob
 blt:=I.ok.blt
 above:=DU _
 inj:=λy z c h1 h2=>I.ok.inj y z c (c1 y c h1) (c1 z c h2)
 has:=λn hn=>by
  rcases hn with hn|hn
  .exact c2 n (gf S.nocell (.inl rfl) hn)
  .exact c2 n (gf S.nocell (.inr rfl) hn)
 cab:=λ_ _ h=>nomatch h
 hd:=I.ok.hd
 frames:=I.ok.frames
 stk:= .inl rfl
 exf:=λb hb=>⟨D8 (hl b hb),λy c h=>(hf b hb).2.2.2.2.1 y c (c1 y c h)⟩
 bs:=I.bs
 bsz:=D9 I.ok.bsz I.sz
 noex:=λb o e hb=>by
  have h1:=I.ok.noex b o e;rcases(hf b hb).2.2.2.1 with z|z
  .exact h1 z
  .exact absurd (Ep (Heap.lt_size e) (D9 I.ok.bsz z)) (E3 _)
 exfs:=λb hb hs=>by
  rcases D2.mp (I.stkSub b hs) with z|z
  .exact(hf b hb).2.1 z
  .exact(hf b hb).2.2.1 z
 funs:=I.stack
 frf:=I.stkFree
def pX{h':Heap}{t':Nat}(I:Inv X pins σ H s)(S:CompScope X scope x)(c1:∀ n c,cl.lookup n=be c->X.env.cells.lookup n=be c)(c2:∀ n,(n,NameKind.free)∈scope.names->∃ c,cl.lookup n=be c)
  (hf:∀ b∈fp,FpOk X pins H b) (hl:∀ b∈fp,b<s.heap.objs.size) {m:x9->Option KB} (hn:h'.Ns s.heap.objs.size m) (k:∀ b o,s.heap.get? b=be o->h'.get? b=be o):
  Inv (bI X scope cl x s H fp) [] (σ++[q_]) H {s with heap:=h',toks:=t'}:=by
 refine⟨jy I S c1 c2 hf hl,rfl,I.bare,Un.kept k,⟨m,hn,λi n v e1 e2 e3=>?_⟩,λn c e=>?_,I.hok.fresh (DU _),λn c e=>I.freeC n c (c1 n c e),λp hp=>absurd (show p∈([]:List (KF × Pu)) from hp) (by simp),I.hok.kept k,?_⟩
 .have hi:i<σ.length:=by
   rcases Fq i σ.length with q|q
   .exact q
   .rw[EW q] at e2;cases hz:i - σ.length with
    |zero=>rw[hz] at e2;simp at e2
    |succ z=>rw[hz] at e2;simp at e2
  rw[EH hi] at e2;have JJ:i<X.N.length:=by rw[<- I.len];exact hi
  have HN:(X.N.map (λn=>if n=x then("":x9) else n)++[x])[i]?=be n:=e1;rw[EH (by simpa using JJ),D5,Ei JJ] at HN;simp only[FD,Option.some.injEq] at HN;by_cases hx:X.N[i]=x
  .rw[if_pos hx] at HN;subst HN;exact absurd e3 S.empty
  .rw[if_neg hx] at HN;subst HN;have g_:=S.vis _ (EJ JJ) hx e3;have j9:=S.free _ g_;obtain⟨c,hc⟩:=c2 _ g_;obtain⟨mX,OJ,NG⟩:=I.loc;obtain⟨u,ru,lk⟩:=NG i X.N[i] v (Ei JJ) e2 (.inr (.inl j9));refine⟨u,ru,.inr ⟨?_,c,hc,?_⟩⟩
   .exact .inl (S.cells _ g_)
   .rcases lk with⟨kl,_⟩|⟨_,c',w6,i8⟩
    .rw[j9] at kl;cases kl
    .have:c=c':=by
      have:=c1 _ c hc;rw[w6] at this;exact(Option.some.inj this).symm
     subst this;obtain⟨o,ho,hd⟩:=i8;exact⟨o,k _ _ ho,hd⟩
 .obtain⟨v,o,ho,hd⟩:=I.cell n c (c1 n c e);exact⟨v,o,k _ _ ho,hd⟩
 .show(σ++[q_]).length=(X.N.map _++[x]).length;rw[D7,D7,DZ,I.len];rfl
end
def gh(wi:TI)(tt:TT)(g9:TE):TE:=λσ H Q=>wi σ H λJ H1=>∀ D,H1 D=q_->∃ W:Nat->Nat->Hp->Prop,(∃ m,W 0 m (upd H1 D (.lst [])))/\∀ i m H,W i m H->
 (J.stop i H/\Q (.ref D) H)\/(J.go i H/\∀ x H',J.yld i H x H'->tt (σ++[be x]) H' λb H1=>if b=true then g9 (σ++[be x]) H1 λy H''=>∃ vs,H'' D=be (.lst vs)/\vs.length<sizeLine/\∃ m',m'<m/\W (i+1) m' (upd H'' D (.lst (vs++[y]))) else ∃ m',m'<m/\W (i+1) m' H1)
def PIf(X:Cx)(g7:List O_)(t:TT):Prop:=
 ∀ (pins:List (KF × Pu)) (s:KM) (σ:St) (H:Hp) (Q:Bool->Hp->Prop),Inv X pins σ H s->t σ H Q->Pd (Pc X.prog X.w) X.A (pV g7 X.env) (TP X pins σ Q) X.xe s
variable{X:Cx}
def pif_nil:PIf X [] (λ_ H Q=>Q true H):=λpins s σ H Q I q=>wpAny_tests_nil ⟨H,I,q⟩
def xm{c:O_}{t:TT}(h:PT X c t):PIf X [c] t:=λpins s σ H Q I q=>wpAny_tests_one (h pins s σ H Q I q)
def PIf.anti{e:List O_}{t t':TT}(h:PIf X e t)(a:∀ s H Q,t' s H Q->t s H Q):PIf X e t':=λpins s σ H Q I q=>h pins s σ H Q I (a _ _ _ q)
section
variable {X:Cx}
def xn{P:O9}{w:Pe}{H:Hp}{h h':Heap}{a:KF}(x:HOk P w H h)(hn:H a=q_)(hs:Heap.SameBut a h h'):HOk P w H h':=λb ob e=>by
 refine(x b ob e).stay (λc w' hc q=>(hs.2 c ?_).trans q) (λ_ q=>q) λ_ _ q=>q;rintro rfl;rcases hc with rfl|hc
 .rw[hn] at e;cases e
 .rw[hn] at hc;cases hc
variable{g7:List O_}{scope:PH}
def pe_comp{f8 iter:O_}{x:x9}{px:Pm}{pos:Pm}{wi:TI}{tt:TT}{g9:TE}(hc:X.calm=true)(S:CompScope X scope x)(hi:PI X (.Name x px) iter wi)
  (hq:∀ cl s₀ H₀ fp,PIf (bI X scope cl x s₀ H₀ fp) g7 tt) (he:∀ cl s₀ H₀ fp,PE (bI X scope cl x s₀ H₀ fp) f8 g9) (hs:autoParam (∀ y,zFS X iter y) zA2):
  PE X (.ListComp f8 [⟨.Name x px,iter,g7,0⟩] scope pos) (gh wi tt g9):=by
 intro pins s σ H Q I h;obtain⟨cl,i8,c1,c2⟩:=closure_is (env:=X.env) (scope:=scope) (λn q=>I.ok.has n (.inl (S.free n q)));rw[eval_ListComp];refine Qt (use:=q_) rfl hs i8 S.kind S.names (thn (hi pins s σ H _ I h) λv s1 h1=>thn h1 λJD s2 h2=>?_);obtain⟨it,fp,tn,J,H1,e,I1,T,st,f1,hr⟩:=h2;subst e;have f6:∀ b∈fp,b<s2.heap.objs.size:=λb hb=>by
  obtain⟨o,ho,_⟩:=T.obj _ _ st b hb;exact Heap.lt_size ho
 have hD:H1 s2.heap.objs.size=none:=I1.hok.fresh (DU _);obtain⟨W,⟨m0,w0⟩,step⟩:=hr _ hD;refine Pq (QD S.nocell (by intro y hy;simp at hy) (λh₁ hns₁ hsb₁=>?_) S.kind);have I3:Inv X pins σ (upd H1 s2.heap.objs.size (.lst [])) {s2 with heap:=s2.heap.push {cls:= .type "list",data:= .seq ([]:List KB).toArray},toks:=s2.toks}:=I1.lnew (its:=[]) (ys:=[]) .nil (Ej _);have gt:∀ b∈fp,b<(s2.heap.push {cls:= .type "list",data:= .seq ([]:List KB).toArray}).objs.size:=λb hb=>by
  rw[Heap.size_push];exact Gz (f6 b hb)
 have m9:∀ b∈fp,FpOk X pins (upd H1 s2.heap.objs.size (.lst [])) b:=λb hb=>⟨by rw[au (D8 (f6 b hb))];exact(f1 b hb).1,(f1 b hb).2⟩;have kp:∀ b o,(s2.heap.push {cls:= .type "list",data:= .seq ([]:List KB).toArray}).get? b=be o->h₁.get? b=be o:=λb o e=>
  (hsb₁.2 b (D8 (Heap.lt_size e))).trans (Heap.get?_push_of_some _ e)
 have I4:=pX (x:=x) (fp:=fp) (t':=s2.toks+([]:List (x9 × KB)).length) I3 S c1 c2 m9 gt hns₁ kp;have z6:=jy (x:=x) (fp:=fp) I3 S c1 c2 m9 gt;generalize hY:bI X scope cl x {s2 with heap:=s2.heap.push {cls:= .type "list",data:= .seq ([]:List KB).toArray},toks:=s2.toks} (upd H1 s2.heap.objs.size (.lst [])) fp=Y at I4 z6;have yP:Y.prog=X.prog:=by rw[<- hY];rfl
 have yW:Y.w=X.w:=by rw[<- hY];rfl
 have yK:Y.K=X.K:=by rw[<- hY];rfl
 have yA:Y.A=X.A:=by rw[<- hY];rfl
 have yN:Y.N=X.N.map (λn=>if n=x then("":x9) else n)++[x]:=by rw[<- hY];rfl
 have yE:Y.env=Qr scope cl (s2.heap.push {cls:= .type "list",data:= .seq ([]:List KB).toArray}).objs.size X.env:=by rw[<- hY];rfl
 have yX:Y.xe=λ_ _=>False:=by rw[<- hY];rfl
 have yC:Y.calm=true:=by rw[<- hY];exact hc
 have II:Y.ex=fp:=by rw[<- hY];rfl
 have Ko:Y.pn=[]:=by rw[<- hY];rfl
 have Kp:Y.fs=frs X.stack:=by rw[<- hY];rfl
 have Kq:Y.H₀=upd H1 s2.heap.objs.size (.lst []):=by rw[<- hY];rfl
 have IJ:Y.s₀={s2 with heap:=s2.heap.push {cls:= .type "list",data:= .seq ([]:List KB).toArray},toks:=s2.toks}:=by rw[<- hY];rfl
 have Kr:PE Y f8 g9:=by rw[<- hY];exact he _ _ _ _
 have Ks:PIf Y g7 tt:=by rw[<- hY];exact hq _ _ _ _
 have g5:∀ {H':Hp},(∀ b∈fp,H' b=q_)->∀ b∈fp,FpOk Y [] H' b:=λ{H'} hn b hb=>by
  have ge:b∈Y.ex:=by rw[II];exact hb
  exact⟨hn b hb,(z6.exf b ge).1,z6.exfs b ge,.inl ge,λn c e=>(z6.exf b ge).2 n c e,by rw[Ko];simp⟩
 have t8:Y.env.scope.names.lookup x=be .local:=by rw[yE];exact QE S.own
 have IK:Y.N[X.N.length]?=be x:=by rw[yN];simp
 have Kt:Y.N.Nodup:=by rw[yN];exact S.nd
 have d8:∀ (o:Option V) (H':Hp) (s':KM),Inv Y [] (σ++[o]) H' s'->Q (.ref s2.heap.objs.size) H'->∀ h',Heap.SameBut Y.env.locals s'.heap h'->EP X pins σ Q (.ref s2.heap.objs.size) {s' with heap:=h'}:=λo H' s' I' q h' hsb=>by
  have p9:Y.env.locals=(s2.heap.push {cls:= .type "list",data:= .seq ([]:List KB).toArray}).objs.size:=by rw[yE];rfl
  have ne:∀ b ob,(s2.heap.push {cls:= .type "list",data:= .seq ([]:List KB).toArray}).get? b=be ob->b≠Y.env.locals:=λb ob e=>by rw[p9];exact D8 (Heap.lt_size e)
  have bs:=I'.base;rw[Kp,II,Kq,IJ] at bs;refine⟨.ref s2.heap.objs.size,H',I3.call' (ch:=fp) ?_ ⟨λb ob e n h1 h2=>?_,λb ob e n h1 h2=>?_,bs.free,λb ob e h2=>?_,bs.tups,bs.frzs,bs.tbls⟩ ?_ I'.bare ?_,rfl,q⟩
  .have:=I'.os;rw[IJ] at this;exact this
  .exact(hsb.2 b (ne b ob e)).trans (bs.keep b ob e n h1 h2)
  .obtain⟨sl,q⟩:=bs.slot b ob e n h1 h2;exact⟨sl,(hsb.2 b (ne b ob e)).trans q⟩
  .obtain⟨o',q⟩:=bs.there b ob e h2;exact⟨o',(hsb.2 b (ne b ob e)).trans q⟩
  .have:=xn I'.hok I'.free hsb;rw[yP,yW] at this;exact this
  .exact λb hb=>⟨(m9 b hb).2.2.2.1,(m9 b hb).2.1,(m9 b hb).2.2.2.2.1,(m9 b hb).2.2.2.2.2⟩
 have p7:P4 (Pc X.prog X.w) X.A (.compLoop (.ListComp f8 [⟨.Name x px,iter,g7,0⟩] scope pos) 0 (.ref it) (.ref s2.heap.objs.size) (Qr scope cl (s2.heap.push {cls:= .type "list",data:= .seq ([]:List KB).toArray}).objs.size X.env))
   (compPost (Pc X.prog X.w) X.A X.xe q_ (EP X pins σ Q) (.ref s2.heap.objs.size) (s2.heap.push {cls:= .type "list",data:= .seq ([]:List KB).toArray}).objs.size)
   {s2 with heap:=h₁,toks:=s2.toks+([]:List (x9 × KB)).length}:=by
  refine pW (λn s'=>∃ i o H',Inv Y [] (σ++[o]) H' s'/\tn i s'.heap/\(∀ b∈fp,H' b=q_)/\W i n H') ?_ m0 ⟨0,q_,_,I4,T.keep _ _ _ st (λb hb ob e=>kp b ob (Heap.get?_push_of_some _ e)),λb hb=>(m9 b hb).1,w0⟩;rintro n s3 ⟨i,o,H3,I5,t3,f3,w3⟩;rcases step i n H3 w3 with⟨stop,q⟩|⟨go,q⟩
  .have dn:=T.done Y yP yW yK yC i [] s3 _ H3 (λ_ _=>False) I5 (g5 f3) t3 stop;rw[yA] at dn;refine thn dn λr s4 b8=>?_;obtain⟨hr,I6⟩:=b8;subst hr;obtain⟨m,hn,_⟩:=I6.loc;have p9:Y.env.locals=(s2.heap.push {cls:= .type "list",data:= .seq ([]:List KB).toArray}).objs.size:=by rw[yE];rfl
   rw[p9] at hn;exact⟨m,hn,λh' hsb=>d8 o H3 s4 I6 q h' (by rw[p9];exact hsb)⟩
  .have IM:=T.item Y yP yW yK yC i [] s3 _ H3 (λ_ _=>False) I5 (g5 f3) t3 go;rw[yA] at IM;refine thn IM λr s4 b8=>?_;obtain⟨u,hr,h4⟩:=b8;subst hr;refine thn h4 λ_ s5 b8=>?_;obtain⟨xv,H5,I6,r5,y5,l_,Ip⟩:=b8;have Ku:=I6.pinned (g5 Ip) (T.obj _ _ l_);rw[<- yE];refine PY (fF Ku Kt IK (.inl t8) r5 (λs6 I7=>?_) (.inr t8));have Hz:(σ++[o]).set X.N.length (be xv)=σ++[be xv]:=by
    rw[<- I.len];simp
   rw[Hz] at I7;have tv:=Ks _ s6 _ H5 _ I7 (q xv H5 y5);rw[yP,yW,yA,yX] at tv;refine thn tv λb Kv b8=>?_;obtain⟨Kw,z7,qb⟩:=b8;cases b with
   |false=>
    obtain⟨m',hm,w7⟩:=qb;refine⟨m',hm,i+1,be xv,_,z7.unpinned,T.keep _ _ _ l_ λb hb ob e=>(z7.pin (b,ob) (Ed _ (Ed _ (cC hb e)))).1,λb hb=>?_,w7⟩;obtain⟨ob,e,d⟩:=T.obj _ _ l_ b hb;exact(z7.pin (b,ob) (Ed _ (Ed _ (cC hb e)))).2.1
   |true=>
   have ev:=Kr _ Kv _ Kw _ z7 qb;rw[yP,yW,yA,yX] at ev;refine thn ev λyv s7 b8=>?_;obtain⟨y,H6,I8,ry,vs,Kx,a_,m',hm,w7⟩:=b8;have ap:=fQ (X:=Y) _ s7 _ H6 (.ref s2.heap.objs.size) [y] (.ref s2.heap.objs.size) [yv] (λ_ H7=>H7=upd H6 s2.heap.objs.size (.lst (vs++[y]))) I8 rfl (.cons ry .nil) ⟨_,vs,y,rfl,rfl,Kx,a_,rfl⟩;rw[yP,yW,yA,yX] at ap;refine thn ap λ_ s8 b8=>?_;obtain⟨_,H7,I9,_,e7⟩:=b8;subst e7;refine⟨m',hm,i+1,be xv,_,I9.unpinned,T.keep _ _ _ l_ λb hb ob e=>(I9.pin (b,ob) (Ed _ (Ed _ (cC hb e)))).1,λb hb=>?_,w7⟩;obtain⟨ob,e,d⟩:=T.obj _ _ l_ b hb;exact(I9.pin (b,ob) (Ed _ (Ed _ (cC hb e)))).2.1
 exact QA p7 (T.self _ _ _ _ _ (T.keep _ _ _ st (λb hb ob e=>kp b ob (Heap.get?_push_of_some _ e))) p7)
def pY{f8 iter:O_}{x y:x9}{px py k9:Pm}{pos:Pm}{wi:TI}{tt:TT}{g9:TE}{ix:Nat}(hc:X.calm=true)(S:CompScope X scope x)(hi:PI X (.Name x px) iter wi)
  (hq:∀ cl s₀ H₀ fp,PIf (bI X scope cl x s₀ H₀ fp) g7 tt) (he:∀ cl s₀ H₀ fp,PE (bI X scope cl x s₀ H₀ fp) f8 g9) (hN:X.N.Nodup) (IN:X.N[ix]?=be y) (hy:Loc X.env.scope y) (hf:zFN X y)
  (y_:Pt (.ListComp f8 [⟨.Name x px,iter,g7,0⟩] scope pos) (be (.Name y py)) k9.line X.env=pure true) (hs:autoParam (∀ y,zFS X iter y) zA2):
  PS X (.Assign [.Name y py] (.ListComp f8 [⟨.Name x px,iter,g7,0⟩] scope pos) k9) (tAsg (gh wi tt g9) (fG ix)):=by
 intro pins s σ H DE I h;have h:wi σ H λJ H1=>∀ D,H1 D=q_->∃ W:Nat->Nat->Hp->Prop,(∃ m,W 0 m (upd H1 D (.lst [])))/\∀ i m H,W i m H->
  (J.stop i H/\DE.nx (σ.set ix (be (.ref D))) H)\/(J.go i H/\∀ x H',J.yld i H x H'->tt (σ++[be x]) H' λb H1=>if b=true then g9 (σ++[be x]) H1 λy H''=>∃ vs,H'' D=be (.lst vs)/\vs.length<sizeLine/\∃ m',m'<m/\W (i+1) m' (upd H'' D (.lst (vs++[y]))) else ∃ m',m'<m/\W (i+1) m' H1):=h
 obtain⟨cl,i8,c1,c2⟩:=closure_is (env:=X.env) (scope:=scope) (λn q=>I.ok.has n (.inl (S.free n q)));rw[exec_Assign_Name_used _ _ _ _ y_];refine Os (Qd (Os ?_));show Pd _ X.A (do let _ <- comprehension (.ListComp f8 [⟨.Name x px,iter,g7,0⟩] scope pos) scope X.env _ (newList []) false (Pj iter X.env) (be (Qa (.Name y py) X.env))) _ _ s;refine Os (Pn (Qt (use:=be (Qa (.Name y py) X.env)) (Q:=λ_ s'=>SP X pins DE .next s') rfl hs i8 S.kind S.names
  (thn (hi pins s σ H _ I h) λv s1 h1=>thn h1 λJD s2 h2=>?_)) (λ_ s' hq=>Pa (Pa hq)) λ_ _ e=>e)
 obtain⟨it,fp,tn,J,H1,e,I1,T,st,f1,hr⟩:=h2;subst e;have f6:∀ b∈fp,b<s2.heap.objs.size:=λb hb=>by
  obtain⟨o,ho,_⟩:=T.obj _ _ st b hb;exact Heap.lt_size ho
 have hD:H1 s2.heap.objs.size=none:=I1.hok.fresh (DU _);obtain⟨W,⟨m0,w0⟩,step⟩:=hr _ hD;refine Pq (QD S.nocell (by intro y hy;simp at hy) (λh₁ hns₁ hsb₁=>?_) S.kind);have I3:Inv X pins σ (upd H1 s2.heap.objs.size (.lst [])) {s2 with heap:=s2.heap.push {cls:= .type "list",data:= .seq ([]:List KB).toArray},toks:=s2.toks}:=I1.lnew (its:=[]) (ys:=[]) .nil (Ej _);have gt:∀ b∈fp,b<(s2.heap.push {cls:= .type "list",data:= .seq ([]:List KB).toArray}).objs.size:=λb hb=>by
  rw[Heap.size_push];exact Gz (f6 b hb)
 have m9:∀ b∈fp,FpOk X pins (upd H1 s2.heap.objs.size (.lst [])) b:=λb hb=>⟨by rw[au (D8 (f6 b hb))];exact(f1 b hb).1,(f1 b hb).2⟩;have kp:∀ b o,(s2.heap.push {cls:= .type "list",data:= .seq ([]:List KB).toArray}).get? b=be o->h₁.get? b=be o:=λb o e=>
  (hsb₁.2 b (D8 (Heap.lt_size e))).trans (Heap.get?_push_of_some _ e)
 have I4:=pX (x:=x) (fp:=fp) (t':=s2.toks+([]:List (x9 × KB)).length) I3 S c1 c2 m9 gt hns₁ kp;have z6:=jy (x:=x) (fp:=fp) I3 S c1 c2 m9 gt;generalize hY:bI X scope cl x {s2 with heap:=s2.heap.push {cls:= .type "list",data:= .seq ([]:List KB).toArray},toks:=s2.toks} (upd H1 s2.heap.objs.size (.lst [])) fp=Y at I4 z6;have yP:Y.prog=X.prog:=by rw[<- hY];rfl
 have yW:Y.w=X.w:=by rw[<- hY];rfl
 have yK:Y.K=X.K:=by rw[<- hY];rfl
 have yA:Y.A=X.A:=by rw[<- hY];rfl
 have yN:Y.N=X.N.map (λn=>if n=x then("":x9) else n)++[x]:=by rw[<- hY];rfl
 have yE:Y.env=Qr scope cl (s2.heap.push {cls:= .type "list",data:= .seq ([]:List KB).toArray}).objs.size X.env:=by rw[<- hY];rfl
 have yX:Y.xe=λ_ _=>False:=by rw[<- hY];rfl
 have yC:Y.calm=true:=by rw[<- hY];exact hc
 have II:Y.ex=fp:=by rw[<- hY];rfl
 have Ko:Y.pn=[]:=by rw[<- hY];rfl
 have Kp:Y.fs=frs X.stack:=by rw[<- hY];rfl
 have Kq:Y.H₀=upd H1 s2.heap.objs.size (.lst []):=by rw[<- hY];rfl
 have IJ:Y.s₀={s2 with heap:=s2.heap.push {cls:= .type "list",data:= .seq ([]:List KB).toArray},toks:=s2.toks}:=by rw[<- hY];rfl
 have Kr:PE Y f8 g9:=by rw[<- hY];exact he _ _ _ _
 have Ks:PIf Y g7 tt:=by rw[<- hY];exact hq _ _ _ _
 have g5:∀ {H':Hp},(∀ b∈fp,H' b=q_)->∀ b∈fp,FpOk Y [] H' b:=λ{H'} hn b hb=>by
  have ge:b∈Y.ex:=by rw[II];exact hb
  exact⟨hn b hb,(z6.exf b ge).1,z6.exfs b ge,.inl ge,λn c e=>(z6.exf b ge).2 n c e,by rw[Ko];simp⟩
 have t8:Y.env.scope.names.lookup x=be .local:=by rw[yE];exact QE S.own
 have IK:Y.N[X.N.length]?=be x:=by rw[yN];simp
 have Kt:Y.N.Nodup:=by rw[yN];exact S.nd
 have p9:Y.env.locals=(s2.heap.push {cls:= .type "list",data:= .seq ([]:List KB).toArray}).objs.size:=by rw[yE];rfl
 have d8:∀ (o:Option V) (H':Hp) (s':KM),Inv Y [] (σ++[o]) H' s'->Inv X pins σ H' s':=λo H' s' I'=>by
  have bs:=I'.base;rw[Kp,II,Kq,IJ] at bs;refine I3.call' (ch:=fp) ?_ bs ?_ I'.bare ?_
  .have:=I'.os;rw[IJ] at this;exact this
  .have:=I'.hok;rw[yP,yW] at this;exact this
  .exact λb hb=>⟨(m9 b hb).2.2.2.1,(m9 b hb).2.1,(m9 b hb).2.2.2.2.1,(m9 b hb).2.2.2.2.2⟩
 have p7:P4 (Pc X.prog X.w) X.A (.compLoop (.ListComp f8 [⟨.Name x px,iter,g7,0⟩] scope pos) 0 (.ref it) (.ref s2.heap.objs.size) (Qr scope cl (s2.heap.push {cls:= .type "list",data:= .seq ([]:List KB).toArray}).objs.size X.env))
   (compPost (Pc X.prog X.w) X.A X.xe (be (Qa (.Name y py) X.env)) (λ_ s'=>SP X pins DE .next s') (.ref s2.heap.objs.size) (s2.heap.push {cls:= .type "list",data:= .seq ([]:List KB).toArray}).objs.size)
   {s2 with heap:=h₁,toks:=s2.toks+([]:List (x9 × KB)).length}:=by
  refine pW (λn s'=>∃ i o H',Inv Y [] (σ++[o]) H' s'/\tn i s'.heap/\(∀ b∈fp,H' b=q_)/\W i n H') ?_ m0 ⟨0,q_,_,I4,T.keep _ _ _ st (λb hb ob e=>kp b ob (Heap.get?_push_of_some _ e)),λb hb=>(m9 b hb).1,w0⟩;rintro n s3 ⟨i,o,H3,I5,t3,f3,w3⟩;rcases step i n H3 w3 with⟨stop,q⟩|⟨go,q⟩
  .have dn:=T.done Y yP yW yK yC i [] s3 _ H3 (λ_ _=>False) I5 (g5 f3) t3 stop;rw[yA] at dn;refine thn dn λr s4 b8=>?_;obtain⟨hr,I6⟩:=b8;subst hr;obtain⟨m,hn,_⟩:=I6.loc;have y8:=I6.free;rw[p9] at hn y8;have IX:=d8 o H3 s4 I6;show Pd _ X.A (Qa (.Name y py) X.env (.ref s2.heap.objs.size)) _ _ s4;refine PY (nZ IX hN IN hy (v:= .ref s2.heap.objs.size) rfl (λs5 I7 ⟨a,hsb,ha⟩=>?_) hf);have IP:(s2.heap.push {cls:= .type "list",data:= .seq ([]:List KB).toArray}).objs.size≠X.env.locals:=ET I3.lt;have IQ:∀ z c,X.env.cells.lookup z=be c->c≠(s2.heap.push {cls:= .type "list",data:= .seq ([]:List KB).toArray}).objs.size:=λz c e=>by
    obtain⟨vv,oo,ho,_⟩:=I3.cell z c e;exact D8 (Heap.lt_size ho)
   have Ky:(s2.heap.push {cls:= .type "list",data:= .seq ([]:List KB).toArray}).objs.size≠a:=by
    rcases ha with e|e
    .rw[e];exact IP
    .exact λz=>IQ y a e z.symm
   refine⟨m,hn.sameBut hsb Ky,λh' HP=>⟨_,H3,I7.turned (t':=s5.toks) (it:=(s2.heap.push {cls:= .type "list",data:= .seq ([]:List KB).toArray}).objs.size) (λb ob hb e=>(HP.2 b hb).trans e) y8 IP (.inr I3.sz) IQ (λp hp=>?_),q⟩⟩;exact D8 (Heap.lt_size (I3.pin p hp).1)
  .have IM:=T.item Y yP yW yK yC i [] s3 _ H3 (λ_ _=>False) I5 (g5 f3) t3 go;rw[yA] at IM;refine thn IM λr s4 b8=>?_;obtain⟨u,hr,h4⟩:=b8;subst hr;refine thn h4 λ_ s5 b8=>?_;obtain⟨xv,H5,I6,r5,y5,l_,Ip⟩:=b8;have Ku:=I6.pinned (g5 Ip) (T.obj _ _ l_);rw[<- yE];refine PY (fF Ku Kt IK (.inl t8) r5 (λs6 I7=>?_) (.inr t8));have Hz:(σ++[o]).set X.N.length (be xv)=σ++[be xv]:=by
    rw[<- I.len];simp
   rw[Hz] at I7;have tv:=Ks _ s6 _ H5 _ I7 (q xv H5 y5);rw[yP,yW,yA,yX] at tv;refine thn tv λb Kv b8=>?_;obtain⟨Kw,z7,qb⟩:=b8;cases b with
   |false=>
    obtain⟨m',hm,w7⟩:=qb;refine⟨m',hm,i+1,be xv,_,z7.unpinned,T.keep _ _ _ l_ λb hb ob e=>(z7.pin (b,ob) (Ed _ (Ed _ (cC hb e)))).1,λb hb=>?_,w7⟩;obtain⟨ob,e,d⟩:=T.obj _ _ l_ b hb;exact(z7.pin (b,ob) (Ed _ (Ed _ (cC hb e)))).2.1
   |true=>
   have ev:=Kr _ Kv _ Kw _ z7 qb;rw[yP,yW,yA,yX] at ev;refine thn ev λyv s7 b8=>?_;obtain⟨y,H6,I8,ry,vs,Kx,a_,m',hm,w7⟩:=b8;have ap:=fQ (X:=Y) _ s7 _ H6 (.ref s2.heap.objs.size) [y] (.ref s2.heap.objs.size) [yv] (λ_ H7=>H7=upd H6 s2.heap.objs.size (.lst (vs++[y]))) I8 rfl (.cons ry .nil) ⟨_,vs,y,rfl,rfl,Kx,a_,rfl⟩;rw[yP,yW,yA,yX] at ap;refine thn ap λ_ s8 b8=>?_;obtain⟨_,H7,I9,_,e7⟩:=b8;subst e7;refine⟨m',hm,i+1,be xv,_,I9.unpinned,T.keep _ _ _ l_ λb hb ob e=>(I9.pin (b,ob) (Ed _ (Ed _ (cC hb e)))).1,λb hb=>?_,w7⟩;obtain⟨ob,e,d⟩:=T.obj _ _ l_ b hb;exact(I9.pin (b,ob) (Ed _ (Ed _ (cC hb e)))).2.1
 exact QA p7 (T.self _ _ _ _ _ (T.keep _ _ _ st (λb hb ob e=>kp b ob (Heap.get?_push_of_some _ e))) p7)
end
end L2
namespace My
def RepS.snoc{K:DR}{B F H:Hp}{z:SD}{s:L2.St}{d:D}{v:V}(h:RepS K B F H z s)(r:Rep K F d v):RepS K B F H (z++[be d]) (s++[be v]):=by
 have no:=r.noown;have get:∀ {j:Nat} {x:D},(z++[be d])[j]?=be (be x)->(j<z.length/\z[j]?=be (be x))\/(j=z.length/\x=d):=λ{j x} e=>by
  rcases Fq j z.length with q|q
  .rw[EH q] at e;exact .inl ⟨q,e⟩
  .rw[EW q] at e;cases hz:j - z.length with
   |zero=>rw[hz] at e;simp at e;exact .inr ⟨by lia,e.symm⟩
   |succ n=>rw[hz] at e;simp at e
 have lt:∀ {j:Nat},j<z.length->(s++[be v])[j]?=s[j]?:=λ{j} q=>EH (by rw[h.len];exact q);refine⟨by rw[D7,D7,h.len];rfl,λj x e nx=>?_,λj ds e=>?_,λj k dj dk a e1 e2 e3 e4=>?_⟩
 .rcases get e with⟨q,e⟩|⟨q,rfl⟩
  .rw[lt q];exact h.val j x e nx
  .exact⟨v,by rw[q,EW (by rw[h.len];exact DU _),h.len];simp,r⟩
 .rcases get e with⟨q,e⟩|⟨q,e⟩
  .rw[lt q];exact h.own j ds e
  .rw[<- e] at no;cases no
 .rcases get e1 with⟨q,e1⟩|⟨q,e1⟩
  .rcases get e2 with⟨q2,e2⟩|⟨q2,e2⟩
   .rw[lt q] at e3;rw[lt q2] at e4;exact h.apart j k dj dk a e1 e2 e3 e4
   .rw[<- e2] at no;cases no
  .rw[<- e1] at no;cases no
def okB:Bool->Bool->Prop->Prop->Prop
 |_,true,A,_=>A
 |false,false,_,B=>B
 |true,false,_,_=>False
def okF{b:Bool}{A B:Prop}(h1:b=true->A)(h2:b=false->B):okB false b A B:=by
 cases b
 .exact h2 rfl
 .exact h1 rfl
def cmpG(nf:Bool)(tt:TDT)(te:TD)(z:SD)(R:D->Prop)(items:List D):Prop:=items.length<=100000/\∃ W:Nat->List D->Prop,W 0 []/\(∀ k x ys,items[k]?=be x->(nf=true->ys.length=k)->W k ys->tt (z++[be x]) λb=>okB nf b (te (z++[be x]) λy=>W (k+1) (ys++[y])) (W (k+1) ys))/\∀ ys,(nf=true->ys.length=items.length)->W items.length ys->R (.lst ys)
def cmpF(tt:TDT)(te:TD)(z:SD)(R:D->Prop)(items:List D):Prop:=items.length<=100000/\∃ W:Nat->List D->Prop,W 0 []/\(∀ k x ys,items[k]?=be x->W k ys->tt (z++[be x]) λb=>okB false b (te (z++[be x]) λy=>W (k+1) (ys++[y])) (W (k+1) ys))/\∀ ys,W items.length ys->R (.lst ys)
def cmpP(te:TD)(z:SD)(R:D->Prop)(items:List D):Prop:=items.length<=100000/\∃ W:Nat->List D->Prop,W 0 []/\(∀ k x ys,items[k]?=be x->ys.length=k->W k ys->te (z++[be x]) λy=>W (k+1) (ys++[y]))/\∀ ys,ys.length=items.length->W items.length ys->R (.lst ys)
def gj(ti:TDI)(te:TD):TD:=λz R=>ti z (cmpP te z R)
def pZ(ti:TDI)(tt:TDT)(te:TD):TD:=λz R=>ti z (cmpF tt te z R)
def dT1:TDT:=λ_ R=>R true
abbrev DIf(X:Cx)[Jx](g7:List O_)(t:TDT):Prop:=PIf X g7 (lT X.K t)
variable{X:Cx}
def jA[Jx]:DIf X [] dT1:=pif_nil.anti λs H Q q=>by
 obtain⟨B,F,z,kf,rs,R,h1,h2⟩:=q;exact h2 true F H (Grow.refl kf.fh) h1
def qa[Jx]{c:O_}{t:TDT}(h:DT X c t):DIf X [c] t:=xm h
structure ItIs(K:DR)(J:It)(F1 H1:Hp)(items:List D):Prop where
 go:∀ k F' H',Grow F1 H1 F' H'->k<items.length->J.go k H'
 yld:∀ k F' H' x H'',Grow F1 H1 F' H'->k<items.length->J.yld k H' x H''->H''=H'/\∃ d,items[k]?=be d/\Rep K F' d x
 stop:∀ F' H',Grow F1 H1 F' H'->J.stop items.length H'
def ItOk[Jx](K:DR)(wi:TI)(ti:TDI):Prop:=∀ {s:L2.St} {H B F:Hp} {z:SD} {P:List D->Prop} {Q:It->Hp->Prop},Kept B Jx.F0 F H->RepS K B F H z s->ti z P->(∀ items J F1 H1,Grow F H F1 H1->P items->ItIs K J F1 H1 items->Q J H1)->wi s H Q
section
variable {X:Cx}
variable{K:DR}{H:Hp}{z:SD}{s:L2.St}{R:D->Prop}{items:List D}
def xo[Jx]{B F F1 H1:Hp}{Q:VK}{nf:Bool}{tt:TDT}{te:TD}{J:It}(kf:Kept B Jx.F0 F H)(g1:Grow F H F1 H1)(rs:RepS K B F H z s)(h2:∀ D ys us F' H',H D=q_->F' D=q_->Grow F H F' H'->H' D=be (.lst us)->Reps K F' ys us->R (.lst ys)->Q (.ref D) H')
    (it:ItIs K J F1 H1 items) (hd:cmpG nf tt te z R items):
    ∀ D,H1 D=q_->∃ W:Nat->Nat->Hp->Prop,(∃ m,W 0 m (upd H1 D (.lst [])))/\∀ i m H,W i m H->
      (J.stop i H/\Q (.ref D) H)\/(J.go i H/\∀ x H',J.yld i H x H'->lT K tt (s++[be x]) H' λb H1=>if b=true then lE K te (s++[be x]) H1 λy H''=>∃ vs,H'' D=be (.lst vs)/\vs.length<sizeLine/\∃ m',m'<m/\W (i+1) m' (upd H'' D (.lst (vs++[y]))) else ∃ m',m'<m/\W (i+1) m' H1):=by
  intro D hD;obtain⟨hz,W,w0,b_,out⟩:=hd;have NH:F1 D=none:=g1.fh.free hD;have hH:H D=none:=g1.hh.free hD;refine⟨λk m H'=>m=items.length - k/\k<=items.length/\∃ F' ys us,Grow F1 H1 F' H'/\H' D=be (.lst us)/\F' D=q_/\Reps K F' ys us/\(ys.length<=k/\(nf=true->ys.length=k))/\W k ys,
    ⟨items.length,by simp,Ej _,F1,[],[],⟨Same.refl F1,g1.fh.trans (aT hD _),aT hD _,λb h _=>h⟩,aC,NH,reps_nil.mpr rfl,⟨DU _,λ_=>rfl⟩,w0⟩,?_⟩
  rintro k m H' ⟨rfl,hk,F',ys,us,G,hu,hF,ry,hl,w⟩;by_cases f6:k<items.length
  . refine .inr ⟨it.go k F' H' G f6,λx H'' hy=>?_⟩;obtain⟨e,d,hd,rd⟩:=it.yld k F' H' x H'' G f6 hy;subst e;refine⟨B,F',z++[be d],kf.grow (g1.trans G),(rs.grow (g1.trans G)).snoc rd,_,b_ k d ys hd hl.2 w,λb F3 H3 g3 hb=>?_⟩;have Kz:H3 D=be (.lst us):=g3.hh D _ hu;have Mj:F3 D=none:=g3.out D hF (by rw[hu];exact λq=>nomatch q);cases b with
    |false=>
      cases nf with
      |true=>exact hb.elim
      |false=>exact⟨items.length - (k+1),by lia,rfl,by lia,F3,ys,us,G.trans g3,Kz,Mj,ry.mono g3.ff,⟨by lia,λz=>nomatch z⟩,hb⟩
    |true=>
    refine⟨B,F3,z++[be d],(kf.grow (g1.trans G)).grow g3,((rs.grow (g1.trans G)).snoc rd).grow g3,_,(show te _ _ from by cases nf<;>exact hb),λy yv F2 H2 g2 hw rv=>?_⟩;have NI:H2 D=be (.lst us):=g2.hh D _ Kz;have IR:F2 D=none:=g2.out D Mj (by rw[Kz];exact λq=>nomatch q);have OK:us.length<=k:=by rw[ry.length];exact hl.1
    refine⟨us, NI, by   have:(100000:Nat)<sizeLine:=by decide
                        lia,items.length - (k+1),by lia,rfl,by lia,F2,ys++[y],us++[yv],?_,aC,IR,((ry.mono g3.ff).mono g2.ff).append (dX rv),⟨by simp;lia,λz=>by simp[hl.2 z]⟩,hw⟩
    have GG:=(G.trans g3).trans g2;refine⟨GG.ff,λb o e=>?_,λb o e=>?_,GG.out⟩
    . have ne:b≠D:=λq=>by rw[q,IR] at e;cases e
      rw[au ne];exact GG.fh b o e
    . have ne:b≠D:=λq=>by rw[q,hD] at e;cases e
      rw[au ne];exact GG.hh b o e
  . have ek:k=items.length:=by lia
    subst ek;exact .inl ⟨it.stop F' H' G,h2 D ys us F' H' hH hF (g1.trans G) hu ry (out ys hl.2 w)⟩
def xp{F F' H':Hp}{D:KF}{us:List V}(GG:Grow F H F' H')(hu:H' D=be (.lst us))(hF:F' D=q_)(hH:H D=q_):Grow F H (upd F' D (.lst us)) H':=by
 refine⟨GG.ff.trans (aT hF _),λb o e=>?_,GG.hh,λb h1 h3=>?_⟩
 .by_cases hb:b=D
  .subst hb;rw[aC] at e;cases e;exact hu
  .rw[au hb] at e;exact GG.fh b o e
 .have ne:b≠D:=λq=>h3 (q ▸ hH);rw[au ne];exact GG.out b h1 h3
variable {f8 iter:O_}{g7:List O_}{x:x9}{px pos:Pm}{scope:PH}{ti te:TD}{tt:TDT}{wi:TI}{HQ:TDI}
def gk[Jx]{nf:Bool}{G:SD->(D->Prop)->List D->Prop}(hG:∀ z R items,G z R items->cmpG nf tt te z R items)(hI:ItOk K wi HQ){Q:VK}(q:lE K (λz R=>HQ z (G z R)) s H Q):gh wi (lT K tt) (lE K te) s H Q:=by
 obtain⟨B,F,z,kf,rs,R,h1,h2⟩:=q;exact hI kf rs h1 λitems J F1 H1 g1 hg it=>xo kf g1 rs (λD ys us F' H' hH hF GG hu ry hR=>h2 (.lst ys) (.ref D) _ H' (xp GG hu hF hH) hR (rep_lst.mpr ⟨D,us,rfl,aC,ry.mono (aT hF _)⟩)) it (hG _ _ _ hg)
def cmpP.g(h:cmpP te z R items):cmpG true dT1 te z R items:=
 let ⟨hz,W,w0,b_,out⟩:=h
 ⟨hz,W,w0,λk x ys e l w=>b_ k x ys e (l rfl) w,λys l w=>out ys (l rfl) w⟩
def cmpF.g(h:cmpF tt te z R items):cmpG false tt te z R items:=
 let ⟨hz,W,w0,b_,out⟩:=h
 ⟨hz,W,w0,λk x ys e _ w=>b_ k x ys e w,λys _ w=>out ys w⟩
def itL[Jx]:ItOk K (ou K (lE K ti)) (dItL ti):=λ{s H B F z P Q} kf rs h1 h2=>by
 refine⟨B,F,z,kf,rs,_,h1,λd v F1 H1 g1 hd rd=>?_⟩;have key:∀ (items:List D) (p:KF) (vs:List V),SqL K F1 p vs->Reps K F1 items vs->P items->∃ a,V.ref p= .ref a/\(∃ xs,SqL K H1 a xs)/\Q (Itl K a) H1:=λitems p vs hq rr hd=>by
  refine⟨p,rfl,⟨vs,g1.fh.seq hq⟩,h2 items _ F1 H1 g1 hd ⟨λk F' H' G hk=>?_,λk F' H' x H'' G hk hy=>?_,λF' H' G=>?_⟩⟩
  .have s9:k<vs.length:=by rw[rr.length];exact hk
   exact⟨vs,vs[k],G.hh.seq (g1.fh.seq hq),by simp[s9]⟩
  .obtain⟨e,hy⟩:=hy;obtain⟨d,e2,r2⟩:=rr.get' (hy vs (G.hh.seq (g1.fh.seq hq)));exact⟨e,d,e2,r2.mono G.ff⟩
  .exact⟨vs,G.hh.seq (g1.fh.seq hq),by rw[rr.length];exact DU _⟩
 split at hd
 .obtain⟨p,vs,rfl,hq,rr⟩:=rep_lst.mp rd;exact key _ p vs (SqL.of hq) rr hd
 .obtain⟨p,vs,rfl,hq,rr⟩:=rep_rol.mp rd;exact key _ p vs hq rr hd
 .exact hd.elim
def itR[Jx]:ItOk K (oy (fO (lE K ti) tNil)) (dItR ti):=λ{s H B F z P Q} kf rs h1 h2=>by
 refine⟨B,F,z,kf,rs,_,h1,λd v F1 H1 g1 hd rd=>?_⟩;split at hd
 .rename_i n;obtain⟨⟨b1,b2⟩,hd⟩:=hd;have hl:((DV n.toNat).map λk=>D.int ((k:Nat):Int)).length=n.toNat:=by simp
  refine⟨n,by rw[rep_int.mp rd],by lia,b2,h2 _ _ F1 H1 g1 hd ⟨λk F' H' G hk=>by rw[hl] at hk;exact hk,λk F' H' x H'' G hk hy=>?_,λF' H' G=>by show n.toNat<=_;rw[hl];exact DU _⟩⟩;rw[hl] at hk;obtain⟨e,rfl⟩:=hy;exact⟨e,.int (k:Int),by simp[hk],rep_int.mpr (by congr 1;lia)⟩
 .exact hd.elim
def jB[Jx]{p1 p2:Pm}(hc:X.calm=true)(S:CompScope X scope x)(hm:X.mg "range"=q_)(hi:WDE X iter ti)(he:∀ cl s₀ H₀ fp,WDE (bI X scope cl x s₀ H₀ fp) f8 te)(hg:autoParam (Gl X "range") zA0)
  (hs:autoParam (∀ y,zFS X (.Call (.Name "range" p1) [iter] [] p2) y) zA2) (j7:autoParam (zSE X iter []) zA0) (d_:autoParam (Pg [iter] X.env=[(false,Pj iter X.env)]) zA0):WDE X (.ListComp f8 [⟨.Name x px,.Call (.Name "range" p1) [iter] [] p2,[],0⟩] scope pos) (gj (dItR ti) te):=⟨have hi:=hi.out;have he:=λcl s₀ H₀ fp=>(he cl s₀ H₀ fp).out;(pe_comp hc S (fK hg hm (bg hi pa_nil j7) d_) (λ_ _ _ _=>jA) he hs).anti λs H Q q=>gk (λ_ _ _=>cmpP.g) itR q⟩
def qc[Jx]{E:Ends}{ix:Nat}(hI:ItOk K wi HQ)(q:lS K (dSet ix (gj HQ te)) E s H):tAsg (gh wi (lT K dT1) (lE K te)) (fG ix) E s H:=by
 obtain⟨B,F0,F,z,k,rs,ED,⟨P,h,j⟩,e⟩:=q;exact gk (λ_ _ _=>cmpP.g) hI ⟨B,F,z,k.kf,rs,P,h,λd v F' H' g hd rd=>e.nx _ _ F' H' (k.grow g) (j d hd) ((rs.grow g).set rd)⟩
def qd[Jx](ix:Nat){y:x9}{py k9:Pm}(hc:X.calm=true)(S:CompScope X scope x)(hN:X.N.Nodup)(hi:WDE X iter ti)(he:∀ cl s₀ H₀ fp,WDE (bI X scope cl x s₀ H₀ fp) f8 te)(IN:autoParam (X.N[ix]?=be y) zA0)(hy:autoParam (Loc X.env.scope y) zA4)
  (hf:autoParam (zFN X y) zA3) (y_:autoParam (Pt (.ListComp f8 [⟨.Name x px,iter,[],0⟩] scope pos) (be (.Name y py)) k9.line X.env=pure true) zA0) (hs:autoParam (∀ y,zFS X iter y) zA2):WDS X (.Assign [.Name y py] (.ListComp f8 [⟨.Name x px,iter,[],0⟩] scope pos) k9) (dSet ix (gj (dItL ti) te)):=⟨have hi:=hi.out;have he:=λcl s₀ H₀ fp=>(he cl s₀ H₀ fp).out;(pY hc S (iZ hi) (λ_ _ _ _=>jA) he hN IN hy hf y_ hs).anti λE s H q=>qc itL q⟩
def xq[Jx](ix:Nat){y:x9}{py k9 p1 p2:Pm}(hc:X.calm=true)(S:CompScope X scope x)(hN:X.N.Nodup)(hm:X.mg "range"=q_)(hi:WDE X iter ti)(he:∀ cl s₀ H₀ fp,WDE (bI X scope cl x s₀ H₀ fp) f8 te)(hg:autoParam (Gl X "range") zA0)(IN:autoParam (X.N[ix]?=be y) zA0)(hy:autoParam (Loc X.env.scope y) zA4)
  (hf:autoParam (zFN X y) zA3) (y_:autoParam (Pt (.ListComp f8 [⟨.Name x px,.Call (.Name "range" p1) [iter] [] p2,[],0⟩] scope pos) (be (.Name y py)) k9.line X.env=pure true) zA0)
  (hs:autoParam (∀ y,zFS X (.Call (.Name "range" p1) [iter] [] p2) y) zA2) (j7:autoParam (zSE X iter []) zA0) (d_:autoParam (Pg [iter] X.env=[(false,Pj iter X.env)]) zA0):WDS X (.Assign [.Name y py] (.ListComp f8 [⟨.Name x px,.Call (.Name "range" p1) [iter] [] p2,[],0⟩] scope pos) k9) (dSet ix (gj (dItR ti) te)):=⟨have hi:=hi.out;have he:=λcl s₀ H₀ fp=>(he cl s₀ H₀ fp).out;(pY hc S (fK hg hm (bg hi pa_nil j7) d_) (λ_ _ _ _=>jA) he hN IN hy hf y_ hs).anti λE s H q=>qc itR q⟩
end
def dZ(scope fsc:PH):List (x9 × PN):=scope.names.map λ(n,k)=>if(k==NameKind.free && fsc.kind== .function && fsc.names.lookup n==be .cell) then(n,NameKind.cell) else(n,k)
def visB(l:List (x9 × PN))(n:x9):Bool:=l.lookup n==be .local||l.lookup n==be .cell||l.lookup n==be .free
def cx(scope fsc:PH)(N:List x9)(x:x9):Bool:=
 scope.kind== .function && scope.names.all (λy=>!(y.2== .cell)) && scope.names.all (λy=>!(y.2== .local)||scope.names.lookup y.1==be .local) && scope.names.lookup x==be .local &&
 scope.names.all (λy=>!(y.2== .free)||fsc.names.lookup y.1==be .cell) && N.all (λn=>decide (n=x)||!visB (dZ scope fsc) n||scope.names.any (λy=>decide (y=(n,NameKind.free)))) && !visB (dZ scope fsc) "" &&
 scope.names.all (λy=>!(y.2== .free)||(dZ scope fsc).lookup y.1==be .cell) && decide (N.map (λn=>if n=x then("":x9) else n)++[x]).Nodup
def qe{l:List (x9 × PN)}{n:x9}(h:l.lookup n=be .local\/l.lookup n=be .cell\/l.lookup n=be .free):visB l n=true:=by
 unfold visB;rcases h with h|h|h<;>rw[h]<;>rfl
def compScope{scope:PH}{x:x9}(h:cx scope X.env.scope X.N x=true):CompScope X scope x:=by
 unfold cx at h;simp only[Ek] at h;obtain⟨⟨⟨⟨⟨⟨⟨⟨h1,h2⟩,h3⟩,h4⟩,h5⟩,h6⟩,h7⟩,h8⟩,h9⟩:=h;have er:(QR scope X.env).names=dZ scope X.env.scope:=rfl;refine⟨by simpa using h1,λy hy=>?_,λy hy e=>?_,by simpa using h4,λn hn=>?_,λn hn ne v=>?_,λv=>?_,λn hn=>?_,of_decide_eq_true h9⟩
 .have:=EQ.mp h2 y hy;simpa using this
 .have:=EQ.mp h3 y hy;rw[e] at this;simpa using this
 .have:=EQ.mp h5 _ hn;show X.env.scope.names.lookup n=be .cell;simpa using this
 .have:=EQ.mp h6 n hn;have v':visB (dZ scope X.env.scope) n=true:=qe v;rw[v'] at this;simp[ne] at this;exact this
 .have v':visB (dZ scope X.env.scope) ""=true:=qe v;rw[v'] at h7;cases h7
 .have:=EQ.mp h8 _ hn;rw[er];simpa using this
def putD(f:x9)(v:D):List (x9 × D)->List (x9 × D)
 |[]=>[(f,v)]
 |(g,x)::r=>if g=f then(g,v)::r else(g,x)::putD f v r
def RepF.put{K:DR}{F:Hp}{f:x9}{d:D}{v:V}(r:Rep K F d v):∀ {fs:List (x9 × D)} {ws:List (x9 × V)},RepF K F fs ws->RepF K F (putD f d fs) (putF f v ws)
 |[],ws,h=>by
  rw[repf_nil.mp h];exact repf_cons.mpr ⟨v,[],rfl,r,repf_nil.mpr rfl⟩
 |(g,x)::fs,ws,h=>by
  obtain⟨w,HA,rfl,h1,h2⟩:=repf_cons.mp h;unfold putD putF;by_cases e:g=f
  .rw[if_pos e,if_pos e];exact repf_cons.mpr ⟨v,HA,rfl,r,h2⟩
  .rw[if_neg e,if_neg e];exact repf_cons.mpr ⟨w,_,rfl,h1,RepF.put r h2⟩
def RepF.length{K:DR}{F:Hp}:∀ {fs:List (x9 × D)} {ws:List (x9 × V)},RepF K F fs ws->ws.length=fs.length
 |[],ws,h=>by rw[repf_nil.mp h];rfl
 |(g,x)::fs,ws,h=>by
  obtain⟨w,HA,rfl,h1,h2⟩:=repf_cons.mp h;rw[D0,D0,RepF.length h2]
def ClsA(K:DR)(x f:x9):Prop:=∃ C,nsIn K O8 x=be (be (.ref C))/\Cls K C/\NoAttr K C f
section
variable {X:Cx}{a b c e:O_}{ta tb tc te:TD}{pos:Pm}
def dFld(x f:x9)(te:TD):TD:=λz R=>te z λd=>match d with| .obj y fs=>y=x/\∃ d,fs.lookup f=be d/\R d|_=>False
variable{x:x9}
def gl[Jx]{f:x9}(h:ClsA X.K x f)(he:WDE X e te)(hb:autoParam (Pi e f X.env (Pj e X.env)=Pj e X.env) zA0):WDE X (.Attribute e f pos) (dFld x f te):=⟨have he:=he.out;(oP he hb).anti λs H Q q=>by
 obtain⟨C,hn,hc,hf⟩:=h;obtain⟨B,F,z,kf,rs,R,h1,h2⟩:=q;have fh:=kf.fh;refine⟨B,F,z,kf,rs,_,h1,λd u F1 H1 g1 hx rx=>?_⟩;split at hx
 .obtain⟨rfl,d,hl,hR⟩:=hx;obtain⟨a,C',dx,vs,rfl,j6,q,r⟩:=rep_obj.mp rx;rw[hn] at j6;cases j6;obtain⟨v,l,rv⟩:=r.look hl;exact⟨a,C,dx,vs,v,rfl,g1.fh _ _ q,hc,hf,l,h2 d v F1 H1 g1 hR rv⟩
 .exact hx.elim⟩
def qf[Jx]{d:D}{v:V}{u:KB}(hm:X.mg x=be u)(r:RelV v u)(rd:∀ H,Rep X.K H d v)(hg:autoParam (Gl X x) zA0)(hd:autoParam (zND x) zA1):DE X (.Name x pos) (dC d):=de_c (tD hg hm r hd) rd
def fk[Jx]{i:Int}(h:∃ t,X.mg x=be (.int i t))(hg:autoParam (Gl X x) zA0)(hd:autoParam (zND x) zA1):WDE X (.Name x pos) (dC (.int i)):=⟨by
 obtain⟨t,h⟩:=h;exact qf (v:= .int i) h ⟨t,rfl⟩ (λ_=>rep_int.mpr rfl) hg hd⟩
def gm[Jx]{y:x9}(h:∃ t,X.mg x=be (.str y t))(hg:autoParam (Gl X x) zA0)(hd:autoParam (zND x) zA1):WDE X (.Name x pos) (dC (.str y)):=⟨by
 obtain⟨t,h⟩:=h;exact qf (v:= .str y) h ⟨t,rfl⟩ (λ_=>rep_str.mpr rfl) hg hd⟩
structure ClsI(K:DR)(mg:Str->Option KB)(x:Str)(C:KF):Prop where
 ns:nsIn K O8 x=be (be (.ref C))
 mg:mg x=be (.ref C)
 cl:Cls K C
 ha:D3 K (.ref C) "__class__"=be (be (.builtin "object.__class__"))
 hn:specialIn K (.builtin "object.__class__") "__get__"=be (be (.builtin "getset_descriptor.__get__"))
 htk:takesIn K (.builtin "object.__class__")=be true
 hm:E6 K C (.type "object")=be true
 self:kitOne K (.ref C) (.ref C)=be true
end
abbrev SiD:=List D->(List (x9 × D)->Prop)->Prop
def lSi(K:DR)(C:KF)(S:SiD):Sp:=λvs H Q _=>∃ a dx us H1 F ds,vs= .ref a::us/\H=upd (upd H1 dx (.own a)) a (.ins C dx [])/\H1 a=q_/\H1 dx=q_/\dx≠a/\Same F H1/\Reps K F ds us/\
 ∃ R:List (x9 × D)->Prop,S ds R/\∀ fs ws z8 F' H',Grow F H1 F' H'->R fs->H' a=be (.ins C z8 ws)->F' a=q_->RepF K F' fs ws->Q .non H'
def CalM(P:O9)(w:Pe)(K:DR)(mg:x9->Option KB)(base:Heap)(n:Nat)(x:x9)(ps:List x9)(S:SiD):Prop:=
 ∃ C f fd,nsIn K O8 x=be (be (.ref C))/\mg x=be (.ref C)/\Mk K C f/\FnOk P w K mg base (Exc.CX1 P w) n f fd ps (lSi K C S)/\Binds K fd ps []
def xr(x:x9)(S:SiD)(t:TDA):TD:=λz R=>t z λds=>S ds λfs=>R (.obj x fs)
def jC[Jx]{pos:Pm}{n m:Nat}{ps:List x9}{S:SiD}{x:x9}{p:Pm}{e:O_}{es:List O_}{t:TDA}(M:CalM X.prog X.w X.K X.mg X.base n x ps S)(hr:Room m X.A)(ha:WDA X (e::es) t)(hg:autoParam (Gl X x) zA0)(hn:autoParam (n+1<=m) zA1)(d6:autoParam (zND x) zA1)
  (he:autoParam (zSE X e es) zA0) (c5:autoParam (zPL X pos es) zA0):WDE X (.Call (.Name x p) (e::es) [] pos) (xr x S t):=⟨by
 have ha:=ha.out;obtain⟨C,f,fd,hns,k8,mk,F,hb⟩:=M;refine(je mk F (hr.mono hn) hg k8 hb .nil eY ha d6 he c5).anti λs H Q q=>?_;obtain⟨B,F,z,kf,rs,R,h1,h2⟩:=q;have fh:=kf.fh;refine⟨B,F,z,kf,rs,_,h1,λds vs F1 H1 g1 hx rx=>?_⟩;intro a dx ha t9 i9;refine⟨a,dx,vs,H1,F1,ds,by rw[EA],rfl,ha,t9,i9,g1.fh,rx,_,hx,λfs ws z8 F' H' g hR f7 g8 rf=>⟨rfl,?_⟩⟩;have s1:Same F' (upd F' a (.ins C z8 ws)):=aT g8 _;refine h2 (.obj x fs) (.ref a) (upd F' a (.ins C z8 ws)) H' ⟨(g1.ff.trans g.ff).trans s1,λb o q=>?_,g1.hh.trans g.hh,λb q1 q2=>?_⟩ hR (rep_obj.mpr ⟨a,C,z8,ws,rfl,hns,aC,RepF.mono s1 fs ws rf⟩)
 .by_cases hb:b=a
  .subst hb;rw[aC] at q;cases q;exact f7
  .rw[au hb] at q;exact g.fh b o q
 .by_cases hb:b=a
  .subst hb;exact absurd (g1.hh.free ha) q2
  .rw[au hb];exact(g1.trans g).out b q1 q2⟩
abbrev TID:=SD->List (x9 × D)->(List (x9 × D)->Prop)->Prop
def lI(K:DR)[J:Jx](x:x9)(t:TID):TS:=λE σ H=>∃ C a dx ws F z fs,nsIn K O8 x=be (be (.ref C))/\σ[0]?=be (be (.ref a))/\H a=be (.ins C dx ws)/\J.B a=q_/\F a=q_/\Kept J.B J.F0 F H/\RepS K J.B F H z σ/\RepF K F fs ws/\
 ∃ R:List (x9 × D)->Prop,t z fs R/\∀ n_ HA F' H',Kept J.B J.F0 F' H'->R n_->H' a=be (.ins C dx HA)->F' a=q_->RepF K F' n_ HA->E.nx σ H'
abbrev DI(X:Cx)[Jx](x:x9)(st:List Pb)(t:TID):Prop:=PSs X st (lI X.K x t)
structure WDI(X:Cx)[Jx](x:Str)(st:List Pb)(t:TID):Prop where
 out:DI X x st t
section
variable {X:Cx}{x f:x9}{e:O_}{te:TD}{pos c8 p:Pm}{rest:List Pb}{tr:TID}
def qg:TID:=λ_ fs R=>R fs
def xt(f:x9)(te:TD)(tr:TID):TID:=λz fs R=>te z λd=>fs.length<1000/\tr z (putD f d fs) R
def dB[Jx]:WDI X x [] qg:=⟨pss_nil.anti λE s H q=>by
 obtain⟨C,a,dx,ws,F,z,fs,hn,h0,f7,z9,g8,g,rs,rf,R,hR,k⟩:=q;exact k fs ws F H g hR f7 g8 rf⟩
def RepS.other{K:DR}{B F H:Hp}{z:SD}{σ:L2.St}{a:KF}{o o':HO}(rs:RepS K B F H z σ)(h:H a=be o)(hl:∀ vs,o≠.lst vs):RepS K B F (upd H a o') z σ:=
 ⟨rs.len,rs.val,λi ds e=>by
  obtain⟨b,vs,q1,q2,q⟩:=rs.own i ds e;have ne:b≠a:=by
   rintro rfl;rw[h] at q2;cases q2;exact hl vs rfl
  exact⟨b,vs,q1,by rw[au ne];exact q2,q⟩,rs.apart⟩
def bJ[J:Jx]{ps:Pm}{sx:x9}(hA:ClsA X.K x f)(he:WDE X e te)(hr:WDI X x rest tr)(hN:autoParam (X.N[0]?=be sx) zA0)(hv:autoParam (Vis X.env.scope sx) zA5)(hd:autoParam (zND sx) zA1)
  (g6:autoParam (zNC sx) zA1) (hs:autoParam (Pt e (be (.Attribute (.Name sx ps) f c8)) pos.line X.env=pure false) zA0):WDI X x (.Assign [.Attribute (.Name sx ps) f c8] e pos::rest) (xt f te tr):=⟨have he:=he.out;have hr:=hr.out;(eQ (oQ (eO (i:=0) hN hv hd g6) he hs) hr).anti λE s H q=>by
 obtain⟨C,a,dx,ws,F,z,fs,hn,h0,f7,z9,g8,g,rs,rf,R,hR,k⟩:=q;obtain⟨C',j6,hc,hf⟩:=hA;rw[hn] at j6;cases j6;refine⟨_,F,z,g,rs,_,hR,λd v F2 H2 g2 hx rv=>?_⟩;have k2:=g.grow g2;have Ml:=g2.hh a _ f7;have IR:F2 a=none:=g2.out a g8 (by rw[f7];exact λz=>nomatch z);refine⟨.ref a,h0,a,C,dx,ws,rfl,Ml,hc,hf,by rw[rf.length];exact hx.1,?_⟩;have NJ:Same F2 (upd H2 a (.ins C dx (putF f v ws))):=λb o q=>by
  have ne:b≠a:=by rintro rfl;rw[IR] at q;cases q
  rw[au ne];exact g2.fh b o q
 have G':Same J.B (upd H2 a (.ins C dx (putF f v ws))):=λb o q=>by
  have ne:b≠a:=by rintro rfl;rw[z9] at q;cases q
  rw[au ne];exact k2.bh b o q
 exact⟨C,a,dx,putF f v ws,F2,z,putD f d fs,hn,h0,aC,z9,IR,⟨G',NJ,k2.f0,k2.out,k2.eb,k2.jf,k2.jo⟩,(rs.grow g2).other Ml (λ_ z=>nomatch z),RepF.put rv (RepF.mono g2.ff fs ws rf),R,hx.2,k⟩⟩
end
section
variable {P:O9}{w:Pe}{K:DR}{mg:x9->Option KB}{base:Heap}
def qh{K:DR}{B F H:Hp}{z:SD}{σ:L2.St}{v:V}(rs:RepS K B F H z σ):RepS K B F H (q_::z) (be v::σ):=
  ⟨by rw[D0,D0,rs.len],λi d e no=>by
    cases i with
    |zero=>cases e
    |succ i=>exact rs.val i d e no,λi ds e=>by
    cases i with
    |zero=>cases e
    |succ i=>exact rs.own i ds e,λi j di dj a e1 e2 e3 e4=>by
    cases i with
    |zero=>cases e1
    |succ i=>
      cases j with
      |zero=>cases e2
      |succ j=>rw[rs.apart i j di dj a e1 e2 e3 e4]⟩
def Cls.okI{x qual:x9}{st:Pb}{f C:KF}{fd:Ph}{N:List x9}{p0:x9}{ps:List x9}{k:Nat}{S:SiD}(T:Fun K "__init__" qual st f fd)(hb:Binds K fd (p0::ps) [])(F:FnScope (p0::N) (p0::ps) (ah st))(len:∀ ds R,S ds R->ds.length=ps.length)
  (hns:nsIn K O8 x=be (be (.ref C))) (k8:mg x=be (.ref C)) (mk:Mk K C f)
  (a9:∀ (cdv:KB) (A:Pf) (outer:List PU) (s:KM) (H:Hp) (E:XK) (J:Jx),Room k (A.deeper (Pl qual (ah st) s.heap.objs.size f cdv))->
   ∃ t,DI (cxOf (Exc.CX1 P w) P w K mg base (p0::N) qual (ah st) f cdv A outer s H E).nox x (aK st) t/\∀ ds R,S ds R->t (q_::startD N ds) [] R):CalM P w K mg base (k+1) x (p0::ps) S:=by
 refine⟨C,f,fd,hns,k8,mk,Fun.okC T F (λvs H Q E h=>?_) (λcdv A outer s H vs Q E hr h=>?_),hb⟩
 .obtain⟨a,dx,us,H1,F,ds,rfl,_,_,_,_,_,rs,R,h,_⟩:=h;rw[D0,D0,rs.length,len ds R h]
 .obtain⟨a,dx,us,H1,F1,ds,rfl,rfl,ha,t9,i9,fh,rs,R,h,q⟩:=h
  letI:Jx:=⟨H1,F1,λ_ _ _=>False⟩
  obtain⟨t,ht,hq⟩:=a9 cdv A outer s _ E inferInstance hr;have Fa:F1 a=none:=fh.free ha;have hl:L2.start (p0::N) (.ref a::us)=be (.ref a)::L2.start N us:=by
   unfold L2.start;rw[Eb,D0,D0,GA];rfl
  have s1:Same H1 (upd (upd H1 dx (.own a)) a (.ins C dx [])):=(aT t9 _).trans (aT (by rw[au (Ne.symm i9)];exact ha) _);refine⟨_,ht.nox,C,a,dx,[],F1,q_::startD N ds,[],hns,by rw[hl];rfl,aC,ha,Fa,⟨s1,fh.trans s1,Same.refl F1,λ_ h _=>h,rfl,Same.refl F1,λ_ h _=>h⟩,?_,repf_nil.mpr rfl,R,hq ds R h,λn_ HA F' H' g hR f7 g8 rf=>q n_ HA dx F' H' ⟨g.f0,g.fh,g.bh,g.out⟩ hR f7 g8 rf⟩;rw[hl];exact qh (dR rs)
end
section
variable {X:Cx}{a b c e:O_}{ta tb tc te:TD}{pos:Pm}
def qi(t u:TD):TDI:=λz R=>t z λx=>u z λy=>match x,y with| .int i,.int j=>(-(2 ^ 62)<=i/\i<2 ^ 62/\-(2 ^ 62)<=j/\j<2 ^ 62)/\R ((DV (j - i).toNat).map λk=>D.int (i+((k:Nat):Int)))|_,_=>False
def RepS.change[Jx]{K:DR}{B F0 F H:Hp}{z:SD}{s:L2.St}{i:Nat}{ds KA:List D}{a:KF}{p6:List V}(rs:RepS K B F H z s)(k:Kept B F0 F H)(ez:z[i]?=be (be (.own ds)))(q1:s[i]?=be (be (.ref a)))(hB:B a=q_)(hF:F a=q_)(r:Reps K F KA p6):
  Kept B F0 F (upd H a (.lst p6))/\RepS K B F (upd H a (.lst p6)) (z.set i (be (.own KA))) s:=by
 have same:∀ {G:Hp},G a=q_->Same G H->Same G (upd H a (.lst p6)):=λ{G} ga gs b o eb=>by
  have ne:b≠a:=λz=>by rw[z,ga] at eb;cases eb
  rw[au ne];exact gs b o eb
 have r2:=rs.setOwn (i:=i) (a:=a) (vs:=p6) (ds:=KA) hB hF r (λj dj hj e1 e2=>hj (rs.apart j i dj ds a e1 ez e2 q1));have es:s.set i (be (.ref a))=s:=by
  apply FC;intro n;by_cases hn:i=n
  .subst hn;rw[EG (Ec.mp q1).1,q1]
  .rw[Eh hn]
 rw[es] at r2;exact⟨⟨same hB k.bh,same hF k.fh,k.f0,k.out,k.eb,k.jf,k.jo⟩,r2⟩
end
end My
namespace My
open Exc
abbrev XD:=x9->List (x9 × D)->Prop
def ErrD(K:DR)(F:Hp)(x:x9)(fs:List (x9 × D))(C:KF)(od:Option KF):Prop:=
 nsIn K O8 x=be (be (.ref C))/\∃ vs,RepF K F fs vs/\((od=q_/\vs=[])\/∃ b,od=be b/\F b=be (.xd vs))
abbrev SpX:=List D->(D->Prop)->XD->Prop
def lSpX(K:DR)(S:SpX):Sp:=λvs H Q E=>∃ F ds,Same F H/\Reps K F ds vs/\∃ (R:D->Prop) (RX:XD),S ds R RX/\(∀ d v F' H',Grow F H F' H'->R d->Rep K F' d v->Q v H')/\
 ∀ x fs C od F' H',Grow F H F' H'->RX x fs->ErrD K F' x fs C od->E (.ref C) od H'
def Exd(X:Cx)(H:Hp)(s:KM)(e C:KF)(od:Option KF):Prop:=
  H e=q_/\X.s₀.heap.get? e=q_/\(∀ p∈X.pn,p.1≠e)/\
  ((∃ sl vs,s.heap.get? e=be ⟨.ref C,od,.fields vs,sl⟩/\vs[1]?=be .none)\/
    ∃ T,ExAt s.heap e C od T .none/\X.s₀.heap.get? T=q_/\H T=q_/\∀ p∈X.pn,p.1≠T)
def XOk(X:Cx)[J:Jx]:Prop:=∀ (σ:L2.St) (z:SD) (F H:Hp) (s:KM) (e C:KF) (od:Option KF) (x:x9) (fs:List (x9 × D)),Inv X [] σ H s->Kept J.B J.F0 F H->RepS X.K J.B F H z σ->J.RX z x fs->ErrD X.K F x fs C od->Exd X H s e C od->X.xe (.ref e) s
variable{X:Cx}{pins:List (KF × Pu)}{σ:L2.St}{H:Hp}{s:KM}
def Inv.nopins(I:Inv X pins σ H s):Inv X [] σ H s:=I.pins_of λp hp=>by cases hp
section
variable {X:Cx}{k:Nat}{f:KF}{fd:Ph}{ps:List x9}{sp:Sp}{E:XK}
def jD{pins:List (KF × Pu)}{σ:L2.St}{H:Hp}{s:KM}{Q:VK}{us:List KB}{vs:List V}(F:FnOk X.prog X.w X.K X.mg X.base (CX1 X.prog X.w) k f fd ps sp)(hr:Room k X.A)(hb:Binds X.K fd ps [])
  (hx:∀ e s',CX1 X.prog X.w X.stack H s E e s'->X.xe e s') (I:Inv X pins σ H s) (r:Vals vs us) (h:sp vs H Q E):Pd (Pc X.prog X.w) X.A (call (.ref f) us) (EP X pins σ Q) X.xe s:=by
 have hl:us.length=ps.length:=by rw[<- L2.Vals.length r];exact F.len _ _ _ _ h
 have ge:=hb s us I.kIn (by rw[EA];exact hl);rw[EA] at ge;refine P3 (PQ (F.run X.A X.stack s H ⟨us,[]⟩ us vs Q E hr I.env0 ge r h) λr s' hq=>?_);cases r with
 |error e=>exact hx e s' hq
 |ok fl=>
  cases fl with
  |ret u=>exact I.after hq
  |next=>exact False.elim hq
  |brk=>exact False.elim hq
  |cont=>exact False.elim hq
end
variable{b:KF}
def cK(I:Inv X pins σ H s)(f9:X.ex=[])(q:s.heap.get? b=q_):X.s₀.heap.get? b=none:=by
 cases z:X.s₀.heap.get? b with
 |none=>rfl
 |some o=>
  obtain⟨o',z'⟩:=I.base.there b o z (by rw[f9];simp);rw[q] at z';cases z'
def pn_free(I:Inv X pins σ H s)(q:s.heap.get? b=q_):∀ p∈X.pn,p.1≠b:=λp hp z=>by
 have:=(I.pin p (Fy _ hp)).1;rw[z,q] at this;cases this
def XOk.out[J:Jx](hx:XOk X)(f9:X.ex=[]){z:SD}{s':KM}{ev:KB}(I:Inv X pins σ H s)
  (h:CX1 X.prog X.w X.stack H s (λCv od H'=>∃ x fs C F',Cv= .ref C/\Kept J.B J.F0 F' H'/\RepS X.K J.B F' H' z σ/\J.RX z x fs/\ErrD X.K F' x fs C od) ev s'):X.xe ev s':=by
 obtain⟨e,C,od,T,H',rfl,x_,hb,un,hok,KC,ne,nT,He,HT,x,fs,C',F',hC,kk,rr,hR,er⟩:=h;cases hC;have I':Inv X pins σ H' s':=I.call' x_ un hok hb (λb z=>absurd z (by simp));exact hx σ z F' H' s' e C od x fs (Inv.nopins I') kk rr hR er ⟨He,cK I f9 ne,pn_free I ne,.inr ⟨T,KC,cK I f9 nT,HT,pn_free I nT⟩⟩
abbrev CalX(P:O9)(w:Pe)(K:DR)(mg:x9->Option KB)(base:Heap)(n:Nat)(x:x9)(ps:List x9)(S:SpX):Prop:=Cal P w K mg base n x ps (lSpX K S)
section
variable {P:O9}{w:Pe}{K:DR}{mg:x9->Option KB}{base:Heap}
variable{N:List x9}
def qj{qual:x9}{scope:PH}{f:KF}{cd:KB}{A:Pf}{outer:List PU}{s:KM}{H:Hp}{E':XK}{pins:List (KF × Pu)}{σ:L2.St}{H':Hp}{s':KM}{e C T:KF}{od:Option KF}
  (I':Inv (cxOf (CX1 P w) P w K mg base N qual scope f cd A outer s H E') pins σ H' s') (hx:ExAt s'.heap e C od T .none) (ne:s.heap.get? e=q_) (nT:s.heap.get? T=q_) (He:H' e=q_) (HT:H' T=q_) (hE:E' (.ref C) od H'):
  (cxOf (CX1 P w) P w K mg base N qual scope f cd A outer s H E').xe (.ref e) s':=by
 show Pd _ _ (Qx _ _) _ _ _;unfold Qx;refine Os (wp I'.ok.frames I'.stack rfl hx λh2 T2 IC ID Hn=>pw (s:={s' with heap:=h2}) IC λh3 Km G7=>?_);have IE:s'.heap.get? T2=none:=Heap.get?_none_of_le ID;have f1:∀ b,s'.heap.get? b=q_->s.heap.get? b=none:=λb q=>cK I' rfl q;have hok:HOk P w H' s'.heap:=I'.hok;have IF:H' T2=none:=hok.fresh ID;have NK:∀ b∈[T,e],s.heap.get? b=none:=λb hb=>by
  rcases D2.mp hb with z|z
  .rw[z];exact nT
  .rw[DY.mp z];exact ne
 have u2:Un (frs outer) [] H H' s.heap h2:=fU (show Un (frs outer) [] H H' s.heap s'.heap from I'.base) Hn NK λb hb=>pz hb;have u3:Un (frs outer) [] H H' s.heap h3:=fU u2 G7 (λb hb=>by rw[DY.mp hb];exact f1 T2 IE) λb hb=>by cases hb
 have k2:=fT hok Hn (λb hb=>I'.stkFree b hb) (λb hb=>by
  rcases D2.mp hb with z|z
  .rw[z];exact HT
  .rw[DY.mp z];exact He)
 have k3:=fT k2 G7 (λb hb=>by cases hb) (λb hb=>by rw[DY.mp hb];exact IF);exact⟨e,C,od,T2,H',rfl,I'.os,I'.bare,u3,k3,Km,ne,f1 T2 IE,He,IF,hE⟩
variable{ps:List x9}
def _root_.L2.Fun.okX{x:x9}{st:Pb}{f:KF}{fd:Ph}{k:Nat}{S:SpX}(T:Fun K x x st f fd)(F:FnScope N ps (ah st))(len:∀ ds R RX,S ds R RX->ds.length=ps.length)
  (a9:∀ (cdv:KB) (A:Pf) (outer:List PU) (s:KM) (H:Hp) (E:XK) (J:Jx),Room k (A.deeper (Pl x (ah st) s.heap.objs.size f cdv))->XOk (cxOf (CX1 P w) P w K mg base N x (ah st) f cdv A outer s H E)->
   ∃ t,DSs (cxOf (CX1 P w) P w K mg base N x (ah st) f cdv A outer s H E) (aK st) t/\∀ ds R RX,(∀ z,J.RX z=RX)->S ds R RX->t {nx:=λ_=>R .non,rt:=R} (startD N ds)):FnOk P w K mg base (CX1 P w) (k+1) f fd ps (lSpX K S):=by
 refine Fun.okC T F (λvs H Q E h=>?_) (λcdv A outer s H vs Q E hr h=>?_)
 .obtain⟨F,ds,fh,rs,R,RX,h,_⟩:=h;rw[rs.length];exact len ds R RX h
 .obtain⟨F,ds,fh,rs,R,RX,h,q,qx⟩:=h
  letI:Jx:=⟨H,F,λ_=>RX⟩
  have hx:XOk (cxOf (CX1 P w) P w K mg base N x (ah st) f cdv A outer s H E):=by
   intro σ z F' H' s' e C od y fs I kk rr hR er ⟨He,ne,_,hx⟩;have hE:E (.ref C) od H':=qx y fs C od F' H' ⟨kk.f0,kk.fh,kk.bh,kk.out⟩ hR er;rcases hx with⟨sl,vs,h1,h2⟩|⟨T,h1,h2,h3,_⟩
   .exact pA I h1 h2 He ne hE
   .exact qj I h1 ne h2 He h3 hE
  obtain⟨t,ht,hq⟩:=a9 cdv A outer s H E inferInstance hr hx;refine⟨_,ht,H,F,F,startD N ds,⟨Same.refl H,fh,Same.refl F,λ_ h _=>h,rfl,Same.refl F,λ_ h _=>h⟩,dR rs,_,hq ds R RX (λ_=>rfl) h,⟨λz' s' F' H' k hn _=>q _ _ F' H' ⟨k.f0,k.fh,k.bh,k.out⟩ hn (rep_non.mpr rfl),λd v F' H' k hd rd=>q d v F' H' ⟨k.f0,k.fh,k.bh,k.out⟩ hd rd,λ_ _ _ _ _ h _=>h.elim,λ_ _ _ _ _ h _=>h.elim⟩⟩
def Tx.okX{x:x9}{st:Pb}{k:Nat}{S:SpX}(T:Tx K mg x st ps)(F:FnScope N ps (ah st))(len:∀ ds R RX,S ds R RX->ds.length=ps.length)
  (a9:∀ (f:KF) (cdv:KB) (A:Pf) (outer:List PU) (s:KM) (H:Hp) (E:XK) (J:Jx),Room k (A.deeper (Pl x (ah st) s.heap.objs.size f cdv))->XOk (cxOf (CX1 P w) P w K mg base N x (ah st) f cdv A outer s H E)->
   ∃ t,DSs (cxOf (CX1 P w) P w K mg base N x (ah st) f cdv A outer s H E) (aK st) t/\∀ ds R RX,(∀ z,J.RX z=RX)->S ds R RX->t {nx:=λ_=>R .non,rt:=R} (startD N ds)):CalX P w K mg base (k+1) x ps S:=by
 obtain⟨f,fd,T,hb,hm⟩:=T;exact⟨f,fd,T.okX F len λcdv A outer s H E J hr hx=>a9 f cdv A outer s H E J hr hx,hb,T.kp,hm⟩
end
variable{P:O9}{w:Pe}{h:Heap}
def ObjOk.there{a:KF}{o:HO}(x:ObjOk P w H h a o):∃ u,h.get? a=be u:=by
 cases o with
 |lst xs=>obtain⟨_,_,_,_,e⟩:=x;exact⟨_,e⟩
 |tup xs=>obtain⟨_,_,_,o,e,_⟩:=x;exact⟨_,e⟩
 |dK a8=>obtain⟨_,_,_,_,o,_,_,e,_⟩:=x;exact⟨_,e⟩
 |dT a8=>obtain⟨_,_,_,_,o,_,_,e,_⟩:=x;exact⟨_,e⟩
 |set S n=>obtain⟨o,_,_,_,e,_⟩:=x;exact⟨_,e⟩
 |ins C dx fs=>obtain⟨_,_,_,e,_⟩:=x;exact⟨_,e⟩
 |own y=>exact x
 |xd fs=>obtain⟨_,⟨_,_,_,e,_⟩,_⟩:=x;exact⟨_,e⟩
 |rng lo hi=>obtain⟨_,_,_,e⟩:=x;exact⟨_,e⟩
 |frz ob u=>obtain⟨e,_⟩:=x;exact⟨_,e⟩
 |tbl ps=>exact⟨_,(show h.get? a=be _ from x)⟩
 |met f y=>exact⟨_,(show h.get? a=be _ from x)⟩
 |ext φ=>obtain⟨_,e,_⟩:=x;exact e
def gp{a:KF}(x:HOk P w H h)(e:h.get? a=q_):H a=none:=by
 cases q:H a with
 |none=>rfl
 |some o=>
  obtain⟨u,hu⟩:=ObjOk.there (x a o q);rw[e] at hu;cases hu
def del(H:Hp)(a:KF):Hp:=λb=>if b=a then q_ else H b
def fm{a:KF}:del H a a=none:=by unfold del;rw[if_pos rfl]
def cm{a:KF}(h:b≠a):del H a b=H b:=by unfold del;rw[if_neg h]
section
variable {X:Cx}{pins:List (KF × Pu)}{σ:L2.St}{H:Hp}{s:KM}{e:KF}
variable{φ:Heap->Prop}
def Inv.drop(I:Inv X pins σ H s)(h:H e=be (.ext φ))(ne:X.s₀.heap.get? e=q_):Inv X pins σ (del H e) s:=by
 have nx:∀ b o,H b=be o->(∀ φ,o≠.ext φ)->b≠e:=λb o q n z=>by rw[z,h] at q;cases q;exact n φ rfl
 refine⟨I.ok,I.os,I.bare,⟨I.base.keep,I.base.slot,λb o q n hx=>?_,I.base.there,λb xs q=>?_,λb o u q=>?_,λb ps q=>?_⟩,I.loc,I.cell,?_,λx c q=>?_,λp hp=>?_,λa o q=>?_,I.len⟩
 .have:b≠e:=λz=>by rw[z,ne] at q;cases q
  rw[cm this];exact I.base.free b o q n hx
 .have:=I.base.tups b xs q;rw[cm (nx b _ this λφ z=>nomatch z)];exact this
 .have:=I.base.frzs b o u q;rw[cm (nx b _ this λφ z=>nomatch z)];exact this
 .obtain⟨m,this⟩:=I.base.tbls b ps q;exact⟨m,by rw[cm (nx b _ this λφ z=>nomatch z)];exact this⟩
 .by_cases z:X.env.locals=e
  .rw[z];exact fm
  .rw[cm z];exact I.free
 .by_cases z:c=e
  .rw[z];exact fm
  .rw[cm z];exact I.freeC x c q
 .obtain⟨h1,h2,h3⟩:=I.pin p hp;refine⟨h1,?_,h3⟩;by_cases z:p.1=e
  .rw[z];exact fm
  .rw[cm z];exact h2
 .by_cases z:a=e
  .rw[z,fm] at q;cases q
  .rw[cm z] at q;exact(I.hok a o q).stay (λb u _ r=>r) (λb r=>by rw[cm (nx b _ r λφ z=>nomatch z)];exact r) λb xs r=>by rw[cm (nx b _ r λφ z=>nomatch z)];exact r
def Inv.adopt(I:Inv X pins σ H s)(He:H e=q_)(ok:ObjOk X.prog X.w H s.heap e (.ext φ))(ne:X.s₀.heap.get? e=q_)(hl:e≠X.env.locals)(hc:∀ x c,X.env.cells.lookup x=be c->c≠e)(hp:∀ p∈X.pn++pins,p.1≠e):Inv X pins σ (upd H e (.ext φ)) s:=by
 refine⟨I.ok,I.os,I.bare,⟨I.base.keep,I.base.slot,λb o q n hx=>?_,I.base.there,λb xs q=>?_,λb o u q=>?_,λb ps q=>?_⟩,I.loc,I.cell,?_,λx c q=>?_,λp KD=>?_,λa o q=>?_,I.len⟩
 .have:b≠e:=λz=>by rw[z,ne] at q;cases q
  rw[au this];exact I.base.free b o q n hx
 .have:=I.base.tups b xs q;rw[au (bP this He)];exact this
 .have:=I.base.frzs b o u q;rw[au (bP this He)];exact this
 .obtain⟨m,this⟩:=I.base.tbls b ps q;exact⟨m,by rw[au (bP this He)];exact this⟩
 .rw[au (Ne.symm hl)];exact I.free
 .rw[au (hc x c q)];exact I.freeC x c q
 .obtain⟨h1,h2,h3⟩:=I.pin p KD;refine⟨h1,?_,h3⟩;rw[au (hp p KD)];exact h2
 .by_cases z:a=e
  .rw[z,aC] at q;cases q;rw[z];exact ok
  .rw[au z] at q;exact(I.hok a o q).stay (λb u _ r=>r) (λb r=>by rw[au (bP r He)];exact r) λb xs r=>by rw[au (bP r He)];exact r
end
structure ErrK(K:DR)(mg:Str->Option KB)(x:Str)(C N:KF)(bm:List KB):Prop where
 ns:nsIn K O8 x=be (be (.ref C))
 mg:mg x=be (.ref C)
 kp:keepIn K (.ref C)=true
 obj:∃ nm q bs sn sub ab col dd k0 k1 k2 k3 k5,K.lookup C=be (PC nm q C N bs bm true sn sub ab col dd k0 k1 k2 k3 k5 "ValueError.__new__")
 tail:tailIn K veLine bm=true
structure ErrN(K:DR)(N:KF):Prop where
 ok:nsOkIn K N=true
 no:nsIn K N "__init__"=be q_
def jE{K:DR}:∀ {l:List KB},tailIn K veLine l=true->aQ l=true
 |[],e=>by simp[tailIn,veLine] at e
 |v::r,e=>by
  unfold tailIn at e;rcases Bool.or_eq_true_iff.mp e with q|q
  .rw[beq_iff_eq.mp q];decide+kernel
  .split at q
   .split at q
    .simp only[Ek,beq_iff_eq] at q;unfold aQ;exact jE q.2
    .cases q
   .cases q
variable{K:DR}{mg:x9->Option KB}{x:x9}{C N:KF}{bm:List KB}
def ErrK.base(k:ErrK K mg x C N bm):bm.contains (.type "BaseException")=true:=fS (by decide+kernel) (jE k.tail)
section
variable {X:Cx}[J:Jx]{x:x9}{C N:KF}{bm:List KB}{e:O_}{es:List O_}{t:TDA}{p cpos pos:Pm}
def xu(x:x9)(t:TDA):TSD:=λ_ z=>t z λds=>ds.length<=1000/\J.RX z x []
def xx(h:∃ C N bm,ErrK X.K X.mg x C N bm/\ErrN X.K N)(hx:XOk X)(hc:X.calm=true)(ha:WDA X (e::es) t)(f9:autoParam (X.ex=[]) zA0)(hg:autoParam (Gl X x) zA0)(d6:autoParam (zND x) zA1)
  (he:autoParam (zSE X e es) zA0) (c5:autoParam (zPL X cpos es) zA0):WDS X (.Raise (be (.Call (.Name x p) (e::es) [] cpos)) q_ pos) (xu x t):=⟨by
 have ha:=ha.out;obtain⟨C,N,bm,k,kn⟩:=h;intro pins s σ H D I h;obtain⟨B,F0,F,z,kf,rs,ED,h,ee⟩:=h;obtain rfl:B=J.B:=kf.eb;obtain⟨nm,q,bs,sn,sub,ab,col,dd,k0,k1,k2,k3,k5,lk⟩:=k.obj;refine jl (nm:=nm) (q:=q) (C:=C) (N:=N) (bs:=bs) (bm:=bm) (hdct:=true) (sn:=sn) (sub:=sub) (ab:=ab) (col:=col) (dd:=dd) (k0:=k0) (k1:=k1) (k2:=k2) (k3:=k3) (k5:=k5) (newId:="ValueError.__new__") k.base (I.ok.hd hc) ?_;refine Po (cR I hg k.mg ?_ d6);refine callWith_K (h₀:=X.base) I.ok.mod.kin k.kp (thn (ha cpos pins s σ H (λvs H1=>∃ F1,vs.length<=1000/\Grow F H F1 H1/\J.RX z x []) I ⟨_,F,z,kf.kf,rs,_,h,λds vs F1 H1 g1 hx rx=>⟨F1,by rw[rx.length];exact hx.1,g1,hx.2⟩⟩) λus s1 hh=>⟨hh.elim λ_ h=>h.elim λ_ h=>h.1.kIn,?_⟩) he c5;obtain⟨vs,H1,I1,r,F1,hl,g1,hR⟩:=hh;have hC:=I1.kIn _ _ lk;obtain⟨hp,gg,dr,tk,os⟩:=s1;refine QH PySem.F.excBase_ValueError (tail_of_in I1.kIn k.tail) hC (.of_isNs (isNs_of_in I1.kIn kn.ok)) (nsMap_none_of_in I1.kIn kn.ok kn.no) (λh' ea hm=>?_) (by show us.length<=_;rw[<- L2.Vals.length r];exact sz hl);obtain⟨ta,h1,h2,h3⟩:=hm.there;have I2:Inv X pins σ H1 ⟨h',gg,dr,tk,os⟩:=I1.kept (t':=tk) hm.keeps;refine⟨ea,ta,q_,#[],rfl,hm.keeps _ _ hC,h1,?_⟩;exact hx σ z F1 H1 _ ea C q_ x [] (Inv.nopins I2) (kf.kf.grow g1) (rs.grow g1) hR ⟨k.ns,[],repf_nil.mpr rfl,.inl ⟨rfl,rfl⟩⟩ ⟨gp I1.hok hm.new,cK I1 f9 hm.new,pn_free I1 hm.new,.inl ⟨#[],_,h1,rfl⟩⟩⟩
end
def XN(e C:KF)(od:Option KF):HO:= .ext λh=>∃ t sl,h.get? e=be ⟨.ref C,od,.fields #[.ref t,.none,.none,.none,.bool false,.none],sl⟩
variable{od:Option KF}{sl:Array (Option KB)}
def XN.ok{e t:KF}(q:h.get? e=be ⟨.ref C,od,.fields #[.ref t,.none,.none,.none,.bool false,.none],sl⟩):ObjOk P w H h e (XN e C od):=
 ⟨⟨t,sl,q⟩,⟨_,q⟩,λh1 h2 ⟨t,sl,q⟩ k=>⟨t,sl,k _ q⟩⟩
def XN.get{e:KF}(x:HOk P w H h)(q:H e=be (XN e C od)):∃ t sl,h.get? e=be ⟨.ref C,od,.fields #[.ref t,.none,.none,.none,.bool false,.none],sl⟩:=(x e _ q).1
def ErrF(K:DR)(F:Hp)(fs:List (x9 × D))(od:Option KF):Prop:=∃ vs,RepF K F fs vs/\((od=q_/\vs=[])\/∃ b,od=be b/\F b=be (.xd vs))
def lEi(K:DR)(C:KF)(S:SiD):Sp:=λvs H Q _=>∃ e us H1 F ds,vs= .ref e::us/\H=upd H1 e (XN e C q_)/\H1 e=q_/\Same F H1/\Reps K F ds us/\
 ∃ R:List (x9 × D)->Prop,S ds R/\∀ fs od F' H',Grow F H1 F' H'->R fs->H' e=be (XN e C od)->F' e=q_->ErrF K F' fs od->Q .non H'
def CalE(P:O9)(w:Pe)(K:DR)(mg:x9->Option KB)(base:Heap)(n:Nat)(x:x9)(ps:List x9)(S:SiD):Prop:=
 ∃ C N bm f fd,ErrK K mg x C N bm/\D3 K (.ref C) "__init__"=be (be (.ref f))/\isFn K (.ref f)=true/\FnOk P w K mg base (CX1 P w) n f fd ps (lEi K C S)/\Binds K fd ps []
section
variable {X:Cx}{pins:List (KF × Pu)}{σ:L2.St}{H:Hp}{s:KM}{e:KF}
def Inv.newx{C:KF}{h':Heap}{us:List KB}(I:Inv X pins σ H s)(f9:X.ex=[])(hm:Heap.MadeExcOf s.heap h' e (.ref C) us):Inv X pins σ (upd H e (XN e C q_)) {s with heap:=h'}:=by
 obtain⟨ta,h1,h2,h3⟩:=hm.there;have I2:Inv X pins σ H {s with heap:=h'}:=I.kept (t':=s.toks) hm.keeps;refine Inv.adopt I2 (gp I.hok hm.new) (XN.ok h1) (cK I f9 hm.new) (λz=>?_) (λx c q z=>?_) λp hp z=>?_
 .obtain⟨m,⟨o,_,_,ho,_⟩,_⟩:=I.loc;rw[<- z,hm.new] at ho;cases ho
 .obtain⟨v,o,ho,_⟩:=I.cell x c q;rw[z,hm.new] at ho;cases ho
 .have:=(I.pin p hp).1;rw[z,hm.new] at this;cases this
end
structure BaseK(K:DR)(mg:Str->Option KB)(y:Str)(M:KF):Prop where
 mg:mg y=be (.ref M)
 rd:readsIn K M (.type "type")=true
 fc:findCls K (.ref M) (.type "type") "__init__"=be (.val (.builtin "ValueError.__init__"))
 sp:specialIn K (.ref M) "__getattribute__"=be (be (.builtin "type.__getattribute__"))
structure ErrA(K:DR)(x:Str)(C:KF)(cd:ClassData):Prop where
 ns:nsIn K O8 x=be (be (.ref C))
 cl:FZ K C=be cd
 mro:aQ cd.mro=true
 hd:cd.hasDict=true
 sa:D3 K (.ref C) "__setattr__"=be (be (.builtin "object.__setattr__"))
def ErrK.a(k:ErrK K mg x C N bm)(sa:D3 K (.ref C) "__setattr__"=be (be (.builtin "object.__setattr__"))):∃ cd,ErrA K x C cd:=by
 obtain⟨nm,q,bs,sn,sub,ab,col,dd,k0,k1,k2,k3,k5,lk⟩:=k.obj;exact⟨_,k.ns,by unfold FZ;rw[lk],by
  show aQ (.ref C::bm)=true;unfold aQ;exact jE k.tail,rfl,sa⟩
def lX(K:DR)[J:Jx](x:x9)(t:TID):TS:=λE σ H=>∃ C e od ws F z fs,nsIn K O8 x=be (be (.ref C))/\σ[0]?=be (be (.ref e))/\H e=be (XN e C od)/\J.B e=q_/\F e=q_/\Kept J.B J.F0 F H/\RepS K J.B F H z σ/\RepF K F fs ws/\
 ((od=q_/\ws=[])\/∃ b,od=be b/\H b=be (.xd ws)/\J.B b=q_/\F b=q_/\b≠e/\ws≠[])/\
 ∃ R:List (x9 × D)->Prop,t z fs R/\∀ n_ JK F' H',Kept J.B J.F0 F' H'->R n_->H' e=be (XN e C JK)->F' e=q_->ErrF K F' n_ JK->E.nx σ H'
abbrev DX(X:Cx)[Jx](x:x9)(st:List Pb)(t:TID):Prop:=PSs X st (lX X.K x t)
structure WDX(X:Cx)[Jx](x:Str)(st:List Pb)(t:TID):Prop where
 out:DX X x st t
def xy{a:KF}{o:HO}(h:H a=be o):upd H a o=H:=by
 funext b;unfold upd;by_cases q:b=a
 .rw[if_pos q,q,h]
 .rw[if_neg q]
section
variable {X:Cx}[J:Jx]{x f:x9}{e:O_}{te:TD}{ta:TDA}{pos c8 p:Pm}{rest:List Pb}{tr:TID}
def qk:WDX X x [] qg:=⟨pss_nil.anti λE s H q=>by
 obtain⟨C,a,od,ws,F,z,fs,hn,h0,f7,hB,g8,k,rs,rf,hd,R,hR,kk⟩:=q;rcases hd with⟨rfl,rfl⟩|⟨b,rfl,hb,JL,JM,ne,_⟩
 .exact kk fs q_ F H k hR f7 g8 ⟨[],rf,.inl ⟨rfl,rfl⟩⟩
 .have s1:Same F (upd F b (.xd ws)):=aT JM _;refine kk fs (be b) (upd F b (.xd ws)) H ⟨k.bh,λc o q=>?_,k.f0.trans s1,λc h1 h2=>?_,k.eb,k.jf,k.jo⟩ hR f7 (by rw[au (Ne.symm ne)];exact g8) ⟨ws,RepF.mono s1 fs ws rf,.inr ⟨b,rfl,aC⟩⟩
  .by_cases hc:c=b
   .subst hc;rw[aC] at q;cases q;exact hb
   .rw[au hc] at q;exact k.fh c o q
  .have:c≠b:=λz=>h2 (z ▸ JL);rw[au this];exact k.out c h1 h2⟩
def xz(ta:TDA)(tr:TID):TID:=λz fs R=>ta z λds=>ds.length<=1000/\tr z fs R
def ql{y sx:x9}{ps py apos cpos:Pm}{es:List O_}{pl:QC Bool}(hb:∃ M,BaseK X.K X.mg y M)(hA:∃ C cd,ErrA X.K x C cd)(ha:WDA X es ta)(hr:WDX X x rest tr)(hg:autoParam (Gl X y) zA0)(hN:autoParam (X.N[0]?=be sx) zA0)(hv:autoParam (Vis X.env.scope sx) zA5)(hd:autoParam (zND sx) zA1)
  (g6:autoParam (zNC sx) zA1) (NL:autoParam (zND y) zA1)
  (he:autoParam (Pg (.Name sx ps::es) X.env=(false,Pj (.Name sx ps) X.env)::Pg es X.env) zA0) (c5:autoParam (zPL X cpos es) zA0)
  (ht:Pj (.Call (.Attribute (.Name y py) "__init__" apos) (.Name sx ps::es) [] cpos) X.env=(do
   let ov <- Pj (.Name y py) X.env
   Qe apos.atName
   let (f,first) <- Qy [ov] (Ql ov "__init__" pl)
   callWith cpos f first (PP cpos (Pg (.Name sx ps::es) X.env)) (P_ cpos (PM [] X.env))):=by rfl)
  (hs:autoParam (Pt (.Call (.Attribute (.Name y py) "__init__" apos) (.Name sx ps::es) [] cpos) q_ pos.line X.env=pure false) zA0):WDX X x (.Expr (.Call (.Attribute (.Name y py) "__init__" apos) (.Name sx ps::es) [] cpos) pos::rest) (xz ta tr):=⟨by
 have ha:=ha.out;have hr:=hr.out;obtain⟨M,bk⟩:=hb;obtain⟨C,cd,er⟩:=hA;have step:PS X (.Expr (.Call (.Attribute (.Name y py) "__init__" apos) (.Name sx ps::es) [] cpos) pos) (λE σ H=>∃ C' e od,nsIn X.K O8 x=be (be (.ref C'))/\σ[0]?=be (be (.ref e))/\
   lA X.K ta σ H (λvs H1=>H1 e=be (XN e C' od)/\vs.length<=1000/\E.nx σ H1)):=by
  intro pins s σ H D I h;obtain⟨C',ea,od,hn,h0,h⟩:=h;rw[er.ns] at hn;cases hn;refine wpAny_Expr_any (methodCall_KW (pl:=pl) (cR I hg bk.mg ?_ NL) ht) I.quiet hs;refine method_cls I.kIn bk.sp (cls_value I.kIn bk.rd bk.fc (by decide+kernel) ?_);have I0:Inv X pins σ H {s with toks:=s.toks+1}:=I.tok _;obtain⟨B,F,z,kf,rs,R,h1,h2⟩:=h;refine PyProof.Rows.callWith_builtin1 (thn (bg (eO (i:=0) hN hv hd g6) ha he cpos pins _ σ H (λvs H1=>∃ us,vs= .ref ea::us/\H1 ea=be (XN ea C od)/\us.length<=1000/\D.nx σ H1) I0 ⟨.ref ea,h0,⟨B,F,z,kf,rs,R,h1,λds vs F' H' g hx rx=>⟨vs,rfl,h2 ds vs F' H' g hx rx⟩⟩⟩) λus s1 hh=>?_) he c5;obtain⟨vs,H1,I1,r,OL,ev,t_,hl,IS⟩:=hh;subst ev;cases r with
  |cons r1 r2=>
   rename_i u0 OM;obtain rfl:u0=Value.ref ea:=r1;obtain⟨t0,sl,m_⟩:=XN.get I1.hok t_;refine wk (K:=X.K) (C:=C) (cd:=cd) I1.kIn m_ rfl rfl er.cl er.mro (by rw[<- L2.Vals.length r2];exact sz hl) λh' g1 g2=>?_;refine⟨σ,H1,?_,IS⟩;have w:=I1.write (x:=ea) (e:=ea) (o:=XN ea C od) (h':=h') (t':=s1.toks) (by rw[t_];exact True.intro) (.inl rfl) (λb u hb q=>g2 b u hb q) ⟨_,g1⟩ (XN.ok g1);rw[xy t_] at w;exact w
 refine(eQ step hr).anti λE s H q=>?_;obtain⟨C',a,od,ws,F,z,fs,hn,h0,f7,hB,g8,k,rs,rf,j8,R,hR,kk⟩:=q;refine⟨C',a,od,hn,h0,_,F,z,k,rs,_,hR,λds vs F1 H1 g hx rx=>⟨g.hh a _ f7,by rw[rx.length];exact hx.1,?_⟩⟩;refine⟨C',a,od,ws,F1,z,fs,hn,h0,g.hh a _ f7,hB,g.out a g8 (by rw[f7];exact λz=>nomatch z),k.grow g,rs.grow g,RepF.mono g.ff fs ws rf,?_,R,hx.2,kk⟩;rcases j8 with j8|⟨b,h1,h2,h3,h4,h5⟩
 .exact .inl j8
 .exact .inr ⟨b,h1,g.hh b _ h2,h3,g.out b h4 (by rw[h2];exact λz=>nomatch z),h5⟩⟩
def xA(f:x9)(te:TD)(tr:TID):TID:=λz fs R=>fs=[]/\te z λd=>tr z [(f,d)] R
def qm{sx:x9}{ps:Pm}(hA:∃ C cd,ErrA X.K x C cd)(hf:∀ C,nsIn X.K O8 x=be (be (.ref C))->D3 X.K (.ref C) f=be q_)(he:WDE X e te)(hr:WDX X x rest tr)(hN:autoParam (X.N[0]?=be sx) zA0)(hv:autoParam (Vis X.env.scope sx) zA5)(hd:autoParam (zND sx) zA1)
  (g6:autoParam (zNC sx) zA1) (hs:autoParam (Pt e (be (.Attribute (.Name sx ps) f c8)) pos.line X.env=pure false) zA0):WDX X x (.Assign [.Attribute (.Name sx ps) f c8] e pos::rest) (xA f te tr):=⟨by
 have he:=he.out;have hr:=hr.out;obtain⟨C,cd,er⟩:=hA;have IT:=hf C er.ns;have step:PS X (.Assign [.Attribute (.Name sx ps) f c8] e pos) (λE σ H=>∃ e,σ[0]?=be (be (.ref e))/\
   lE X.K te σ H (λv H1=>H1 e=be (XN e C q_)/\∀ b,H1 b=q_->b≠e->E.nx σ (upd (upd H1 b (.xd [(f,v)])) e (XN e C (be b))))):=by
  intro pins s σ H D I h;obtain⟨ea,h0,h⟩:=h;refine Qj (thn (he pins s σ H _ I h) λu s1 ⟨y,H1,I1,ry,t_,IS⟩=>thn (eO (i:=0) hN hv hd g6 pins s1 σ H1 (λv H'=>v= .ref ea/\H'=H1) I1 ⟨.ref ea,h0,rfl,rfl⟩) λov s2 hh=>?_) hs;obtain⟨v0,H2,I2,r0,e1,e2⟩:=hh;subst e1 e2;obtain rfl:ov=Value.ref ea:=r0;obtain⟨t0,sl,m_⟩:=XN.get I2.hok t_;refine wj (K:=X.K) (C:=C) (cd:=cd) I2.kIn m_ rfl rfl rfl er.cl er.mro er.hd er.sa IT λh' g1 g2 g3 tk=>?_;have y8:H2 s2.heap.objs.size=none:=I2.hok.fresh (DU _);have i9:s2.heap.objs.size≠ea:=ET (Heap.lt_size m_);have KE:∀ b o,s2.heap.get? b=be o->b≠s2.heap.objs.size:=λb o q=>D8 (Heap.lt_size q);have KG:∀ b,H2 b=q_->b≠ea:=λb q z=>by rw[z,t_] at q;cases q
  refine⟨σ,_,?_,IS _ y8 i9⟩;have IU:∀ b o,H2 b=be o->(∀ φ,o≠.ext φ)->upd (upd H2 s2.heap.objs.size (.xd [(f,y)])) ea (XN ea C (be s2.heap.objs.size)) b=be o:=λb o q n=>by
   have n1:b≠ea:=λz=>by rw[z,t_] at q;cases q;exact n _ rfl
   rw[au n1,au (bP q y8)];exact q
  refine I2.un (h':=h') (t':=tk) ⟨λb o q n _ _=>g3 b o (KG b n) q,λb o q n _ _=>⟨o.slots,g3 b o (KG b n) q⟩,λb o q n _=>?_,λb o q _=>?_,λb xs q=>IU b _ q (λφ z=>nomatch z),λb o u q=>IU b _ q (λφ z=>nomatch z),λb ps q=>⟨#[],by rw[IU b _ q (λφ z=>nomatch z)];simp⟩⟩ λa o q=>?_
  .rw[au (KG b n),au (KE b o q)];exact n
  .by_cases hb:b=ea
   .rw[hb];exact⟨_,g1⟩
   .exact⟨o,g3 b o hb q⟩
  .by_cases ha:a=ea
   .subst ha;rw[aC] at q;cases q;exact XN.ok g1
   .rw[au ha] at q;by_cases hb:a=s2.heap.objs.size
    .subst hb;rw[aC] at q;cases q;refine⟨_,g2,λg=>?_⟩;rw[Ee];by_cases hg:g=f
     .subst hg;simp;exact ry
     .have:(g==f)=false:=by simpa using hg
      rw[this,if_neg hg];exact True.intro
    .rw[au hb] at q;refine(I2.hok a o q).stay (λb u ge r=>?_) (λb r=>IU b _ r (λφ z=>nomatch z)) λb xs r=>IU b _ r (λφ z=>nomatch z);refine g3 b u (λz=>?_) r;rcases ge with e1|e1
     .exact ha (e1 ▸ z)
     .rw[z,t_] at e1;cases e1
 refine(eQ step hr).anti λE s H q=>?_;obtain⟨C',a,od,ws,F,z,fs,hn,h0,f7,hB,g8,k,rs,rf,j8,R,⟨rfl,hR⟩,kk⟩:=q;rw[er.ns] at hn;cases hn;have NM:ws=[]:=repf_nil.mp rf;subst NM;refine⟨a,h0,_,F,z,k,rs,_,hR,λd v F1 H1 g hx rv=>?_⟩;have IV:F1 a=none:=g.out a g8 (by rw[f7];exact λz=>nomatch z);have k1:=k.grow g;rcases j8 with⟨rfl,_⟩|⟨b,rfl,h1,h2,h3,h4⟩
 .refine⟨g.hh a _ f7,λb hb i9=>?_⟩;have JL:J.B b=none:=k1.bh.free hb;have JM:F1 b=none:=k1.fh.free hb;have same:∀ {G:Hp},G a=q_->G b=q_->Same G H1->Same G (upd (upd H1 b (.xd [(f,v)])) a (XN a C (be b))):=λ{G} ga gb gs c o q=>by
   have n1:c≠a:=λz=>by rw[z,ga] at q;cases q
   have n2:c≠b:=λz=>by rw[z,gb] at q;cases q
   rw[au n1,au n2];exact gs c o q
  have s_:=rs.grow g;refine⟨C,a,be b,[(f,v)],F1,z,[(f,d)],er.ns,h0,aC,hB,IV,⟨same hB JL k1.bh,same IV JM k1.fh,k1.f0,k1.out,k1.eb,k1.jf,k1.jo⟩,?_,repf_cons.mpr ⟨v,[],rfl,rv,repf_nil.mpr rfl⟩,.inr ⟨b,rfl,by rw[au i9];exact aC,JL,JM,i9,λz=>nomatch z⟩,R,hx,kk⟩;refine⟨s_.len,s_.val,λi ds e'=>?_,s_.apart⟩;obtain⟨c,vs,q1,q2,q⟩:=s_.own i ds e';have n1:c≠a:=λz=>by rw[z,g.hh a _ f7] at q2;cases q2
  have n2:c≠b:=λz=>by rw[z,hb] at q2;cases q2
  exact⟨c,vs,q1,by rw[au n1,au n2];exact q2,q⟩
 .exact absurd rfl h4.2⟩
end
section
variable {P:O9}{w:Pe}{K:DR}{mg:x9->Option KB}{base:Heap}
def Cls.okE{x qual:x9}{st:Pb}{f C N0:KF}{bm:List KB}{fd:Ph}{N:List x9}{p0:x9}{ps:List x9}{k:Nat}{S:SiD}(T:Fun K "__init__" qual st f fd)(hb:Binds K fd (p0::ps) [])(F:FnScope (p0::N) (p0::ps) (ah st))(len:∀ ds R,S ds R->ds.length=ps.length)
  (ek:ErrK K mg x C N0 bm) (hi:D3 K (.ref C) "__init__"=be (be (.ref f))) (hf:isFn K (.ref f)=true)
  (a9:∀ (cdv:KB) (A:Pf) (outer:List PU) (s:KM) (H:Hp) (E:XK) (J:Jx),Room k (A.deeper (Pl qual (ah st) s.heap.objs.size f cdv))->
   ∃ t,DX (cxOf (CX1 P w) P w K mg base (p0::N) qual (ah st) f cdv A outer s H E).nox x (aK st) t/\∀ ds R,S ds R->t (q_::startD N ds) [] R):CalE P w K mg base (k+1) x (p0::ps) S:=by
 refine⟨C,N0,bm,f,fd,ek,hi,hf,Fun.okC T F (λvs H Q E h=>?_) (λcdv A outer s H vs Q E hr h=>?_),hb⟩
 .obtain⟨a,us,H1,F,ds,rfl,_,_,_,rs,R,h,_⟩:=h;rw[D0,D0,rs.length,len ds R h]
 .obtain⟨a,us,H1,F1,ds,rfl,rfl,ha,fh,rs,R,h,q⟩:=h
  letI:Jx:=⟨H1,F1,λ_ _ _=>False⟩
  obtain⟨t,ht,hq⟩:=a9 cdv A outer s _ E inferInstance hr;have Fa:F1 a=none:=fh.free ha;have hl:L2.start (p0::N) (.ref a::us)=be (.ref a)::L2.start N us:=by
   unfold L2.start;rw[Eb,D0,D0,GA];rfl
  have s1:Same H1 (upd H1 a (XN a C q_)):=aT ha _;refine⟨_,ht.nox,C,a,q_,[],F1,q_::startD N ds,[],ek.ns,by rw[hl];rfl,aC,ha,Fa,⟨s1,fh.trans s1,Same.refl F1,λ_ h _=>h,rfl,Same.refl F1,λ_ h _=>h⟩,?_,repf_nil.mpr rfl,.inl ⟨rfl,rfl⟩,R,hq ds R h,λn_ JK F' H' g hR f7 g8 er=>q n_ JK F' H' ⟨g.f0,g.fh,g.bh,g.out⟩ hR f7 g8 er⟩;rw[hl];exact qh (dR rs)
end
abbrev _root_.L2.Cx.held(X:Cx)(e:KF):Cx:={X with A:=X.A.mark (be (.ref e)),calm:=false,xe:=λ_ _=>False}
section
variable {X:Cx}{pins:List (KF × Pu)}{σ:L2.St}{H:Hp}{s:KM}{e:KF}
def Cx.Ok.held(ok:X.Ok):(X.held e).Ok:=
 ⟨ok.mod,ok.kind,ok.glob,ok.blt,ok.above,ok.inj,ok.has,ok.cab,(λz=>nomatch z),ok.frames,ok.stk,ok.exf,ok.bs,ok.bsz,ok.noex,ok.exfs,ok.funs,ok.frf⟩
def Inv.held(I:Inv X pins σ H s):Inv (X.held e) pins σ H s:=⟨Cx.Ok.held I.ok,I.os,I.bare,I.base,I.loc,I.cell,I.free,I.freeC,I.pin,I.hok,I.len⟩
end
def subE(x c:x9):Bool:=x==c||c=="MotifError"
structure ErrsK(K:DR)(mg:Str->Option KB)(es:List Str):Prop where
 cls:∀ x∈es,∃ C N bm,ErrK K mg x C N bm
 sub:∀ x∈es,∀ y∈es,∀ C C',nsIn K O8 x=be (be (.ref C))->nsIn K O8 y=be (be (.ref C'))->E6 K C (.ref C')=be (subE x y)
def ErrsK.has{es:List x9}(k:ErrsK K mg es){y:x9}{C' N':KF}{NN:List KB}(hx:x∈es)(hy:y∈es)(a:ErrK K mg x C N bm)(b:ErrK K mg y C' N' NN):(Value.ref C::bm).contains (.ref C')=subE x y:=by
 have h:=k.sub x hx y hy C C' a.ns b.ns;obtain⟨nm,q,bs,sn,sub,ab,col,dd,k0,k1,k2,k3,k5,lk⟩:=a.obj;unfold E6 FZ at h;rw[lk] at h;simp only[Fk,List.isEmpty_cons,Bool.false_eq_true,if_false,Option.some.injEq] at h;exact h
structure Held(X:Cx)(pins:List (KF × Pu))(H:Hp)(s:KM)(e C:KF)(od:Option KF)(T:KF):Prop where
 ex:ExAt s.heap e C od T .none
 He:H e=q_
 HT:H T=q_
 e0:X.s₀.heap.get? e=q_
 T0:X.s₀.heap.get? T=q_
 eP:∀ p∈X.pn++pins,p.1≠e
 TP:∀ p∈X.pn++pins,p.1≠T
section
variable {X:Cx}{pins:List (KF × Pu)}{σ:L2.St}{H:Hp}{s:KM}
def XO.ok{P:O9}{w:Pe}{h:Heap}{e C:KF}{od:Option KF}{vs:Array KB}{sl:Array (Option KB)}(q:h.get? e=be ⟨.ref C,od,.fields vs,sl⟩):ObjOk P w H h e (XO e C od):=
 ⟨⟨vs,sl,q⟩,⟨_,q⟩,λh1 h2 ⟨vs,sl,q⟩ k=>⟨vs,sl,k _ q⟩⟩
end
abbrev TH:=x9->List (x9 × D)->TSD
def DH(X:Cx)[J:Jx](hs:List ExceptHandler)(th:TH):Prop:=
 ∀ (pins:List (KF × Pu)) (s:KM) (σ:L2.St) (H:Hp) (D:Ends) (e C:KF) (od:Option KF) (T:KF) (x:x9) (fs:List (x9 × My.D)) (B F0 F:Hp) (z:SD) (ED:EndsD),Inv X pins σ H s->Held X pins H s e C od T->Kept B F0 F H->RepS X.K B F H z σ->ErrD X.K F x fs C od->
  th x fs ED z->EndsOk X.K B F0 ED D->Pd (Pc X.prog X.w) X.A (handleBy (.ref e) X.env hs) (SP X pins D) X.xe s
structure WDH(X:Cx)[Jx](hs:List ExceptHandler)(th:TH):Prop where
 out:DH X hs th
variable{RX:SD->XD}
def Kept.re{J:Jx}{B F0 F:Hp}(k:@Kept J B F0 F H):@Kept ⟨B,F0,RX⟩ B F0 F H:=@Kept.mk ⟨B,F0,RX⟩ B F0 F H k.bh k.fh k.f0 k.out rfl (Same.refl F0) (λ_ h _=>h)
def Kept.un{J:Jx}{B F0 F F' H':Hp}(k:@Kept J B F0 F H)(k':@Kept ⟨B,F0,RX⟩ B F0 F' H'):@Kept J B F0 F' H':=by
 obtain⟨a,b,c,d,_,_,_⟩:=k';exact @Kept.mk J B F0 F' H' a b c d k.eb k.jf k.jo
def ErrG(K:DR)(f y:x9):Prop:=∃ C cd,ErrA K y C cd/\D3 K (.ref C) "__getattribute__"=be (be (.builtin "BaseException.__getattribute__"))/\D3 K (.ref C) "__getattr__"=be q_/\D3 K (.ref C) f=be q_
def qo:tailIn K veLine veLine=true:=by
 unfold tailIn;rfl
def qp{c:KB}{d:Option KF}{es:Array DictEntry}{ep:Nat}(l:K.lookup N=be ⟨c,d,.dict es ep,sl⟩)(h:es.toList.all (λe=>match e.key with| .str _ _=>true|_=>false)=true):nsOkIn K N=true:=by
 unfold nsOkIn;rw[l];dsimp only;rw[<- GB];exact h
def xB{M:KF}{c0:KB}{dd:Option KF}{cd:ClassData}(l:K.lookup M=be ⟨c0,dd,.cls cd,sl⟩)(hn:cd.ns=N)(h1:nsOkIn K N=true)(h2:nsIn K N "__init__"=be q_):tailIn K veLine (.ref M::veLine)=true:=by
 unfold tailIn;subst hn;dsimp only;rw[l];dsimp only;rw[h1,h2,qo];simp
def xC:kitOne K (.ref C) (.ref C)=be true:=by
 unfold kitOne;rw[if_pos (beq_self_eq_true _)]
def jF(S:SpX):SpD:=λds R=>S ds R λ_ _=>False
def CalX.no{base:Heap}{n:Nat}{ps:List x9}{S:SpX}(C:CalX P w K mg base n x ps S):CalD P w K mg base n x ps (jF S):=by
 obtain⟨f,fd,F,hb,hk,hm⟩:=C;refine⟨f,fd,F.imp λvs H Q E h=>?_,hb,hk,hm⟩;obtain⟨F,ds,fh,rs,R,h,q⟩:=h;exact⟨F,ds,fh,rs,R,_,h,q,λ_ _ _ _ _ _ _ z=>z.elim⟩
end My
namespace My
def repS(x:x9)(n:Nat):Str:=⟨(EN n x.cps.toList).flatten.toArray⟩
def qq{α:Type}(l:List α):∀ m:Nat,(DV m).filterMap (λk=>l[k]?)=l.take m
 |0=>by simp
 |m+1=>by
  rw[EY,List.filterMap_append,qq l m,GC];cases h:l[m]?<;>simp[h]
def xD(lo hi:Option Int)(n:Nat):Builtin.Str.strSliceIndices lo hi 1 n=(DV (HT.sIx n n hi - HT.sIx n 0 lo)).map λk=>HT.sIx n 0 lo+k:=by
 have z_:∀ (i:Int) (d:Nat),max 0 (min (if i<0 then i+(n:Int) else i) (n:Int))=((HT.sIx n d (be i):Nat):Int):=by
  intro i d;show max 0 (min (if i<0 then i+(n:Int) else i) (n:Int))=(((if i<0 then(i+(n:Int)).toNat else min i.toNat n):Nat):Int);by_cases h:i<0
  .rw[if_pos h,if_pos h];lia
  .rw[if_neg h,if_neg h];lia
 have h1:Builtin.Str.strSliceIndices lo hi 1 n=sliceRange ((HT.sIx n 0 lo:Nat):Int) ((HT.sIx n n hi:Nat):Int) 1:=by
  unfold Builtin.Str.strSliceIndices;simp only[show(1:Int)>0 by decide,if_true];cases lo with
  |none=>cases hi with
   |none=>rfl
   |some j=>rw[<- z_ j n];rfl
  |some i=>cases hi with
   |none=>rw[<- z_ i 0];rfl
   |some j=>rw[<- z_ i 0,<- z_ j n]
 rw[h1];unfold sliceRange;simp only[show(1:Int)>0 by decide,if_true];have e3:(if((HT.sIx n 0 lo:Nat):Int)<((HT.sIx n n hi:Nat):Int) then(((HT.sIx n n hi:Nat):Int) - ((HT.sIx n 0 lo:Nat):Int)+1 - 1) / 1 else 0).toNat=HT.sIx n n hi - HT.sIx n 0 lo:=by
  split<;>lia
 rw[e3];apply FE;intro k _;lia
def slice_cps(y:x9)(lo hi:Option Int):Txt.slice y lo hi=⟨((y.cps.toList.drop (HT.sIx y.length 0 lo)).take (HT.sIx y.length y.length hi - HT.sIx y.length 0 lo)).toArray⟩:=by
 have la:HT.sIx y.length 0 lo<=y.length:=HT.sIx_le _ _ (Ej _) lo;have lb:HT.sIx y.length y.length hi<=y.length:=HT.sIx_le _ _ (DU _) hi;unfold Txt.slice;rw[xD];split
 .rename_i h;have hl:HT.sIx y.length y.length hi - HT.sIx y.length 0 lo=y.length:=by simpa using h
  have ha:HT.sIx y.length 0 lo=0\/y.length=0:=by lia
  rw[hl];obtain⟨cp⟩:=y;have e:(F4 (HT.sIx (Str.mk cp).length 0 lo) cp.toList)=cp.toList:=by
   rcases ha with ha|ha
   .rw[ha];rfl
   .have:cp=#[]:=Array.eq_empty_of_size_eq_zero ha;subst this;simp
  show(⟨cp⟩:x9)=⟨((F4 (HT.sIx (Str.mk cp).length 0 lo) cp.toList).take cp.size).toArray⟩;rw[e,GD (by simp)]
 .congr 2;rw[Gn];have:=qq (y.cps.toList.drop (HT.sIx y.length 0 lo)) (HT.sIx y.length y.length hi - HT.sIx y.length 0 lo);rw[<- this];congr 1;funext k;simp
section
variable {X:Cx}[J:Jx]{a b c e:O_}{ta tb tc te:TD}{pos:Pm}
def DG:RD2:=λx y R=>match x,y with
 | .int i,.int j=>CMul i j/\R (.int (i*j))
 | .str i,.int n=>(-(2 ^ 62)<=n/\n<=1000000/\i.length*n.toNat<=1000000)/\R (.str (repS i n.toNat))
 | .lst xs,.int n=>(-(2 ^ 62)<=n/\n<=1000000/\xs.length*n.toNat<=1000000)/\R (.lst (EN n.toNat xs).flatten)
 |_,_=>False
def xE:SlR X (λx lo hi H Q=>∃ y,x= .str y/\y.length<=sizeLine/\Q (.str (Txt.slice y lo hi)) H):=by
 intro pins s σ H x v vl vu lo hi sl Q I rx hs pl pu h;obtain⟨y,rfl,hz,q⟩:=h;obtain⟨t,rfl⟩:=rx;have d8:∀ t' k,EP X pins σ Q (.str (Txt.slice y lo hi) t') {s with toks:=k}:=λt' k=>⟨.str _,H,I.tok k,⟨_,rfl⟩,q⟩;have le:=D9 (Txt.slice_le y lo hi) hz;refine⟨"str",_,PySem.F.slot_str_getitem.lookup,QL _ _ _,?_⟩;cases pl with
 |none=>cases pu with
  |none=>exact PJ (l:=q_) (u:=q_) (st:=q_) hs rfl (P6 ⟨le,d8⟩)
  |int j tj=>exact PJ (l:=q_) (u:=be (j,tj)) (st:=q_) hs rfl (P6 ⟨le,d8⟩)
 |int i ti=>cases pu with
  |none=>exact PJ (l:=be (i,ti)) (u:=q_) (st:=q_) hs rfl (P6 ⟨le,d8⟩)
  |int j tj=>exact PJ (l:=be (i,ti)) (u:=be (j,tj)) (st:=q_) hs rfl (P6 ⟨le,d8⟩)
abbrev TDO:=SD->(Option Int->Prop)->Prop
def xF:TDO:=λ_ R=>R q_
def xG(te:TD):TDO:=λz R=>te z λx=>match x with| .int i=>R (be i)|_=>False
def lO(K:DR)[J:Jx](t:TDO):TO:=λs H Q=>∃ B F z,Kept B J.F0 F H/\RepS K B F H z s/\∃ R:Option Int->Prop,t z R/\∀ o F' H',Grow F H F' H'->R o->Q o H'
abbrev DPO(X:Cx)[Jx](e:Option O_)(t:TDO):Prop:=PO X e (lO X.K t)
structure WDPO(X:Cx)[Jx](e:Option O_)(t:TDO):Prop where
 out:DPO X e t
def PO.anti{X:Cx}{e:Option O_}{t t':TO}(h:PO X e t)(a:∀ s H Q,t' s H Q->t s H Q):PO X e t':=λpins s σ H Q I q=>h pins s σ H Q I (a _ _ _ q)
def fo:WDPO X q_ xF:=⟨PO.anti vB λs H Q q=>by
 obtain⟨B,F,z,kf,rs,R,h1,h2⟩:=q;exact h2 q_ F H (Grow.refl kf.fh) h1⟩
def cL(he:WDE X e te):WDPO X (be e) (xG te):=⟨have he:=he.out;PO.anti (vC he) λs H Q q=>by
 obtain⟨B,F,z,kf,rs,R,h1,h2⟩:=q;refine⟨B,F,z,kf,rs,_,h1,λx u F1 H1 g1 hx rx=>?_⟩;split at hx
 .exact⟨_,rep_int.mp rx,h2 _ F1 H1 g1 hx⟩
 .exact hx.elim⟩
def rdSl:D->Option Int->Option Int->(D->Prop)->Prop:=λx lo hi R=>match x with
 | .str y=>y.length<=1000000/\R (.str (Txt.slice y lo hi))
 | .lst xs=>R (.lst (cutD xs lo hi))
 | .rol xs=>R (.lst (cutD xs lo hi))
 | .tup xs=>¬ (HT.sIx xs.length 0 lo=0/\HT.sIx xs.length xs.length hi=xs.length)/\R (.tup (cutD xs lo hi))
 |_=>False
def dSl(ta:TD)(tl th:TDO):TD:=λz R=>ta z λx=>tl z λlo=>th z λhi=>rdSl x lo hi R
def dD{lo hi:Option O_}{tl th:TDO}{p2:Pm}(ha:WDE X a ta)(hl:WDPO X lo tl)(hu:WDPO X hi th):WDE X (.Subscript a (.Slice lo hi q_ p2) pos) (dSl ta tl th):=⟨have ha:=ha.out;have hl:=hl.out;have hu:=hu.out;(vD (SlR.or xE (SlR.or vK vE)) ha hl hu).anti λs H Q q=>by
 obtain⟨B,F,z,kf,rs,R,h1,h2⟩:=q;refine⟨B,F,z,kf,rs,_,h1,λx u F1 H1 g1 hx rx=>?_⟩;refine⟨B,F1,z,kf.grow g1,rs.grow g1,_,hx,λlo F2 H2 g2 hy=>?_⟩;refine⟨B,F2,z,(kf.grow g1).grow g2,(rs.grow g1).grow g2,_,hy,λhi F3 H3 g3 hw=>?_⟩;have g:=g1.trans (g2.trans g3);have JN:=(rx.mono g2.ff).mono g3.ff;unfold rdSl at hw;split at hw
 .exact .inl ⟨_,rep_str.mp JN,D9 hw.1 (by decide),h2 _ _ F3 H3 g hw.2 (rep_str.mpr rfl)⟩
 .obtain⟨l,vs,rfl,hq,rr⟩:=rep_lst.mp JN;refine .inr (.inl ⟨l,vs,rfl,SqL.of (g3.fh _ _ hq),λp hp=>?_⟩);exact h2 _ _ _ _ (g.trans (Grow.new g3.fh hp _)) hw (rep_lst.mpr ⟨p,_,rfl,aC,(rr.cut _ _).mono (aT (g3.fh.free hp) _)⟩)
 .obtain⟨l,vs,rfl,hq,rr⟩:=rep_rol.mp JN;refine .inr (.inl ⟨l,vs,rfl,g3.fh.seq hq,λp hp=>?_⟩);exact h2 _ _ _ _ (g.trans (Grow.new g3.fh hp _)) hw (rep_lst.mpr ⟨p,_,rfl,aC,(rr.cut _ _).mono (aT (g3.fh.free hp) _)⟩)
 .obtain⟨l,vs,rfl,hq,rr⟩:=rep_tup_mp JN;refine .inr (.inr ⟨l,vs,rfl,g3.fh.tup hq,by rw[rr.length];exact hw.1,λp hp=>?_⟩);exact h2 _ _ _ _ (g.trans (Grow.new g3.fh hp _)) hw.2 (rep_tupS.mpr ⟨p,_,rfl,aC,(rr.cut _ _).mono (aT (g3.fh.free hp) _)⟩)
 .exact hw.elim⟩
def rdIn(neg:Bool):RD2:=λx y R=>match x,y with
 | .str i,.str j=>R (.bl (if neg then !(!(Builtin.Str.occurrences j i 0 j.length 1).isEmpty) else !(Builtin.Str.occurrences j i 0 j.length 1).isEmpty))
 |x,.lst ys=>(bj x=true/\ys.all bj=true)/\R (.bl (if neg then !(ys.any λy=>eqF y x) else ys.any λy=>eqF y x))
 |x,.rol ys=>(bj x=true/\ys.all bj=true)/\R (.bl (if neg then !(ys.any λy=>eqF y x) else ys.any λy=>eqF y x))
 |x,.tup ys=>(bj x=true/\ys.all bj=true)/\R (.bl (if neg then !(ys.any λy=>eqF y x) else ys.any λy=>eqF y x))
 |_,_=>False
def gq{K:DR}{H:Hp}{x:D}{u:V}(rx:Rep K H x u)(fx:bj x=true):∀ {ys:List D} {vs:List V},Reps K H ys vs->ys.all bj=true->inV u vs=ys.any λy=>eqF y x
 |[],vs,r,_=>by rw[reps_nil.mp r];rfl
 |y::ys,vs,r,f=>by
  obtain⟨v,vr,rfl,r1,r2⟩:=reps_cons.mp r;rw[EI,Ek] at f;have ih:=gq rx fx r2 f.2;unfold inV at ih ⊢;rw[E8,E8,ih,js r1 rx f.1 fx]
def rInV(K:DR)(neg:Bool):R2:=λx y H Q=>(∃ i j,x= .str i/\y= .str j/\Q (.bl (if neg then !(!(Builtin.Str.occurrences j i 0 j.length 1).isEmpty) else !(Builtin.Str.occurrences j i 0 j.length 1).isEmpty)) H)\/rIn K neg x y H Q
def xH{K:DR}{neg:Bool}:aW K (rInV K neg) (rdIn neg):=by
 intro x y u v F H R Q fh h rx ry q;unfold rdIn at h;split at h
 .exact .inl ⟨_,_,rep_str.mp rx,rep_str.mp ry,q _ _ F H (Grow.refl fh) h (rep_bl.mpr rfl)⟩
 .obtain⟨⟨f1,f2⟩,h⟩:=h;obtain⟨l,vs,rfl,hq,rr⟩:=rep_lst.mp ry;exact .inr ⟨l,vs,rfl,.inl (fh.seq (SqL.of hq)),dW rx f1,cW rr f2,q _ _ F H (Grow.refl fh) h (rep_bl.mpr (by rw[gq rx f1 rr f2]))⟩
 .obtain⟨⟨f1,f2⟩,h⟩:=h;obtain⟨l,vs,rfl,hq,rr⟩:=rep_rol.mp ry;exact .inr ⟨l,vs,rfl,.inl (fh.seq hq),dW rx f1,cW rr f2,q _ _ F H (Grow.refl fh) h (rep_bl.mpr (by rw[gq rx f1 rr f2]))⟩
 .obtain⟨⟨f1,f2⟩,h⟩:=h;obtain⟨l,vs,rfl,hq,rr⟩:=rep_tup_mp ry;exact .inr ⟨l,vs,rfl,.inr (fh.tup hq),dW rx f1,cW rr f2,q _ _ F H (Grow.refl fh) h (rep_bl.mpr (by rw[gq rx f1 rr f2]))⟩
 .exact h.elim
def xI:OpR X (Pp .NotIn) (rInV X.K true):=OpR.or vM vL
end
section
variable {X:Cx}[J:Jx]{a b c e:O_}{ta tb tc te:TD}{pos:Pm}
def dE(x:x9):List D:=x.cps.toList.map λc=>D.str ⟨#[c]⟩
def xJ{x:x9}{k c:Nat}(h:x.cps[k]?=be c):(dE x)[k]?=be (.str ⟨#[c]⟩):=by
 unfold dE;rw[D5,Array.getElem?_toList,h];rfl
def qr(x:x9):(dE x).length=x.length:=by unfold dE;rw[DZ];simp[Str.length]
variable {f8 iter:O_}{x:x9}{px:Pm}{scope:PH}{ti:TD}
end
section
variable {X:Cx}[J:Jx]{a b c e o:O_}{es:List O_}{ta tb tc te to:TD}{t:TDA}{pos:Pm}
abbrev RTx:=x9->List D->(D->Prop)->Prop
def dTx(r:RTx)(to:TD)(t:TDA):TD:=λz R=>to z λx=>match x with| .str y=>t z λds=>r y ds R|_=>False
def MtS(X:Cx)(id:String)(r:RTx):Prop:=∃ rv:V->List V->Hp->VK->Prop,MtR X id rv/\∀ (y:x9) (ds:List D) (vs:List V) (F H:Hp) (R:D->Prop) (Q:VK),Reps X.K F ds vs->r y ds R->(∀ d v,(∀ G,Rep X.K G d v)->R d->Q v H)->rv (.str y) vs H Q
variable{apos cpos:Pm}
def qt{name:x9}{id:String}{r:RTx}(slot:Slot "str" name id)(Kc:typeOf (.builtin id)=pure (.type "method_descriptor"))(hm:MtS X id r)(ho:DE X o to)(ha:DA X (e::es) t)
  (b9:autoParam (Pi o name X.env (Pj o X.env)=Pj o X.env) zA0)
  (d9:autoParam (zHF X cpos (e::es)) zA0)
  (c7:autoParam ((apos.endLine==cpos.line)=true) zA0) (hs:autoParam (zSE X e es) zA0) (m6:autoParam (zPL X cpos es) zA0):
  DE X (.Call (.Attribute o name apos) (e::es) [] cpos) (dTx r to t):=by
 obtain⟨rv,hm,L⟩:=hm;refine(dQ PySem.F.plainAttrs_str slot Kc hm ho ha b9 d9 c7 hs m6).anti λs H Q q=>?_;obtain⟨B,F,z,kf,rs,R,h1,h2⟩:=q;refine⟨B,F,z,kf,rs,_,h1,λx u F1 H1 g1 hx rx=>?_⟩;split at hx
 .rename_i y;rw[rep_str.mp rx];refine⟨rfl,B,F1,z,kf.grow g1,rs.grow g1,_,hx,λds vs F2 H2 g2 hy ry=>?_⟩;exact L y ds vs F2 H2 R Q ry hy λd v rd hR=>h2 d v F2 H2 (g1.trans g2) hR (rd F2)
 .exact hx.elim
def DJ:RTx:=λy ds R=>match ds with|[.str p]=>R (.bl (Txt.startswith y p))|_=>False
def rEnds:RTx:=λy ds R=>match ds with|[.str p]=>R (.bl (Txt.endswith y p))|_=>False
def ms_ends:MtS X "str.endswith" rEnds:=by
 refine⟨λx vs H Q=>∃ y p,x= .str y/\vs=[.str p]/\Q (.bl (Txt.endswith y p)) H,?_,?_⟩
 .intro pins s σ H x vs v us Q I rx rv h;obtain⟨y,p,rfl,rfl,q⟩:=h;obtain⟨t,rfl⟩:=rx;obtain⟨u,rfl,t',rfl⟩:=bQ rv;exact SC.endswith ⟨.bl _,H,I,rfl,q⟩
 .intro y ds vs F H R Q r h q;unfold rEnds at h;split at h
  .obtain⟨v,vr,rfl,h1,h2⟩:=reps_cons.mp r;rw[reps_nil.mp h2,rep_str.mp h1];exact⟨_,_,rfl,rfl,q _ _ (λ_=>rep_bl.mpr rfl) h⟩
  .exact h.elim
def xK(ho:WDE X o to)(ha:WDA X [e] t)(b9:autoParam (Pi o "endswith" X.env (Pj o X.env)=Pj o X.env) zA0)
  (d9:autoParam (zHF X cpos [e]) zA0)
  (c7:autoParam ((apos.endLine==cpos.line)=true) zA0) (hs:autoParam (zSE X e []) zA0):WDE X (.Call (.Attribute o "endswith" apos) [e] [] cpos) (dTx rEnds to t):=⟨have ho:=ho.out;have ha:=ha.out;qt PySem.F.slot_str_endswith PySem.F.type_str_endswith ms_ends ho ha b9 d9 c7 hs⟩
def rSIndex:RTx:=λy ds R=>match ds with|[.str p]=>∃ i rest,Builtin.Str.occurrences y p 0 y.length 1=i::rest/\R (.int (i:Nat))|_=>False
def xL:MtS X "str.index" rSIndex:=by
 refine⟨λx vs H Q=>∃ y p i rest,x= .str y/\vs=[.str p]/\Builtin.Str.occurrences y p 0 y.length 1=i::rest/\Q (.int (i:Nat)) H,?_,?_⟩
 .intro pins s σ H x vs v us Q I rx rv h;obtain⟨y,p,i,rest,rfl,rfl,ho,q⟩:=h;obtain⟨t,rfl⟩:=rx;obtain⟨u,rfl,t',rfl⟩:=bQ rv;exact SC.index ho ⟨.int _,H,I.tok _,⟨_,rfl⟩,q⟩
 .intro y ds vs F H R Q r h q;unfold rSIndex at h;split at h
  .obtain⟨i,rest,ho,h⟩:=h;obtain⟨v,vr,rfl,h1,h2⟩:=reps_cons.mp r;rw[reps_nil.mp h2,rep_str.mp h1];exact⟨_,_,i,rest,rfl,rfl,ho,q _ _ (λ_=>rep_int.mpr rfl) h⟩
  .exact h.elim
def xM(ho:WDE X o to)(ha:WDA X [e] t)(b9:autoParam (Pi o "index" X.env (Pj o X.env)=Pj o X.env) zA0)
  (d9:autoParam (zHF X cpos [e]) zA0)
  (c7:autoParam ((apos.endLine==cpos.line)=true) zA0) (hs:autoParam (zSE X e []) zA0):WDE X (.Call (.Attribute o "index" apos) [e] [] cpos) (dTx rSIndex to t):=⟨have ho:=ho.out;have ha:=ha.out;qt PySem.F.slot_str_index PySem.F.type_str_index xL ho ha b9 d9 c7 hs⟩
def Reps.init{K:DR}{F:Hp}:∀ {ds:List D} {vs:List V},Reps K F ds vs->Reps K F ds.dropLast vs.dropLast
 |[],vs,r=>by rw[reps_nil.mp r];exact reps_nil.mpr rfl
 |[d],vs,r=>by
  obtain⟨v,vr,rfl,_,h2⟩:=reps_cons.mp r;rw[reps_nil.mp h2];exact reps_nil.mpr rfl
 |d::d2::ds,vs,r=>by
  obtain⟨v,vr,rfl,h1,h2⟩:=reps_cons.mp r;obtain⟨v2,ON,rfl,h3,h4⟩:=reps_cons.mp h2;rw[GE,GE];exact reps_cons.mpr ⟨v,_,rfl,h1,Reps.init h2⟩
end
end My
namespace My
open Exc
section
variable {X:Cx}{a b c e:O_}{ta tb tc te:TD}{pos:Pm}{st:Pb}{rest:List Pb}{t u:TSD}
def bn[Jx]{c:O_}{l r:List Pb}{tc:TDT}(hc:WDT X c tc)(ha:WDSs X l t)(hb:WDSs X r u):WDS X (.If c l r pos) (dIfS tc t u):=⟨pQ (c:=c) (l:=l) (r:=r) (tc:=tc) (hc:=hc.out) (ha:=ha.out) (hb:=hb.out)⟩
end
section
variable {P:O9}{w:Pe}{K:DR}{mg:x9->Option KB}{base:Heap}
variable{x:x9}{st:Pb}{f:KF}{fd:Ph}{N ps:List x9}{k:Nat}
def _root_.L2.Fun.okDW{S:SpD}(T:Fun K x x st f fd)(F:FnScope N ps (ah st))(len:∀ ds R,S ds R->ds.length=ps.length)
  (a9:∀ (cdv:KB) (A:Pf) (outer:List PU) (s:KM) (H:Hp) (E:XK) (J:Jx),Room k (A.deeper (Pl x (ah st) s.heap.objs.size f cdv))->
   ∃ t,WDSs (cxOf (Exc.CX1 P w) P w K mg base N x (ah st) f cdv A outer s H E).nox (aK st) t/\∀ ds R,S ds R->t {nx:=λ_=>R .non,rt:=R} (startD N ds)):FnOk P w K mg base (Exc.CX1 P w) (k+1) f fd ps (lSp K S):=
 T.okD F len λcdv A outer s H E J hr=>let ⟨t,h,q⟩:=a9 cdv A outer s H E J hr;⟨t,h.out,q⟩
def Tx.okDW{S:SpD}(T:Tx K mg x st ps)(F:FnScope N ps (ah st))(len:∀ ds R,S ds R->ds.length=ps.length)
  (a9:∀ (f:KF) (cdv:KB) (A:Pf) (outer:List PU) (s:KM) (H:Hp) (E:XK) (J:Jx),Room k (A.deeper (Pl x (ah st) s.heap.objs.size f cdv))->
   ∃ t,WDSs (cxOf (Exc.CX1 P w) P w K mg base N x (ah st) f cdv A outer s H E).nox (aK st) t/\∀ ds R,S ds R->t {nx:=λ_=>R .non,rt:=R} (startD N ds)):CalD P w K mg base (k+1) x ps S:=
 Tx.okD T F len λf cdv A outer s H E J hr=>let ⟨t,h,q⟩:=a9 f cdv A outer s H E J hr;⟨t,h.out,q⟩
def Tx.okXW{S:SpX}(T:Tx K mg x st ps)(F:FnScope N ps (ah st))(len:∀ ds R RX,S ds R RX->ds.length=ps.length)
  (a9:∀ (f:KF) (cdv:KB) (A:Pf) (outer:List PU) (s:KM) (H:Hp) (E:XK) (J:Jx),Room k (A.deeper (Pl x (ah st) s.heap.objs.size f cdv))->XOk (cxOf (CX1 P w) P w K mg base N x (ah st) f cdv A outer s H E)->
   ∃ t,WDSs (cxOf (CX1 P w) P w K mg base N x (ah st) f cdv A outer s H E) (aK st) t/\∀ ds R RX,(∀ z,J.RX z=RX)->S ds R RX->t {nx:=λ_=>R .non,rt:=R} (startD N ds)):CalX P w K mg base (k+1) x ps S:=
 Tx.okX T F len λf cdv A outer s H E J hr hx=>let ⟨t,h,q⟩:=a9 f cdv A outer s H E J hr hx;⟨t,h.out,q⟩
def Cls.okIW{qual:x9}{C:KF}{p0:x9}{S:SiD}(T:Fun K "__init__" qual st f fd)(hb:Binds K fd (p0::ps) [])(F:FnScope (p0::N) (p0::ps) (ah st))(len:∀ ds R,S ds R->ds.length=ps.length)
  (hns:nsIn K O8 x=be (be (.ref C))) (k8:mg x=be (.ref C)) (mk:Mk K C f)
  (a9:∀ (cdv:KB) (A:Pf) (outer:List PU) (s:KM) (H:Hp) (E:XK) (J:Jx),Room k (A.deeper (Pl qual (ah st) s.heap.objs.size f cdv))->
   ∃ t,WDI (cxOf (Exc.CX1 P w) P w K mg base (p0::N) qual (ah st) f cdv A outer s H E).nox x (aK st) t/\∀ ds R,S ds R->t (q_::startD N ds) [] R):CalM P w K mg base (k+1) x (p0::ps) S:=
 Cls.okI T hb F len hns k8 mk λcdv A outer s H E J hr=>let ⟨t,h,q⟩:=a9 cdv A outer s H E J hr;⟨t,h.out,q⟩
def Cls.okEW{qual:x9}{C N0:KF}{bm:List KB}{p0:x9}{S:SiD}(T:Fun K "__init__" qual st f fd)(hb:Binds K fd (p0::ps) [])(F:FnScope (p0::N) (p0::ps) (ah st))(len:∀ ds R,S ds R->ds.length=ps.length)
  (ek:ErrK K mg x C N0 bm) (hi:D3 K (.ref C) "__init__"=be (be (.ref f))) (hf:isFn K (.ref f)=true)
  (a9:∀ (cdv:KB) (A:Pf) (outer:List PU) (s:KM) (H:Hp) (E:XK) (J:Jx),Room k (A.deeper (Pl qual (ah st) s.heap.objs.size f cdv))->
   ∃ t,WDX (cxOf (CX1 P w) P w K mg base (p0::N) qual (ah st) f cdv A outer s H E).nox x (aK st) t/\∀ ds R,S ds R->t (q_::startD N ds) [] R):CalE P w K mg base (k+1) x (p0::ps) S:=
 Cls.okE T hb F len ek hi hf λcdv A outer s H E J hr=>let ⟨t,h,q⟩:=a9 cdv A outer s H E J hr;⟨t,h.out,q⟩
end
inductive MO where
 |ins (x:Str) (fs:List (Str × D))|lst (ds:List D)|dti (a8:List ((Int × Int) × Int))
abbrev MS:=List (KF × MO)
def MRep(K:DR)(F H:Hp)(a:KF):MO->Prop
 | .ins x fs=>∃ C dx ws,nsIn K O8 x=be (be (.ref C))/\H a=be (.ins C dx ws)/\RepF K F fs ws
 | .lst ds=>∃ vs,H a=be (.lst vs)/\Reps K F ds vs
 | .dti a8=>H a=be (.dT (dtiV a8))
def az(M:MS):List KF:=M.map (·.1)
def mget:MS->KF->Option MO
 |[],_=>q_
 |(b,o)::r,a=>if b=a then be o else mget r a
def mput:MS->KF->MO->MS
 |[],_,_=>[]
 |(b,p)::r,a,o=>if b=a then(b,o)::r else(b,p)::mput r a o
def mdel:MS->KF->MS
 |[],_=>[]
 |(b,p)::r,a=>if b=a then r else(b,p)::mdel r a
def bS:∀ {M:MS} {a:KF} {o:MO},mget M a=be o->(a,o)∈M
 |[],_,_,h=>by cases h
 |(b,p)::r,a,o,h=>by
  unfold mget at h;split at h
  .rename_i e;subst e;cases h;exact Ea
  .exact D4 _ (bS h)
variable{M:MS}{a:KF}{o:MO}
def cy(h:(a,o)∈M):a∈az M:=El.mpr ⟨_,h,rfl⟩
def gu:∀ (M:MS) (a:KF) (o:MO),az (mput M a o)=az M
 |[],_,_=>rfl
 |(b,p)::r,a,o=>by
  unfold mput;split
  .rfl
  .show b::az (mput r a o)=b::az r;rw[gu r a o]
def mem_put:∀ {M:MS} {a b:KF} {o q:MO},(az M).Nodup->(b,q)∈mput M a o->(b=a/\q=o/\a∈az M)\/(b≠a/\(b,q)∈M)
 |[],_,_,_,_,_,h=>by cases h
 |(c,p)::r,a,b,o,q,nd,h=>by
  have IW:c ∉ az r/\(az r).Nodup:=EM.mp nd;unfold mput at h;split at h
  .rename_i e;subst e;rcases D2.mp h with z|z
   .cases z;exact .inl ⟨rfl,rfl,Ea⟩
   .have:b∈az r:=cy z;exact .inr ⟨λe=>IW.1 (e ▸ this),D4 _ z⟩
  .rename_i ne;rcases D2.mp h with z|z
   .cases z;exact .inr ⟨ne,Ea⟩
   .rcases mem_put IW.2 z with⟨e1,e2,e3⟩|⟨e1,e2⟩
    .exact .inl ⟨e1,e2,D4 _ e3⟩
    .exact .inr ⟨e1,D4 _ e2⟩
def jG:∀ {M:MS} {a b:KF} {q:MO},(az M).Nodup->(b,q)∈mdel M a->b≠a/\(b,q)∈M
 |[],_,_,_,_,h=>by cases h
 |(c,p)::r,a,b,q,nd,h=>by
  have IW:c ∉ az r/\(az r).Nodup:=EM.mp nd;unfold mdel at h;split at h
  .rename_i e;subst e;exact⟨λe=>IW.1 (e ▸ cy h),D4 _ h⟩
  .rename_i ne;rcases D2.mp h with z|z
   .cases z;exact⟨ne,Ea⟩
   .obtain⟨e1,e2⟩:=jG IW.2 z;exact⟨e1,D4 _ e2⟩
def del_sub:∀ {M:MS} {a:KF},(az (mdel M a)).Sublist (az M)
 |[],_=> .slnil
 |(c,p)::r,a=>by
  unfold mdel;split
  .exact List.sublist_cons_self _ _
  .exact List.Sublist.cons_cons _ del_sub
variable{K:DR}{F H F' H':Hp}
def MRep.mono(ff:Same F F')(hh:∀ o,H a=be o->H' a=be o):∀ {o:MO},MRep K F H a o->MRep K F' H' a o
 | .ins x fs,⟨C,dx,ws,n,h,r⟩=>⟨C,dx,ws,n,hh _ h,RepF.mono ff fs ws r⟩
 | .lst ds,⟨vs,h,r⟩=>⟨vs,hh _ h,Reps.mono ff ds vs r⟩
 | .dti a8,h=>hh _ h
def MRep.there:∀ {o:MO},MRep K F H a o->H a≠q_
 | .ins x fs,⟨C,dx,ws,n,h,r⟩=>by rw[h];exact λz=>nomatch z
 | .lst ds,⟨vs,h,r⟩=>by rw[h];exact λz=>nomatch z
 | .dti a8,h=>by rw[show H a=_ from h];exact λz=>nomatch z
structure RepM(K:DR)(F H:Hp)(M:MS):Prop where
 nd:(az M).Nodup
 ok:∀ a o,(a,o)∈M->MRep K F H a o
 fr:∀ a,a∈az M->F a=q_
def RepM.nil:RepM K F H []:=⟨Gu,(λ_ _ h=>nomatch h),(λ_ h=>nomatch h)⟩
def RepM.here(r:RepM K F H M)(h:a∈az M):H a≠none:=by
 obtain⟨⟨b,o⟩,h1,rfl⟩:=El.mp h;exact(r.ok _ _ h1).there
structure GrowM(M M':MS)(F H F' H':Hp):Prop where
 ff:Same F F'
 fh:Same F' H'
 hh:∀ b o,b ∉ az M->H b=be o->H' b=be o
 out:∀ b,b ∉ az M->F b=q_->H b≠q_->F' b=q_
 ks:∀ b,b∈az M'->b∈az M\/H b=q_
def Grow.toM(g:Grow F H F' H'):GrowM M M F H F' H':=⟨g.ff,g.fh,λb o _ h=>g.hh b o h,λb _ h1 h2=>g.out b h1 h2,λb h=> .inl h⟩
def GrowM.refl(h:Same F H):GrowM M M F H F H:=(Grow.refl h).toM
def GrowM.trans{M1 M2:MS}{F1 H1 F2 H2:Hp}(g:GrowM M M1 F H F1 H1)(k:GrowM M1 M2 F1 H1 F2 H2):GrowM M M2 F H F2 H2 where
  ff:=g.ff.trans k.ff
  fh:=k.fh
  hh:=λb o nb h=>k.hh b o (λz=>by rcases g.ks b z with q|q;exact nb q;rw[q] at h;cases h) (g.hh b o nb h)
  out:=λb nb h1 h2=>k.out b (λz=>by rcases g.ks b z with q|q;exact nb q;exact h2 q) (g.out b nb h1 h2) (by
    cases e:H b with
    |none=>exact absurd e h2
    |some o=>rw[g.hh b o nb e];exact λz=>nomatch z)
  ks := λb h=>by
    rcases k.ks b h with q|q
    . exact g.ks b q
    . by_cases nb:b∈az M
      . exact .inl nb
      . right;cases e:H b with
        |none=>rfl
        |some o=>rw[g.hh b o nb e] at q;cases q
def RepM.grow(r:RepM K F H M)(g:Grow F H F' H'):RepM K F' H' M:=
 ⟨r.nd,λa o h=>(r.ok a o h).mono g.ff λo e=>g.hh a o e,λa h=>g.out a (r.fr a h) (r.here h)⟩
variable{ho:HO}
def RepM.put{o':MO}(r:RepM K F H M)(e:mget M a=be o)(h:MRep K F (upd H a ho) a o'):RepM K F (upd H a ho) (mput M a o'):=
 ⟨by rw[gu];exact r.nd,λb q hb=>by
  rcases mem_put r.nd hb with⟨rfl,rfl,_⟩|⟨ne,hb⟩
  .exact h
  .exact(r.ok b q hb).mono (Same.refl F) λu z=>by rw[au ne];exact z,λb hb=>r.fr b (by rw[gu] at hb;exact hb)⟩
def GrowM.put{o':MO}(fh:Same F H)(fa:F a=q_)(e:mget M a=be o):GrowM M (mput M a o') F H F (upd H a ho) where
 ff:=Same.refl F
 fh:=λb u z=>by
  have ne:b≠a:=by rintro rfl;rw[fa] at z;cases z
  rw[au ne];exact fh b u z
 hh:=λb u nb z=>by
  have ne:b≠a:=by rintro rfl;exact nb (cy (bS e))
  rw[au ne];exact z
 out:=λb _ h _=>h
 ks:=λb h=> .inl (by rw[gu] at h;exact h)
def RepM.new{p:KF}(r:RepM K F H M)(fh:Same F H)(hp:H p=q_)(h:MRep K F (upd H p ho) p o):RepM K F (upd H p ho) ((p,o)::M):=by
 have np:p ∉ az M:=λz=>r.here z hp;refine⟨EM.mpr ⟨np,r.nd⟩,λb q hb=>?_,λb hb=>?_⟩
 .rcases D2.mp hb with z|z
  .cases z;exact h
  .exact(r.ok b q z).mono (Same.refl F) λu z'=>by rw[au (λe:b=p=>np (e ▸ cy z))];exact z'
 .rcases D2.mp hb with z|z
  .rw[z];exact fh.free hp
  .exact r.fr b z
def GrowM.new{p:KF}(fh:Same F H)(hp:H p=q_):GrowM M ((p,o)::M) F H F (upd H p ho) where
 ff:=Same.refl F
 fh:=fh.trans (aT hp _)
 hh:=λb u _ z=>aT hp _ b u z
 out:=λb _ h _=>h
 ks:=λb h=>by
  rcases D2.mp h with z|z
  .exact .inr (by rw[z];exact hp)
  .exact .inl z
structure RepZ(K:DR)(B F H:Hp)(z:SD)(s:L2.St)(M:MS):Prop where
 rs:RepS K B F H z s
 no:∀ (i:Nat) ds,z[i]?≠be (be (.own ds))
 rm:RepM K F H M
 mb:∀ a,a∈az M->B a=q_
variable{B:Hp}{M':MS}
def Kept.growM[Jx]{F0:Hp}(k:Kept B F0 F H)(mb:∀ a,a∈az M->B a=q_)(g:GrowM M M' F H F' H'):Kept B F0 F' H' where
 bh:=λb o e=>g.hh b o (λz=>by rw[mb b z] at e;cases e) (k.bh b o e)
 fh:=g.fh
 f0:=k.f0.trans g.ff
 out:=λb h1 h2=>g.out b (λz=>h2 (mb b z)) (k.out b h1 h2) (by
  cases e:B b with
  |none=>exact absurd e h2
  |some o=>rw[k.bh b o e];exact λz=>nomatch z)
 eb:=k.eb
 jf:=k.jf
 jo:=k.jo
variable{z:SD}{s:L2.St}
def RepS.growM(r:RepS K B F H z s)(no:∀ (i:Nat) ds,z[i]?≠be (be (.own ds)))(g:GrowM M M' F H F' H'):RepS K B F' H' z s where
 len:=r.len
 val:=λi d e n=>let ⟨v,q1,q2⟩:=r.val i d e n;⟨v,q1,q2.mono g.ff⟩
 own:=λi ds e=>absurd e (no i ds)
 apart:=r.apart
def RepZ.growM(r:RepZ K B F H z s M)(bh:Same B H)(g:GrowM M M' F H F' H')(rm:RepM K F' H' M'):RepZ K B F' H' z s M':=
 ⟨r.rs.growM r.no g,r.no,rm,λa h=>by
  rcases g.ks a h with q|q
  .exact r.mb a q
  .exact bh.free q⟩
def RepZ.set{i:Nat}{d:D}{v:V}(r:RepZ K B F H z s M)(rd:Rep K F d v):RepZ K B F H (z.set i (be d)) (s.set i (be v)) M:=
 ⟨r.rs.set rd,λj ds e=>by
  by_cases hj:i=j
  .subst hj;rw[Fo] at e;simp at e;have:=rd.noown;rw[e.2] at this;cases this
  .rw[Eh hj] at e;exact r.no j ds e,r.rm,r.mb⟩
class Jm extends Jx where
 RM:SD->MS->XD
abbrev TME:=SD->MS->(D->MS->Prop)->Prop
abbrev TMT:=SD->MS->(Bool->MS->Prop)->Prop
abbrev TMA:=SD->MS->(List D->MS->Prop)->Prop
structure EndsM where
 nx:SD->MS->Prop
 rt:D->MS->Prop
 bk:SD->MS->Prop:=λ_ _=>False
 ct:SD->MS->Prop:=λ_ _=>False
abbrev TMS:=EndsM->SD->MS->Prop
def mE(K:DR)[J:Jm](t:TME):TE:=λs H Q=>∃ F z M,Kept J.B J.F0 F H/\RepZ K J.B F H z s M/\∃ R:D->MS->Prop,t z M R/\∀ d v M' F' H',GrowM M M' F H F' H'->R d M'->Rep K F' d v->RepM K F' H' M'->Q v H'
def mT(K:DR)[J:Jm](t:TMT):TT:=λs H Q=>∃ F z M,Kept J.B J.F0 F H/\RepZ K J.B F H z s M/\∃ R:Bool->MS->Prop,t z M R/\∀ b M' F' H',GrowM M M' F H F' H'->R b M'->RepM K F' H' M'->Q b H'
def mA(K:DR)[J:Jm](t:TMA):TA:=λs H Q=>∃ F z M,Kept J.B J.F0 F H/\RepZ K J.B F H z s M/\∃ R:List D->MS->Prop,t z M R/\∀ ds vs M' F' H',GrowM M M' F H F' H'->R ds M'->Reps K F' ds vs->RepM K F' H' M'->Q vs H'
structure EndsOkM[J:Jm](K:DR)(F0:Hp)(ED:EndsM)(E:Ends):Prop where
 nx:∀ z' s' M' F' H',Kept J.B F0 F' H'->ED.nx z' M'->RepZ K J.B F' H' z' s' M'->E.nx s' H'
 rt:∀ d v M' F' H',Kept J.B F0 F' H'->ED.rt d M'->Rep K F' d v->RepM K F' H' M'->(∀ a,a∈az M'->J.B a=q_)->E.rt v H'
 bk:∀ z' s' M' F' H',Kept J.B F0 F' H'->ED.bk z' M'->RepZ K J.B F' H' z' s' M'->E.bk s' H'
 ct:∀ z' s' M' F' H',Kept J.B F0 F' H'->ED.ct z' M'->RepZ K J.B F' H' z' s' M'->E.ct s' H'
def mS(K:DR)[J:Jm](t:TMS):TS:=λE s H=>∃ F0 F z M,Kept J.B F0 F H/\RepZ K J.B F H z s M/\∃ ED:EndsM,t ED z M/\EndsOkM K F0 ED E
structure ME(X:Cx)[Jm](e:O_)(t:TME):Prop where
 out:PE X e (mE X.K t)
structure MT(X:Cx)[Jm](e:O_)(t:TMT):Prop where
 out:PT X e (mT X.K t)
structure MW(X:Cx)[Jm](e:O_)(t:TMT):Prop where
 out:PW X e (mT X.K t)
structure MA(X:Cx)[Jm](es:List O_)(t:TMA):Prop where
 out:PA X es (mA X.K t)
structure MSt(X:Cx)[Jm](st:Pb)(t:TMS):Prop where
 out:PS X st (mS X.K t)
structure MSs(X:Cx)[Jm](st:List Pb)(t:TMS):Prop where
 out:PSs X st (mS X.K t)
section
variable {X:Cx}{a b c e:O_}{ta tb:TME}{pos:Pm}
def mP(t:TD):TME:=λz M R=>t z λd=>R d M
def mPT(t:TDT):TMT:=λz M R=>t z λd=>R d M
def mPA(t:TDA):TMA:=λz M R=>t z λd=>R d M
def aj[J:Jm]{t:TD}(h:WDE X e t):ME X e (mP t):=⟨PE.anti h.out λs H Q q=>by
 obtain⟨F,z,M,k,r,R,h1,h2⟩:=q;exact⟨J.B,F,z,k,r.rs,_,h1,λd v F' H' g hd rd=>h2 d v M F' H' g.toM hd rd (r.rm.grow g)⟩⟩
def cn[J:Jm]{t:TDT}(h:WDT X e t):MT X e (mPT t):=⟨PT.anti h.out λs H Q q=>by
 obtain⟨F,z,M,k,r,R,h1,h2⟩:=q;exact⟨J.B,F,z,k,r.rs,_,h1,λd F' H' g hd=>h2 d M F' H' g.toM hd (r.rm.grow g)⟩⟩
variable{es:List O_}
def aD[J:Jm]{t:TDA}(h:WDA X es t):MA X es (mPA t):=⟨PA.anti h.out λs H Q q=>by
 obtain⟨F,z,M,k,r,R,h1,h2⟩:=q;exact⟨J.B,F,z,k,r.rs,_,h1,λd v F' H' g hd rd=>h2 d v M F' H' g.toM hd rd (r.rm.grow g)⟩⟩
def mOp(r:RD2)(ta tb:TME):TME:=λz M R=>ta z M λx M1=>tb z M1 λy M2=>r x y λd=>R d M2
variable{r:R2}{rd:RD2}
def qu[J:Jm]{e:O_}{ta tb:TME}(L:aW X.K r rd)(h:PE X e (tOp r (mE X.K ta) (mE X.K tb))):ME X e (mOp rd ta tb):=⟨h.anti λs H Q q=>by
 obtain⟨F,z,M,k,rs,R,h1,h2⟩:=q;refine⟨F,z,M,k,rs,_,h1,λx u M1 F1 H1 g1 hx rx m1=>?_⟩;refine⟨F1,z,M1,k.growM rs.mb g1,rs.growM k.bh g1 m1,_,hx,λy v M2 F2 H2 g2 hy ry m2=>?_⟩;exact L x y u v F2 H2 _ Q g2.fh hy (rx.mono g2.ff) ry λd w F3 H3 g3 hd rd=>h2 d w M2 F3 H3 ((g1.trans g2).trans g3.toM) hd rd (m2.grow g3)⟩
def qv[J:Jm]{op:Operator}(ho:OpR X (Pw op) r)(L:aW X.K r rd)(ha:ME X a ta)(hb:ME X b tb):ME X (.BinOp a op b pos) (mOp rd ta tb):=qu L (oC ho ha.out hb.out)
def qw[J:Jm](ha:ME X a ta)(hb:ME X b tb)(hs:autoParam (eX b) zA6):ME X (.Subscript a b pos) (mOp rdIx ta tb):=qu pL (pe_ix pf ha.out hb.out hs)
def gv[Jm](ha:ME X a ta)(hb:ME X b tb):ME X (.BinOp a .Add b pos) (mOp rdAdd ta tb):=qv pD pE ha hb
def jH[Jm](ha:ME X a ta)(hb:ME X b tb):ME X (.BinOp a .Sub b pos) (mOp rdSub ta tb):=qv oE pF ha hb
def mTst(t:TME):TMT:=λz M R=>t z M λx M1=>match x with| .bl k=>R k M1|_=>False
def gw[J:Jm]{op:QT}(ho:OpR X (Pp op) r)(L:aW X.K r rd)(ha:ME X a ta)(hb:ME X b tb)(hm:Py op b=false):MT X (.Compare a [op] [b] pos) (mTst (mOp rd ta tb)):=⟨(oK ho ha.out hb.out hm).anti λs H Q q=>by
 obtain⟨F,z,M,k,rs,R,h1,h2⟩:=q;refine⟨F,z,M,k,rs,_,h1,λx u M1 F1 H1 g1 hx rx m1=>?_⟩;refine⟨F1,z,M1,k.growM rs.mb g1,rs.growM k.bh g1 m1,_,hx,λy v M2 F2 H2 g2 hy ry m2=>?_⟩;refine L x y u v F2 H2 _ _ g2.fh hy (rx.mono g2.ff) ry λd w F3 H3 g3 hd rd=>?_;dsimp only at hd;split at hd
 .exact⟨_,rep_bl.mp rd,h2 _ M2 F3 H3 ((g1.trans g2).trans g3.toM) hd (m2.grow g3)⟩
 .exact hd.elim⟩
def qy[Jm](ha:ME X a ta)(hb:ME X b tb):MT X (.Compare a [.Lt] [b] pos) (mTst (mOp rdLt ta tb)):=gw oJ pI ha hb (nomark _)
def gx[Jm](ha:ME X a ta)(hb:ME X b tb):MT X (.Compare a [.Eq] [b] pos) (mTst (mOp rdEq ta tb)):=gw ja jn ha hb (nomark _)
def qz[Jm](ha:ME X a ta)(hb:ME X b tb):MT X (.Compare a [.Is] [b] pos) (mTst (mOp (rdIs id) ta tb)):=gw uk wF ha hb (nomark _)
def xN[Jm](ha:ME X a ta)(hb:ME X b tb)(hm:autoParam (Py .NotIn b=false) zA0):MT X (.Compare a [.NotIn] [b] pos) (mTst (mOp (rdIn true) ta tb)):=gw xI xH ha hb hm
variable {tA tB:TMT}{rest:List O_}
def mt_w[Jm](h:MW X a tA):MT X a tA:=⟨PW.pt h.out⟩
def xO[Jm](ha:MT X a tA):MW X (.BoolOp .And [a] pos) tA:=⟨oe ha.out⟩
def xP[Jm](ha:MT X a tA):MW X (.BoolOp .Or [a] pos) tA:=⟨og ha.out⟩
def mAnd(tA tB:TMT):TMT:=λz M R=>tA z M λk M1=>if k=true then tB z M1 R else R false M1
def mOr(tA tB:TMT):TMT:=λz M R=>tA z M λk M1=>if k=true then R true M1 else tB z M1 R
def xQ[J:Jm](ha:MT X a tA)(hb:MW X (.BoolOp .And (b::rest) pos) tB):MW X (.BoolOp .And (a::b::rest) pos) (mAnd tA tB):=⟨(oh ha.out hb.out).anti λs H Q q=>by
 obtain⟨F,z,M,k,rs,R,h1,h2⟩:=q;refine⟨F,z,M,k,rs,_,h1,λx M1 F1 H1 g1 hx m1=>?_⟩;cases x with
 |true=>exact⟨F1,z,M1,k.growM rs.mb g1,rs.growM k.bh g1 m1,R,hx,λy M2 F2 H2 g2 hy m2=>h2 y M2 F2 H2 (g1.trans g2) hy m2⟩
 |false=>exact h2 _ M1 F1 H1 g1 hx m1⟩
def xR[J:Jm](ha:MT X a tA)(hb:MW X (.BoolOp .Or (b::rest) pos) tB):MW X (.BoolOp .Or (a::b::rest) pos) (mOr tA tB):=⟨(oi ha.out hb.out).anti λs H Q q=>by
 obtain⟨F,z,M,k,rs,R,h1,h2⟩:=q;refine⟨F,z,M,k,rs,_,h1,λx M1 F1 H1 g1 hx m1=>?_⟩;cases x with
 |false=>exact⟨F1,z,M1,k.growM rs.mb g1,rs.growM k.bh g1 m1,R,hx,λy M2 F2 H2 g2 hy m2=>h2 y M2 F2 H2 (g1.trans g2) hy m2⟩
 |true=>exact h2 _ M1 F1 H1 g1 hx m1⟩
def mIf(tc:TMT)(ta tb:TME):TME:=λz M R=>tc z M λk M1=>if k=true then ta z M1 R else tb z M1 R
def fq[J:Jm]{tc:TMT}(hc:MT X c tc)(ha:ME X a ta)(hb:ME X b tb):ME X (.IfExp c a b pos) (mIf tc ta tb):=⟨(tL hc.out ha.out hb.out).anti λs H Q q=>by
 obtain⟨F,z,M,k,rs,R,h1,h2⟩:=q;refine⟨F,z,M,k,rs,_,h1,λx M1 F1 H1 g1 hx m1=>?_⟩;cases x with
 |true=>exact⟨F1,z,M1,k.growM rs.mb g1,rs.growM k.bh g1 m1,R,hx,λd v M2 F2 H2 g2 hy rd m2=>h2 d v M2 F2 H2 (g1.trans g2) hy rd m2⟩
 |false=>exact⟨F1,z,M1,k.growM rs.mb g1,rs.growM k.bh g1 m1,R,hx,λd v M2 F2 H2 g2 hy rd m2=>h2 d v M2 F2 H2 (g1.trans g2) hy rd m2⟩⟩
def mNil:TMA:=λ_ M R=>R [] M
def xS(ta:TME)(tr:TMA):TMA:=λz M R=>ta z M λx M1=>tr z M1 λxs M2=>R (x::xs) M2
def bq[J:Jm]:MA X [] mNil:=⟨pa_nil.anti λs H Q q=>by
 obtain⟨F,z,M,k,rs,R,h1,h2⟩:=q;exact h2 [] [] M F H (GrowM.refl k.fh) h1 (reps_nil.mpr rfl) rs.rm⟩
variable{t:TMA}
def aS[J:Jm]{e:O_}{te:TME}(ha:ME X e te)(hr:MA X es t)(hs:autoParam (zSE X e es) zA0):MA X (e::es) (xS te t):=⟨(bg ha.out hr.out hs).anti λs H Q q=>by
 obtain⟨F,z,M,k,rs,R,h1,h2⟩:=q;refine⟨F,z,M,k,rs,_,h1,λx u M1 F1 H1 g1 hx rx m1=>?_⟩;refine⟨F1,z,M1,k.growM rs.mb g1,rs.growM k.bh g1 m1,_,hx,λxs us M2 F2 H2 g2 hy ry m2=>?_⟩;exact h2 _ _ M2 F2 H2 (g1.trans g2) hy (reps_cons.mpr ⟨_,_,rfl,rx.mono g2.ff,ry⟩) m2⟩
def mTup(t:TMA):TME:=λz M R=>t z M λxs M1=>xs.length<=1000/\R (.tup xs) M1
def xT[J:Jm]{x1}(h:MA X es t):ME X (.Tuple es x1 pos) (mTup t):=⟨(oR h.out).anti λs H Q q=>by
 obtain⟨F,z,M,k,rs,R,h1,h2⟩:=q;refine⟨F,z,M,k,rs,_,h1,λds vs M1 F1 H1 g1 hx rx m1=>?_⟩;have hl:=rx.length;refine⟨sz (by rw[hl];exact hx.1),λp hp=>?_⟩;have gn:=Grow.new g1.fh hp (.tup vs);exact h2 _ _ M1 _ _ (g1.trans gn.toM) hx.2 (rep_tupS.mpr ⟨p,vs,rfl,aC,rx.mono (aT (g1.fh.free hp) _)⟩) (m1.grow gn)⟩
def mLst(t:TMA):TME:=λz M R=>t z M λxs M1=>xs.length<=1000/\∀ p,p ∉ az M1->R (.ptr p) ((p,.lst xs)::M1)
def xU[J:Jm](h:MA X es t):ME X (.List es pos) (mLst t):=⟨(jd h.out).anti λs H Q q=>by
 obtain⟨F,z,M,k,rs,R,h1,h2⟩:=q;refine⟨F,z,M,k,rs,_,h1,λds vs M1 F1 H1 g1 hx rx m1=>?_⟩;have hl:=rx.length;refine⟨sz (by rw[hl];exact hx.1),λp hp=>?_⟩;exact h2 _ _ _ F1 _ (g1.trans (GrowM.new g1.fh hp)) (hx.2 p λz=>m1.here z hp) (rep_ptr.mpr rfl) (m1.new g1.fh hp ⟨vs,aC,rx⟩)⟩
def mCB(r:RDn)(t:TMA):TME:=λz M R=>t z M λds M1=>r ds λd=>R d M1
variable{x:x9}{p:Pm}
def xV[J:Jm]{e:O_}{id:String}{r:List V->Hp->VK->Prop}{rd:RDn}(hc:bz X (.builtin id) r)(L:ci X.K r rd)(hm:X.mg x=q_)(hv:Pr x=be (.builtin id))(ha:MA X (e::es) t)(hg:autoParam (Gl X x) zA0)(hn:autoParam (x≠"__name__") zA1)(d6:autoParam (zND x) zA1)
  (he:autoParam (zSE X e es) zA0) (c5:autoParam (zPL X pos es) zA0):ME X (.Call (.Name x p) (e::es) [] pos) (mCB rd t):=⟨(fP hc hg hm hv ha.out hn d6 he c5).anti λs H Q h=>by
 obtain⟨F,z,M,k,rs,R,h1,h2⟩:=h;refine⟨F,z,M,k,rs,_,h1,λds vs M1 F1 H1 g1 hx rx m1=>?_⟩;exact L ds vs F1 H1 _ Q g1.fh hx rx λd w F' H' g hd rd=>h2 d w M1 F' H' (g1.trans g.toM) hd rd (m1.grow g)⟩
def qA[Jm]{e:O_}(hm:X.mg "len"=q_)(ha:MA X [e] t)(hg:autoParam (Gl X "len") zA0)(he:autoParam (zSE X e []) zA0):ME X (.Call (.Name "len" p) [e] [] pos) (mCB rdLen t):=xV jb pN hm PySem.boot_len ha hg (by decide) (by decide) he
def xW[J:Jm]{e:O_}{T:String}{r:List V->Hp->VK->Prop}{rd:RDn}(hc:bz X (.type T) r)(L:ci X.K r rd)(hm:X.mg x=q_)(hv:Pr x=be (.type T))(ha:MA X (e::es) t)(hg:autoParam (Gl X x) zA0)(hn:autoParam (x≠"__name__") zA1)(d6:autoParam (zND x) zA1)
  (he:autoParam (zSE X e es) zA0) (c5:autoParam (zPL X pos es) zA0):ME X (.Call (.Name x p) (e::es) [] pos) (mCB rd t):=⟨(oX hc hg hm hv ha.out hn d6 he c5).anti λs H Q h=>by
 obtain⟨F,z,M,k,rs,R,h1,h2⟩:=h;refine⟨F,z,M,k,rs,_,h1,λds vs M1 F1 H1 g1 hx rx m1=>?_⟩;exact L ds vs F1 H1 _ Q g1.fh hx rx λd w F' H' g hd rd=>h2 d w M1 F' H' (g1.trans g.toM) hd rd (m1.grow g)⟩
def qB[Jm](hm:X.mg "int"=q_)(ha:MA X [e] t)(hg:autoParam (Gl X "int") zA0)(he:autoParam (zSE X e []) zA0):ME X (.Call (.Name "int" p) [e] [] pos) (mCB rdInt t):=xW pS pT hm PyProof.Rows.boot_int ha hg (by decide) (by decide) he
def eg(M:MS)(d:D)(x:x9)(fs:List (x9 × D)):Prop:=match d with| .ptr a=>mget M a=be (.ins x fs)| .obj y gs=>y=x/\gs=fs|_=>False
def mFld(x f:x9)(te:TME):TME:=λz M R=>te z M λd M1=>∃ fs,eg M1 d x fs/\∃ d',fs.lookup f=be d'/\R d' M1
def jI{K:DR}{F H:Hp}{M:MS}{d:D}{v:V}{fs:List (x9 × D)}(fh:Same F H)(rm:RepM K F H M)(rd:Rep K F d v)(h:eg M d x fs):∃ a C dx ws,v= .ref a/\nsIn K O8 x=be (be (.ref C))/\H a=be (.ins C dx ws)/\RepF K F fs ws:=by
 unfold eg at h;split at h
 .rename_i a;obtain⟨C,dx,ws,n,h1,h2⟩:=rm.ok _ _ (bS h);exact⟨a,C,dx,ws,rep_ptr.mp rd,n,h1,h2⟩
 .obtain⟨rfl,rfl⟩:=h;obtain⟨a,C,dx,ws,e,n,h1,h2⟩:=rep_obj.mp rd;exact⟨a,C,dx,ws,e,n,fh _ _ h1,h2⟩
 .exact h.elim
def aM[J:Jm]{f:x9}(hA:ClsA X.K x f)(he:ME X e ta)(hb:autoParam (Pi e f X.env (Pj e X.env)=Pj e X.env) zA0):ME X (.Attribute e f pos) (mFld x f ta):=⟨(oP he.out hb).anti λs H Q q=>by
 obtain⟨C,hn,hc,hf⟩:=hA;obtain⟨F,z,M,k,rs,R,h1,h2⟩:=q;refine⟨F,z,M,k,rs,_,h1,λd u M1 F1 H1 g1 hx rx m1=>?_⟩;obtain⟨fs,hi,d',hl,hR⟩:=hx;obtain⟨a,C',dx,ws,rfl,j6,hH,rf⟩:=jI g1.fh m1 rx hi;rw[hn] at j6;cases j6;obtain⟨v,l,rv⟩:=rf.look hl;exact⟨a,C,dx,ws,v,rfl,hH,hc,hf,l,h2 d' v M1 F1 H1 g1 hR rv m1⟩⟩
end
abbrev XDM:=x9->List (x9 × D)->MS->Prop
abbrev SpM:=List D->MS->(D->MS->Prop)->XDM->Prop
def lSpM(K:DR)(S:SpM):Sp:=λvs H Q E=>∃ F ds M,Same F H/\Reps K F ds vs/\RepM K F H M/\∃ (R:D->MS->Prop) (RX:XDM),S ds M R RX/\(∀ d v M' F' H',GrowM M M' F H F' H'->R d M'->Rep K F' d v->RepM K F' H' M'->Q v H')/\
 ∀ x fs C od M' F' H',GrowM M M' F H F' H'->RX x fs M'->ErrD K F' x fs C od->RepM K F' H' M'->E (.ref C) od H'
abbrev CalMM(P:O9)(w:Pe)(K:DR)(mg:x9->Option KB)(base:Heap)(n:Nat)(x:x9)(ps:List x9)(S:SpM):Prop:=Cal P w K mg base n x ps (lSpM K S)
def ofX(S:SpX):SpM:=λds M R RX=>S ds (λd=>R d M) λx fs=>RX x fs M
def ofD(S:SpD):SpM:=λds M R _=>S ds λd=>R d M
variable{vs:List V}
def xX{S:SpX}{Q:VK}{E:XK}(h:lSpM K (ofX S) vs H Q E):lSpX K S vs H Q E:=by
 obtain⟨F,ds,M,fh,rs,rm,R,RX,hS,q,qx⟩:=h;exact⟨F,ds,fh,rs,_,_,hS,λd v F' H' g hd rd=>q d v M F' H' g.toM hd rd (rm.grow g),λx fs C od F' H' g hR er=>qx x fs C od M F' H' g.toM hR er (rm.grow g)⟩
def xY{S:SpD}{Q:VK}{E:XK}(h:lSpM K (ofD S) vs H Q E):lSp K S vs H Q E:=by
 obtain⟨F,ds,M,fh,rs,rm,R,RX,hS,q,qx⟩:=h;exact⟨F,ds,fh,rs,_,hS,λd v F' H' g hd rd=>q d v M F' H' g.toM hd rd (rm.grow g)⟩
section
variable {P:O9}{w:Pe}{K:DR}{mg:x9->Option KB}{base:Heap}{n:Nat}{x:x9}{ps:List x9}
def CalX.toM{S:SpX}(C:CalX P w K mg base n x ps S):CalMM P w K mg base n x ps (ofX S):=by
 obtain⟨f,fd,F,hb,hk,hm⟩:=C;exact⟨f,fd,F.imp λvs H Q E h=>xX h,hb,hk,hm⟩
def CalD.toM{S:SpD}(C:CalD P w K mg base n x ps S):CalMM P w K mg base n x ps (ofD S):=by
 obtain⟨f,fd,F,hb,hk,hm⟩:=C;exact⟨f,fd,F.imp λvs H Q E h=>xY h,hb,hk,hm⟩
def CalMth(P:O9)(w:Pe)(K:DR)(mg:x9->Option KB)(base:Heap)(n:Nat)(x m:x9)(ps:List x9)(sp:Sp):Prop:=
 ∃ C f fd,nsIn K O8 x=be (be (.ref C))/\Cls K C/\Meth K C m f/\FnOk P w K mg base (CX1 P w) n f fd ps sp/\Binds K fd ps []
variable{sp:Sp}
def Cal.mono{n':Nat}(h:Cal P w K mg base n x ps sp)(hn:n<=n'):Cal P w K mg base n' x ps sp:=by
 obtain⟨f,fd,F,h⟩:=h;exact⟨f,fd,F.mono hn,h⟩
def Cal.imp{G8:Sp}(h:Cal P w K mg base n x ps sp)(i:∀ vs H Q E,G8 vs H Q E->sp vs H Q E):Cal P w K mg base n x ps G8:=by
 obtain⟨f,fd,F,h⟩:=h;exact⟨f,fd,F.imp i,h⟩
def CalMth.imp{m:x9}{G8:Sp}(h:CalMth P w K mg base n x m ps sp)(i:∀ vs H Q E,G8 vs H Q E->sp vs H Q E):CalMth P w K mg base n x m ps G8:=by
 obtain⟨C,f,fd,h1,h2,h3,h4,h5⟩:=h;exact⟨C,f,fd,h1,h2,h3,h4.imp i,h5⟩
end
def XOkM(X:Cx)[J:Jm]:Prop:=∀ (σ:L2.St) (z:SD) (M:MS) (F H:Hp) (s:KM) (e C:KF) (od:Option KF) (x:x9) (fs:List (x9 × D)),Inv X [] σ H s->Kept J.B J.F0 F H->RepZ X.K J.B F H z σ M->J.RM z M x fs->ErrD X.K F x fs C od->Exd X H s e C od->X.xe (.ref e) s
def EX(X:Cx)[J:Jm](z:SD)(σ:L2.St):XK:=λCv od H'=>∃ x fs C M' F',Cv= .ref C/\Kept J.B J.F0 F' H'/\RepZ X.K J.B F' H' z σ M'/\J.RM z M' x fs/\ErrD X.K F' x fs C od
def XOkM.out{X:Cx}[J:Jm](hx:XOkM X)(f9:X.ex=[]){pins:List (KF × Pu)}{σ:L2.St}{s s':KM}{ev:KB}(I:Inv X pins σ H s)
  (h:CX1 X.prog X.w X.stack H s (EX X z σ) ev s'):X.xe ev s':=by
 obtain⟨e,C,od,T,H',rfl,x_,hb,un,hok,KC,ne,nT,He,HT,x,fs,C',M',F',hC,kk,rr,hR,er⟩:=h;cases hC;have I':Inv X pins σ H' s':=I.call' x_ un hok hb (λb z=>absurd z (by simp));exact hx σ z M' F' H' s' e C od x fs (Inv.nopins I') kk rr hR er ⟨He,cK I f9 ne,pn_free I ne,.inr ⟨T,KC,cK I f9 nT,HT,pn_free I nT⟩⟩
section
variable {X:Cx}[J:Jm]{a b c e o:O_}{ta tb te:TME}{pos p apos cpos:Pm}{n m:Nat}{ps:List x9}{S:SpM}{x:x9}{es:List O_}{t:TMA}
def xZ(S:SpM)(t:TMA):TME:=λz M R=>t z M λds M1=>S ds M1 R λx fs M'=>J.RM z M' x fs
variable{ds:List D}{vs:List V}
def jJ{σ:L2.St}{z:SD}{M M1:MS}{F H F1 H1:Hp}{Q:VK}{R:D->MS->Prop}(k:Kept J.B J.F0 F H)(rs:RepZ X.K J.B F H z σ M)(g1:GrowM M M1 F H F1 H1)(m1:RepM X.K F1 H1 M1)(rx:Reps X.K F1 ds vs)
  (hS:S ds M1 R λx fs M'=>J.RM z M' x fs) (h2:∀ d v M' F' H',GrowM M M' F H F' H'->R d M'->Rep X.K F' d v->RepM X.K F' H' M'->Q v H'):lSpM X.K S vs H1 Q (EX X z σ):=
 ⟨F1,ds,M1,g1.fh,rx,m1,R,_,hS,λd v M' F' H' g hd rd m'=>h2 d v M' F' H' (g1.trans g) hd rd m',λy fs C od M' F' H' g hR er m'=>⟨y,fs,C,M',F',rfl,(k.growM rs.mb g1).growM (rs.growM k.bh g1 m1).mb g,(rs.growM k.bh g1 m1).growM (k.growM rs.mb g1).bh g m',hR,er⟩⟩
def aZ(C:CalMM X.prog X.w X.K X.mg X.base n x ps S)(hx:XOkM X)(hr:Room m X.A)(ha:MA X (e::es) t)(f9:autoParam (X.ex=[]) zA0)(hg:autoParam (Gl X x) zA0)(hn:autoParam (n<=m) zA1)(d6:autoParam (zND x) zA1)
  (he:autoParam (zSE X e es) zA0) (c5:autoParam (zPL X pos es) zA0):
  ME X (.Call (.Name x p) (e::es) [] pos) (xZ S t):=by
 obtain⟨f,fd,F,hb,hk,hm⟩:=C;refine⟨λpins s σ H Q I h=>?_⟩;obtain⟨Fr,z,M,k,rs,R,h1,h2⟩:=h;refine Po (cR I hg hm ?_ d6);refine callWith_K (h₀:=X.base) I.ok.mod.kin hk (thn (ha.out pos pins s σ H (λvs H1=>lSpM X.K S vs H1 Q (EX X z σ)) I ⟨Fr,z,M,k,rs,_,h1,λds vs M1 F1 H1 g1 hx rx m1=>jJ k rs g1 m1 rx hx h2⟩) λus s1 hh=>⟨hh.elim λ_ h=>h.elim λ_ h=>h.1.kIn,?_⟩) he c5;obtain⟨vs,H1,I1,r,q⟩:=hh;exact jD F (hr.mono hn) hb (λe s' hq=>hx.out f9 I1 hq) I1 r q
def qC(cs:List x9)(m:x9)(S:x9->SpM)(to:TME)(t:TMA):TME:=λz M R=>to z M λd M1=>∃ x,x∈cs/\∃ fs,eg M1 d x fs/\fs.lookup m=q_/\t z M1 λds M2=>S x (d::ds) M2 R λx fs M'=>J.RM z M' x fs
variable{cs:List x9}{pl:QC Bool}
def aY{nm:x9}{S:x9->SpM}(C:∀ x,x∈cs->CalMth X.prog X.w X.K X.mg X.base n x nm ps (lSpM X.K (S x)))(hx:XOkM X)(hr:Room m X.A)(ho:ME X o te)(ha:MA X (e::es) t)(f9:autoParam (X.ex=[]) zA0)(hn:autoParam (n<=m) zA1)
  (t5:autoParam (zSE X e es) zA0) (c5:autoParam (zPL X pos es) zA0)
  (ht:Pj (.Call (.Attribute o nm apos) (e::es) [] pos) X.env=(do
   let ov <- Pj o X.env
   Qe apos.atName
   let (f,first) <- Qy [ov] (Ql ov nm pl)
   callWith pos f first (PP pos (Pg (e::es) X.env)) (P_ pos (PM [] X.env))):=by rfl):
  ME X (.Call (.Attribute o nm apos) (e::es) [] pos) (qC cs nm S te t):=by
 refine⟨λpins s σ H Q I h=>?_⟩;obtain⟨Fr,z,M,k,rs,R,h1,h2⟩:=h;refine methodCall_KW (pl:=pl) (thn (ho.out pins s σ H (λv H1=>∃ d M1 F1,GrowM M M1 Fr H F1 H1/\Rep X.K F1 d v/\RepM X.K F1 H1 M1/\∃ x,x∈cs/\∃ fs,eg M1 d x fs/\fs.lookup nm=q_/\t z M1 λds M2=>S x (d::ds) M2 R λx fs M'=>J.RM z M' x fs) I ⟨Fr,z,M,k,rs,_,h1,λd v M1 F1 H1 g1 hd rd m1=>⟨d,M1,F1,g1,rd,m1,hd⟩⟩) λu s1 hh=>?_) ht;obtain⟨v,H1,I1,rv,d,M1,F1,g1,rd,m1,x,KH,fs,hi,hl,hq⟩:=hh;obtain⟨C',f,fd,hns,i8,IY,F,hb⟩:=C x KH;obtain⟨a,C2,dx,ws,rfl,u5,hH,rf⟩:=jI g1.fh m1 rd hi;rw[hns] at u5;cases u5;obtain rfl:u=Value.ref a:=rv;refine oO I1 hH i8 IY (rf.none hl) ?_;refine callWith_K (first:=[.ref a]) (h₀:=X.base) I.ok.mod.kin IY.kp (thn (ha.out pos pins s1 σ H1 (λvs H2=>lSpM X.K (S x) (.ref a::vs) H2 Q (EX X z σ)) I1 ⟨F1,z,M1,k.growM rs.mb g1,rs.growM k.bh g1 m1,_,hq,λds vs M2 F2 H2 g2 hx rx m2=>jJ k rs (g1.trans g2) m2 (reps_cons.mpr ⟨_,_,rfl,rd.mono g2.ff,rx⟩) hx h2⟩) λus s2 hh=>⟨hh.elim λ_ h=>h.elim λ_ h=>h.1.kIn,?_⟩) t5 c5;obtain⟨vs,H2,I2,r,q2⟩:=hh;exact jD (us:= .ref a::us) (vs:= .ref a::vs) F (hr.mono hn) hb (λe s' hq=>hx.out f9 I2 hq) I2 (.cons rfl r) q2
def dF{nm:x9}{S:x9->SpM}(C:∀ x,x∈cs->CalMth X.prog X.w X.K X.mg X.base n x nm ps (lSpM X.K (S x)))(hx:XOkM X)(hr:Room m X.A)(ho:ME X o te)(f9:autoParam (X.ex=[]) zA0)(hn:autoParam (n<=m) zA1)
  (ht:Pj (.Call (.Attribute o nm apos) [] [] pos) X.env=(do
   let ov <- Pj o X.env
   Qe apos.atName
   let (f,first) <- Qy [ov] (Ql ov nm pl)
   callWith pos f first (PP pos (Pg [] X.env)) (P_ pos (PM [] X.env))):=by rfl):
  ME X (.Call (.Attribute o nm apos) [] [] pos) (qC cs nm S te mNil):=by
 refine⟨λpins s σ H Q I h=>?_⟩;obtain⟨Fr,z,M,k,rs,R,h1,h2⟩:=h;refine methodCall_KW (pl:=pl) (thn (ho.out pins s σ H (λv H1=>∃ d M1 F1,GrowM M M1 Fr H F1 H1/\Rep X.K F1 d v/\RepM X.K F1 H1 M1/\∃ x,x∈cs/\∃ fs,eg M1 d x fs/\fs.lookup nm=q_/\S x [d] M1 R λx fs M'=>J.RM z M' x fs) I ⟨Fr,z,M,k,rs,_,h1,λd v M1 F1 H1 g1 hd rd m1=>⟨d,M1,F1,g1,rd,m1,hd⟩⟩) λu s1 hh=>?_) ht;obtain⟨v,H1,I1,rv,d,M1,F1,g1,rd,m1,x,KH,fs,hi,hl,hq⟩:=hh;obtain⟨C',f,fd,hns,i8,IY,F,hb⟩:=C x KH;obtain⟨a,C2,dx,ws,rfl,u5,hH,rf⟩:=jI g1.fh m1 rd hi;rw[hns] at u5;cases u5;obtain rfl:u=Value.ref a:=rv;refine oO I1 hH i8 IY (rf.none hl) ?_;refine callWith_K0 (first:=[.ref a]) I1.kIn IY.kp (jD (E:=EX X z σ) (us:=[.ref a]) (vs:=[.ref a]) F (hr.mono hn) hb (λe s' hq=>hx.out f9 I1 hq) I1 (.cons rfl .nil) ?_);exact jJ k rs g1 m1 (dX rd) hq h2
def make_of{C:KF}{S:SiD}{x:x9}{σ:L2.St}{z:SD}{M M1:MS}{F H F1 H1:Hp}{a dx:KF}{Q:VK}{E:XK}{T:List (x9 × D)->Prop}(g1:GrowM M M1 F H F1 H1)(m1:RepM X.K F1 H1 M1)(rx:Reps X.K F1 ds vs)(hS:S ds T)
  (ha:H1 a=q_) (t9:H1 dx=q_) (i9:dx≠a) (q:∀ fs ws dx F' H',Grow F1 H1 F' H'->T fs->H' a=be (.ins C dx ws)->F' a=q_->RepF X.K F' fs ws->Q (.ref a) H'):
  lSi X.K C S (.ref a::(vs++[])) (upd (upd H1 dx (.own a)) a (.ins C dx [])) (λv H2=>v= .non/\Q (.ref a) H2) E:=
 ⟨a,dx,vs,H1,F1,ds,by rw[EA],rfl,ha,t9,i9,g1.fh,rx,_,hS,λfs ws z8 F' H' g hR f7 g8 rf=>⟨rfl,q fs ws z8 F' H' g hR f7 g8 rf⟩⟩
def ya(x:x9)(S:SiD)(t:TMA):TME:=λz M R=>t z M λds M1=>S ds λfs=>R (.obj x fs) M1
def gy{S:SiD}(M:CalM X.prog X.w X.K X.mg X.base n x ps S)(hr:Room m X.A)(ha:MA X (e::es) t)(hg:autoParam (Gl X x) zA0)(hn:autoParam (n+1<=m) zA1)(d6:autoParam (zND x) zA1)
  (he:autoParam (zSE X e es) zA0) (c5:autoParam (zPL X pos es) zA0):
  ME X (.Call (.Name x p) (e::es) [] pos) (ya x S t):=by
 obtain⟨C,f,fd,hns,k8,mk,F,hb⟩:=M;refine⟨(je mk F (hr.mono hn) hg k8 hb .nil eY ha.out d6 he c5).anti λs H Q q=>?_⟩;obtain⟨F,z,M,k,rs,R,h1,h2⟩:=q;refine⟨F,z,M,k,rs,_,h1,λds vs M1 F1 H1 g1 hx rx m1=>?_⟩;intro a dx ha t9 i9;refine make_of (σ:=s) (z:=z) (x:=x) g1 m1 rx hx ha t9 i9 λfs ws dx F' H' g hR f7 g8 rf=>?_;have s1:Same F' (upd F' a (.ins C dx ws)):=aT g8 _;have g2:Grow F1 H1 (upd F' a (.ins C dx ws)) H':=⟨g.ff.trans s1,λb o q=>by
  by_cases hb:b=a
  .subst hb;rw[aC] at q;cases q;exact f7
  .rw[au hb] at q;exact g.fh b o q,g.hh,λb q1 q2=>by
  by_cases hb:b=a
  .subst hb;exact absurd ha q2
  .rw[au hb];exact g.out b q1 q2⟩
 exact h2 (.obj x fs) (.ref a) M1 (upd F' a (.ins C dx ws)) H' (g1.trans g2.toM) hR (rep_obj.mpr ⟨a,C,dx,ws,rfl,hns,aC,RepF.mono s1 fs ws rf⟩) (m1.grow g2)
def yb(x:x9)(S:SiD)(t:TMA):TME:=λz M R=>t z M λds M1=>S ds λfs=>∀ a,a ∉ az M1->R (.ptr a) ((a,.ins x fs)::M1)
def yc{S:SiD}(M:CalM X.prog X.w X.K X.mg X.base n x ps S)(hr:Room m X.A)(ha:MA X (e::es) t)(hg:autoParam (Gl X x) zA0)(hn:autoParam (n+1<=m) zA1)(d6:autoParam (zND x) zA1)
  (he:autoParam (zSE X e es) zA0) (c5:autoParam (zPL X pos es) zA0):
  ME X (.Call (.Name x p) (e::es) [] pos) (yb x S t):=by
 obtain⟨C,f,fd,hns,k8,mk,F,hb⟩:=M;refine⟨(je mk F (hr.mono hn) hg k8 hb .nil eY ha.out d6 he c5).anti λs H Q q=>?_⟩;obtain⟨F,z,M,k,rs,R,h1,h2⟩:=q;refine⟨F,z,M,k,rs,_,h1,λds vs M1 F1 H1 g1 hx rx m1=>?_⟩;intro a dx ha t9 i9;refine make_of (σ:=s) (z:=z) (x:=x) g1 m1 rx hx ha t9 i9 λfs ws dx F' H' g hR f7 g8 rf=>?_;have na:a ∉ az M1:=λz=>m1.here z ha;have m2:=m1.grow g;refine h2 (.ptr a) (.ref a) _ F' H' (g1.trans ⟨g.ff,g.fh,λb o _ q=>g.hh b o q,λb _ q1 q2=>g.out b q1 q2,λb q=>?_⟩) (hR a na) (rep_ptr.mpr rfl) ⟨EM.mpr ⟨na,m2.nd⟩,λb o q=>?_,λb q=>?_⟩
 .rcases D2.mp q with q|q
  .exact .inr (by rw[q];exact ha)
  .exact .inl q
 .rcases D2.mp q with q|q
  .cases q;exact⟨C,dx,ws,hns,f7,rf⟩
  .exact m2.ok b o q
 .rcases D2.mp q with q|q
  .rw[q];exact g8
  .exact m2.fr b q
end
section
variable {X:Cx}{x:x9}{e:O_}{es:List O_}{t:TA}{p cpos pos:Pm}{n m:Nat}{ps:List x9}{S:SiD}
def gz(X:Cx)(σ:L2.St)(F1 H1:Hp)(x:x9)(fs:List (x9 × D)):Prop:=∀ F' H' s' e C od,Inv X [] σ H' s'->Grow F1 H1 F' H'->ErrD X.K F' x fs C od->Exd X H' s' e C od->X.xe (.ref e) s'
def yd(M:CalE X.prog X.w X.K X.mg X.base n x ps S)(hr:Room m X.A)(hc:X.calm=true)(ha:PA X (e::es) t)(f9:autoParam (X.ex=[]) zA0)(hg:autoParam (Gl X x) zA0)(hn:autoParam (n+1<=m) zA1)(d6:autoParam (zND x) zA1)
  (he:autoParam (zSE X e es) zA0) (c5:autoParam (zPL X cpos es) zA0):
  PS X (.Raise (be (.Call (.Name x p) (e::es) [] cpos)) q_ pos) (λ_ σ H=>t σ H λvs H1=>vs.length<=1000/\∃ F1 ds,Same F1 H1/\Reps X.K F1 ds vs/\∃ T:List (x9 × D)->Prop,S ds T/\∀ fs,T fs->gz X σ F1 H1 x fs):=by
 obtain⟨C,N,bm,f,fd,k,hi,Im,Fn,hb⟩:=M;intro pins s σ H D I h;obtain⟨nm,q,bs,sn,sub,ab,col,dd,k0,k1,k2,k3,k5,lk⟩:=k.obj;refine jl (nm:=nm) (q:=q) (C:=C) (N:=N) (bs:=bs) (bm:=bm) (hdct:=true) (sn:=sn) (sub:=sub) (ab:=ab) (col:=col) (dd:=dd) (k0:=k0) (k1:=k1) (k2:=k2) (k3:=k3) (k5:=k5) (newId:="ValueError.__new__") k.base (I.ok.hd hc) ?_;refine Po (cR I hg k.mg ?_ d6);refine callWith_K (h₀:=X.base) I.ok.mod.kin k.kp (thn (ha cpos pins s σ H _ I h) λus s1 hh=>⟨hh.elim λ_ h=>h.elim λ_ h=>h.1.kIn,?_⟩) he c5;obtain⟨vs,H1,I1,r,hl,F1,ds,KI,rx,T,hS,hT⟩:=hh;have hC:=I1.kIn _ _ lk;have NO:us.length<=sizeLine:=by rw[<- L2.Vals.length r];exact sz hl
 refine wm (g:=s1.gens) (d:=s1.drawn) (t:=s1.toks) (os:=s1.os) (rest:=us) I1.kIn (tail_of_in I1.kIn k.tail) hC hi (beq_iff_eq.mp Im) (λh' ea hm=>?_) NO;have I2:=Inv.newx I1 f9 hm;have r2:Vals (V.ref ea::vs) (Value.ref ea::us):= .cons rfl r;have He:H1 ea=none:=gp I1.hok hm.new;have p8:lEi X.K C S (V.ref ea::vs) (upd H1 ea (XN ea C q_)) (λv H'=>v= .non/\∃ fs od F',Grow F1 H1 F' H'/\gz X σ F1 H1 x fs/\H' ea=be (XN ea C od)/\F' ea=q_/\ErrF X.K F' fs od) (λ_ _ _=>False):=
  ⟨ea,vs,H1,F1,ds,rfl,rfl,He,KI,rx,_,hS,λfs od F' H' g hR h1 h2 h3=>⟨rfl,fs,od,F',g,hT fs hR,h1,h2,h3⟩⟩
 have a_:(Value.ref ea::us).length=ps.length:=by rw[<- L2.Vals.length r2];exact Fn.len _ _ _ _ p8
 have ge:=hb {s1 with heap:=h'} (Value.ref ea::us) I2.kIn (by rw[EA];exact a_);rw[EA] at ge;refine P3 (PQ (Fn.run _ X.stack _ _ ⟨Value.ref ea::us,[]⟩ (Value.ref ea::us) _ _ _ ((hr.mono hn).make C us []) (I2.env0.make C us []) ge r2 p8) λrr s' hq=>?_);cases rr with
 |error e'=>exact(eY (X:=X) pins σ _ _ e' s' I2 hq:X.xe e' s')
 |ok fl=>
  cases fl with
  |next=>exact False.elim hq
  |brk=>exact False.elim hq
  |cont=>exact False.elim hq
  |ret u=>
   obtain⟨v,H',I3,rv,rfl,fs,od,F',g,hR,t_,NP,er⟩:=I2.after hq;obtain rfl:u=Value.none:=rv;refine⟨rfl,?_⟩;have e0:X.s₀.heap.get? ea=none:=cK I1 f9 hm.new;have I4:=Inv.drop I3 t_ e0;obtain⟨ta,sl,m_⟩:=XN.get I3.hok t_;have g4:Grow F1 H1 F' (del H' ea):=⟨g.ff,λb o q=>by
    have:b≠ea:=λz=>by rw[z,NP] at q;cases q
    rw[cm this];exact g.fh b o q,λb o q=>by
    have:b≠ea:=λz=>by rw[z,He] at q;cases q
    rw[cm this];exact g.hh b o q,g.out⟩
   refine⟨ea,ta,od,sl,rfl,I3.kIn _ _ lk,m_,?_⟩;exact hR F' (del H' ea) s' ea C od (Inv.nopins I4) g4 ⟨k.ns,er⟩ ⟨fm,e0,pn_free I1 hm.new,.inl ⟨sl,_,m_,rfl⟩⟩
def ye(h:∃ C N bm,ErrK X.K X.mg x C N bm/\ErrN X.K N)(hc:X.calm=true)(ha:PA X (e::es) t)(f9:autoParam (X.ex=[]) zA0)(hg:autoParam (Gl X x) zA0)(d6:autoParam (zND x) zA1)
  (he:autoParam (zSE X e es) zA0) (c5:autoParam (zPL X cpos es) zA0):
  PS X (.Raise (be (.Call (.Name x p) (e::es) [] cpos)) q_ pos) (λ_ σ H=>t σ H λvs H1=>vs.length<=1000/\∃ F1,Same F1 H1/\gz X σ F1 H1 x []):=by
 obtain⟨C,N,bm,k,kn⟩:=h;intro pins s σ H D I h;obtain⟨nm,q,bs,sn,sub,ab,col,dd,k0,k1,k2,k3,k5,lk⟩:=k.obj;refine jl (nm:=nm) (q:=q) (C:=C) (N:=N) (bs:=bs) (bm:=bm) (hdct:=true) (sn:=sn) (sub:=sub) (ab:=ab) (col:=col) (dd:=dd) (k0:=k0) (k1:=k1) (k2:=k2) (k3:=k3) (k5:=k5) (newId:="ValueError.__new__") k.base (I.ok.hd hc) ?_;refine Po (cR I hg k.mg ?_ d6);refine callWith_K (h₀:=X.base) I.ok.mod.kin k.kp (thn (ha cpos pins s σ H _ I h) λus s1 hh=>⟨hh.elim λ_ h=>h.elim λ_ h=>h.1.kIn,?_⟩) he c5;obtain⟨vs,H1,I1,r,hl,F1,KI,hR⟩:=hh;have hC:=I1.kIn _ _ lk;obtain⟨hp,gg,dr,tk,os⟩:=s1;refine QH PySem.F.excBase_ValueError (tail_of_in I1.kIn k.tail) hC (.of_isNs (isNs_of_in I1.kIn kn.ok)) (nsMap_none_of_in I1.kIn kn.ok kn.no) (λh' ea hm=>?_) (by show us.length<=_;rw[<- L2.Vals.length r];exact sz hl);obtain⟨ta,h1,h2,h3⟩:=hm.there;have I2:Inv X pins σ H1 ⟨h',gg,dr,tk,os⟩:=I1.kept (t':=tk) hm.keeps;refine⟨ea,ta,q_,#[],rfl,hm.keeps _ _ hC,h1,?_⟩;exact hR F1 H1 _ ea C q_ (Inv.nopins I2) (Grow.refl KI) ⟨k.ns,[],repf_nil.mpr rfl,.inl ⟨rfl,rfl⟩⟩ ⟨gp I1.hok hm.new,cK I1 f9 hm.new,pn_free I1 hm.new,.inl ⟨#[],_,h1,rfl⟩⟩
end
section
variable {X:Cx}[J:Jm]{x:x9}{e:O_}{es:List O_}{t:TMA}{p cpos pos:Pm}{n m:Nat}{ps:List x9}{S:SiD}
def yf(x:x9)(S:SiD)(t:TMA):TMS:=λ_ z M=>t z M λds M1=>ds.length<=1000/\S ds λfs=>J.RM z M1 x fs
def qD{σ:L2.St}{z:SD}{M M1:MS}{F H F1 H1:Hp}{fs:List (x9 × D)}(hx:XOkM X)(k:Kept J.B J.F0 F H)(rs:RepZ X.K J.B F H z σ M)(g1:GrowM M M1 F H F1 H1)(m1:RepM X.K F1 H1 M1)(hR:J.RM z M1 x fs):gz X σ F1 H1 x fs:=λF' H' s' e C od I g er ex=>
 hx σ z M1 F' H' s' e C od x fs I ((k.growM rs.mb g1).grow g) ((rs.growM k.bh g1 m1).growM (k.growM rs.mb g1).bh g.toM (m1.grow g)) hR er ex
def jK(M:CalE X.prog X.w X.K X.mg X.base n x ps S)(hr:Room m X.A)(hx:XOkM X)(hc:X.calm=true)(ha:MA X (e::es) t)(f9:autoParam (X.ex=[]) zA0)(hg:autoParam (Gl X x) zA0)(hn:autoParam (n+1<=m) zA1)(d6:autoParam (zND x) zA1)
  (he:autoParam (zSE X e es) zA0) (c5:autoParam (zPL X cpos es) zA0):
  MSt X (.Raise (be (.Call (.Name x p) (e::es) [] cpos)) q_ pos) (yf x S t):=⟨(yd M hr hc ha.out f9 hg hn d6 he c5).anti λE s H q=>by
 obtain⟨F0,F,z,M,k,rs,ED,h,ee⟩:=q;exact⟨F,z,M,k.kf,rs,_,h,λds vs M1 F1 H1 g1 i6 rx m1=>⟨by rw[rx.length];exact i6.1,F1,ds,g1.fh,rx,_,i6.2,λfs hR=>qD hx k.kf rs g1 m1 hR⟩⟩⟩
def yg(x:x9)(t:TMA):TMS:=λ_ z M=>t z M λds M1=>ds.length<=1000/\J.RM z M1 x []
def yi(h:∃ C N bm,ErrK X.K X.mg x C N bm/\ErrN X.K N)(hx:XOkM X)(hc:X.calm=true)(ha:MA X (e::es) t)(f9:autoParam (X.ex=[]) zA0)(hg:autoParam (Gl X x) zA0)(d6:autoParam (zND x) zA1)
  (he:autoParam (zSE X e es) zA0) (c5:autoParam (zPL X cpos es) zA0):
  MSt X (.Raise (be (.Call (.Name x p) (e::es) [] cpos)) q_ pos) (yg x t):=⟨(ye h hc ha.out f9 hg d6 he c5).anti λE s H q=>by
 obtain⟨F0,F,z,M,k,rs,ED,h,ee⟩:=q;exact⟨F,z,M,k.kf,rs,_,h,λds vs M1 F1 H1 g1 i6 rx m1=>⟨by rw[rx.length];exact i6.1,F1,g1.fh,qD hx k.kf rs g1 m1 i6.2⟩⟩⟩
end
section
variable {X:Cx}[J:Jm]{a b c e:O_}{ta tb tc te:TME}{pos:Pm}{st:Pb}{rest:List Pb}{t u:TMS}
def yj:TMS:=λE z M=>E.nx z M
def mSeq(t u:TMS):TMS:=λE z M=>t {E with nx:=u E} z M
def bZ:MSs X [] yj:=⟨pss_nil.anti λE s H q=>by
 obtain⟨F0,F,z,M,k,rs,ED,h,e⟩:=q;exact e.nx z s M F H k h rs⟩
def aB(h1:MSt X st t)(h2:MSs X rest u):MSs X (st::rest) (mSeq t u):=⟨(eQ h1.out h2.out).anti λE s H q=>by
 obtain⟨F0,F,z,M,k,rs,ED,h,e⟩:=q;exact⟨F0,F,z,M,k,rs,{ED with nx:=u ED},h,⟨λz' s' M' F' H' k' hz r'=>⟨F0,F',z',M',k',r',ED,hz,e⟩,e.rt,e.bk,e.ct⟩⟩⟩
def aF(h1:MSt X st t):MSs X [st] t:=⟨oj h1.out⟩
def mRet(te:TME):TMS:=λE z M=>te z M E.rt
def aO(he:ME X e te):MSt X (.Return (be e) pos) (mRet te):=⟨(om he.out).anti λE s H q=>by
 obtain⟨F0,F,z,M,k,rs,ED,h,e⟩:=q;exact⟨F,z,M,k.kf,rs,_,h,λd v M' F' H' g hd rd m'=>e.rt d v M' F' H' (k.growM rs.mb g) hd rd m' (rs.growM k.bh g m').mb⟩⟩
def yk(te:TME):TMS:=λE z M=>te z M λ_ M1=>E.nx z M1
def cz(he:ME X e te)(hs:autoParam (Pt e q_ pos.line X.env=pure false) zA0):MSt X (.Expr e pos) (yk te):=⟨(ol he.out hs).anti λE s H q=>by
 obtain⟨F0,F,z,M,k,rs,ED,h,e⟩:=q;exact⟨F,z,M,k.kf,rs,_,h,λd v M' F' H' g hd rd m'=>e.nx z s M' F' H' (k.growM rs.mb g) hd (rs.growM k.bh g m')⟩⟩
def mIfS(c:TMT)(t u:TMS):TMS:=λE z M=>c z M λb M1=>if b=true then t E z M1 else u E z M1
variable{l r:List Pb}
def cq{c:O_}{tc:TMT}(hc:MT X c tc)(ha:MSs X l t)(hb:MSs X r u):MSt X (.If c l r pos) (mIfS tc t u):=⟨(oq hc.out ha.out hb.out).anti λE s H q=>by
 obtain⟨F0,F,z,M,k,rs,ED,h,e⟩:=q;refine⟨F,z,M,k.kf,rs,_,h,λb M1 F1 H1 g hk m1=>?_⟩;cases b with
 |true=>exact⟨F0,F1,z,M1,k.growM rs.mb g,rs.growM k.bh g m1,ED,hk,e⟩
 |false=>exact⟨F0,F1,z,M1,k.growM rs.mb g,rs.growM k.bh g m1,ED,hk,e⟩⟩
def mIfJ(c:TMT)(t u:TMS):TMS:=λE z M=>∃ J:SD->MS->Prop,(c z M λb M1=>if b=true then t {E with nx:=J} z M1 else u {E with nx:=J} z M1)/\∀ z' M',J z' M'->E.nx z' M'
def qE{c:O_}{tc:TMT}(hc:MT X c tc)(ha:MSs X l t)(hb:MSs X r u):MSt X (.If c l r pos) (mIfJ tc t u):=⟨(cq hc ha hb).out.anti λE s H q=>by
 obtain⟨F0,F,z,M,k,rs,ED,⟨J,h,j⟩,e⟩:=q;exact⟨F0,F,z,M,k,rs,{ED with nx:=J},h,⟨λz' s' M' F' H' k' hz r'=>e.nx z' s' M' F' H' k' (j z' M' hz) r',e.rt,e.bk,e.ct⟩⟩⟩
def mSet(i:Nat)(te:TME):TMS:=λE z M=>∃ P:D->MS->Prop,te z M P/\∀ d M',P d M'->E.nx (z.set i (be d)) M'
def bb(i:Nat){x:x9}{c8:Pm}(hN:X.N.Nodup)(he:ME X e te)(hi:autoParam (X.N[i]?=be x) zA0)(hx:autoParam (Loc X.env.scope x) zA4)(hs:autoParam (Pt e (be (.Name x c8)) pos.line X.env=pure false) zA0)
  (hf:autoParam (zFN X x) zA3):MSt X (.Assign [.Name x c8] e pos) (mSet i te):=⟨(iY hN hi hx he.out hs hf).anti λE s H q=>by
 obtain⟨F0,F,z,M,k,rs,ED,⟨P,h,j⟩,e⟩:=q;exact⟨F,z,M,k.kf,rs,P,h,λd v M' F' H' g hd rd m'=>e.nx _ _ M' F' H' (k.growM rs.mb g) (j d M' hd) ((rs.growM k.bh g m').set rd)⟩⟩
def ym(x f:x9)(to te:TME):TMS:=λE z M=>te z M λd M1=>to z M1 λo M2=>match o with| .ptr a=>∃ fs,mget M2 a=be (.ins x fs)/\fs.length<1000/\E.nx z (mput M2 a (.ins x (putD f d fs)))|_=>False
def gA{x f:x9}{o:O_}{to:TME}{c8:Pm}(hA:ClsA X.K x f)(ho:ME X o to)(he:ME X e te)(hs:autoParam (Pt e (be (.Attribute o f c8)) pos.line X.env=pure false) zA0):
  MSt X (.Assign [.Attribute o f c8] e pos) (ym x f to te):=⟨(oQ ho.out he.out hs).anti λE s H q=>by
 obtain⟨C,hn,hc,hf⟩:=hA;obtain⟨F0,F,z,M,k,rs,ED,h,ee⟩:=q;refine⟨F,z,M,k.kf,rs,_,h,λd v M1 F1 H1 g1 hx rd m1=>?_⟩;have k1:=k.growM rs.mb g1;have s_:=rs.growM k.bh g1 m1;refine⟨F1,z,M1,k1.kf,s_,_,hx,λo' v' M2 F2 H2 g2 hy ro m2=>?_⟩;have k2:=k1.growM s_.mb g2;have HR:=s_.growM k1.bh g2 m2;split at hy
 .rename_i a;obtain⟨fs,hm,hl,IS⟩:=hy;obtain⟨C',dx,ws,j6,hH,rf⟩:=m2.ok _ _ (bS hm);rw[hn] at j6;cases j6;have fa:=m2.fr a (cy (bS hm));refine⟨a,C,dx,ws,rep_ptr.mp ro,hH,hc,hf,by rw[rf.length];exact hl,?_⟩;have m3:RepM X.K F2 (upd H2 a (.ins C dx (putF f v ws))) (mput M2 a (.ins x (putD f d fs))):=m2.put hm ⟨C,dx,_,hn,aC,RepF.put (rd.mono g2.ff) rf⟩;have g3:GrowM M2 (mput M2 a (.ins x (putD f d fs))) F2 H2 F2 (upd H2 a (.ins C dx (putF f v ws))):=GrowM.put k2.fh fa hm;exact ee.nx z s _ F2 _ (k2.growM HR.mb g3) IS (HR.growM k2.bh g3 m3)
 .exact hy.elim⟩
def yn(c:TMT)(tb:TMS):TMS:=λE z M=>∃ W:Nat->SD->MS->Prop,(∃ m,W m z M)/\∀ m z M,W m z M->
 c z M λb M1=>if b=true then tb {E with nx:=λz' M'=>∃ m',m'<m/\W m' z' M',ct:=λz' M'=>∃ m',m'<m/\W m' z' M',bk:=E.nx} z M1 else E.nx z M1
def yo{c:O_}{body:List Pb}{tc:TMT}{tb:TMS}(hp:PF (Pc X.prog X.w) X.A X.env X.xe)(hc:MT X c tc)(hb:MSs X body tb):MSt X (.While c body [] pos) (yn tc tb):=⟨(ot hp hc.out hb.out).anti λE s H q=>by
 obtain⟨F0,F,z,M,k,rs,ED,⟨W,⟨m0,w0⟩,b_⟩,e⟩:=q;refine⟨λm s' H'=>∃ F' z' M',Kept J.B F0 F' H'/\RepZ X.K J.B F' H' z' s' M'/\W m z' M',⟨m0,F,z,M,k,rs,w0⟩,?_⟩;rintro m s1 H1 ⟨F1,z1,M1,k1,r1,w1⟩;refine⟨F1,z1,M1,k1.kf,r1,_,b_ m z1 M1 w1,λb M2 F2 H2 g2 hk m2=>?_⟩;cases b with
 |true=>
  refine⟨λs3 H3=>∃ F3 z3 M3,Kept J.B F0 F3 H3/\RepZ X.K J.B F3 H3 z3 s3 M3/\∃ m',m'<m/\W m' z3 M3,λs3 H3 ⟨F3,z3,M3,k3,r3,m',l,w3⟩=>⟨m',l,F3,z3,M3,k3,r3,w3⟩,?_⟩;exact⟨F0,F2,z1,M2,k1.growM r1.mb g2,r1.growM k1.bh g2 m2,_,hk,⟨λz3 s3 M3 F3 H3 k3 h3 r3=>⟨F3,z3,M3,k3,r3,h3⟩,e.rt,e.nx,λz3 s3 M3 F3 H3 k3 h3 r3=>⟨F3,z3,M3,k3,r3,h3⟩⟩⟩
 |false=>exact e.nx z1 s1 M2 F2 H2 (k1.growM r1.mb g2) hk (r1.growM k1.bh g2 m2)⟩
end
section
variable {X:Cx}[J:Jm]{a b c e o:O_}{ta tb tc te to:TME}{pos:Pm}{st:Pb}{rest:List Pb}{t u:TMS}
abbrev TMI:=SD->MS->(List D->MS->Prop)->Prop
def mItR(t:TME):TMI:=λz M R=>t z M λx M1=>match x with| .int n=>(0<=n/\n<2 ^ 62)/\R ((DV n.toNat).map λk=>D.int ((k:Nat):Int)) M1|_=>False
def mFor(i:Nat)(ti:TMI)(tb:TMS):TMS:=λE z M=>ti z M λds M1=>∃ W:Nat->SD->MS->Prop,W 0 z M1/\(∀ k x z M,ds[k]?=be x->W k z M->tb {E with nx:=W (k+1),ct:=W (k+1),bk:=E.nx} (z.set i (be x)) M)/\∀ z M,W ds.length z M->E.nx z M
def yp(i:Nat){x:x9}{p p1 p2:Pm}{body:List Pb}{tb:TMS}(hp:PF (Pc X.prog X.w) X.A X.env X.xe)(hc:X.calm=true)(hN:X.N.Nodup)(hm:X.mg "range"=q_)(he:ME X e te)(hb:MSs X body tb)(hg:autoParam (Gl X "range") zA0)(hi:autoParam (X.N[i]?=be x) zA0)(hx:autoParam (Loc X.env.scope x) zA4)
  (hf:autoParam (zFN X x) zA3) (hs:autoParam (∀ y,zFS X (.Call (.Name "range" p1) [e] [] p2) y) zA2) (j7:autoParam (zSE X e []) zA0) (d_:autoParam (Pg [e] X.env=[(false,Pj e X.env)]) zA0):
  MSt X (.For (.Name x p) (.Call (.Name "range" p1) [e] [] p2) body [] pos) (mFor i (mItR te) tb):=⟨(dq hp hc (fK hg hm (bg he.out pa_nil j7) d_) (eU hN hi hx hf) hb.out hs).anti λE s H q=>by
 obtain⟨F0,F,z,M,kp,rs,ED,h,e⟩:=q;refine⟨F,z,M,kp.kf,rs,_,h,λd v M1 F1 H1 g1 hd rd m1=>?_⟩;split at hd
 .rename_i n;obtain⟨⟨b1,b2⟩,W,w0,b_,out⟩:=hd;have hl:((DV n.toNat).map λk=>D.int ((k:Nat):Int)).length=n.toNat:=by simp
  refine⟨n,by rw[rep_int.mp rd],by lia,b2,oB (lo:=0) (n:=n.toNat) (λk s' H'=>∃ F' z' M',Kept J.B F0 F' H'/\RepZ X.K J.B F' H' z' s' M'/\W k z' M') ⟨F1,z,M1,kp.growM rs.mb g1,rs.growM kp.bh g1 m1,w0⟩ ?_ ?_⟩
  .rintro k s' H' hk ⟨F',z',M',k',r',w'⟩;have e1:(0:Int)+(k:Int)=(k:Int):=by lia
   exact⟨F0,F',_,M',k',r'.set (d:= .int (k:Int)) (rep_int.mpr (by rw[e1])),_,b_ k (.int (k:Int)) z' M' (by simp[hk]) w',⟨λz3 s3 M3 F3 H3 k3 h3 r3=>⟨F3,z3,M3,k3,r3,h3⟩,e.rt,e.nx,λz3 s3 M3 F3 H3 k3 h3 r3=>⟨F3,z3,M3,k3,r3,h3⟩⟩⟩
  .rintro s' H' ⟨F',z',M',k',r',w'⟩;exact e.nx z' s' M' F' H' k' (out z' M' (by rw[hl];exact w')) r'
 .exact hd.elim⟩
def yq(te:TME):TME:=λz M R=>te z M λd M1=>match d with| .ptr a=>∃ ds,mget M1 a=be (.lst ds)/\R (.int ds.length) M1|_=>False
def yr{p:Pm}(hm:X.mg "len"=q_)(ha:ME X e te)(hg:autoParam (Gl X "len") zA0)(he:autoParam (zSE X e []) zA0):ME X (.Call (.Name "len" p) [e] [] pos) (yq te):=⟨(fP jb hg hm PySem.boot_len (bg ha.out pa_nil he) (by decide) (by decide) he).anti λs H Q h=>by
 obtain⟨F,z,M,k,rs,R,h1,h2⟩:=h;refine⟨F,z,M,k,rs,_,h1,λd v M1 F1 H1 g1 hx rx m1=>?_⟩;split at hx
 .rename_i a;obtain⟨ds,hm,hR⟩:=hx;obtain⟨vs,hH,rr⟩:=m1.ok _ _ (bS hm);exact⟨.ref a,vs.length,by rw[rep_ptr.mp rx],.inl ⟨vs,SqL.of hH,rfl⟩,h2 _ _ M1 F1 H1 g1 hR (rep_int.mpr (by rw[rr.length])) m1⟩
 .exact hx.elim⟩
def mIxP(ta tb:TME):TME:=λz M R=>ta z M λx M1=>tb z M1 λy M2=>match x,y with| .ptr a,.int i=>∃ ds,mget M2 a=be (.lst ds)/\∃ d,atI ds i=be d/\R d M2|_,_=>False
def yt(ha:ME X a ta)(hb:ME X b tb)(hs:autoParam (eX b) zA6):ME X (.Subscript a b pos) (mIxP ta tb):=⟨(pe_ix ix_list ha.out hb.out hs).anti λs H Q h=>by
 obtain⟨F,z,M,k,rs,R,h1,h2⟩:=h;refine⟨F,z,M,k,rs,_,h1,λx u M1 F1 H1 g1 hx rx m1=>?_⟩;refine⟨F1,z,M1,k.growM rs.mb g1,rs.growM k.bh g1 m1,_,hx,λy v M2 F2 H2 g2 hy ry m2=>?_⟩;split at hy
 .rename_i p i;obtain⟨ds,hm,d,hd,hR⟩:=hy;obtain⟨vs,hH,rr⟩:=m2.ok _ _ (bS hm);obtain⟨w,e2,k7⟩:=rr.at hd;exact⟨p,vs,_,w,rep_ptr.mp rx,rep_int.mp ry,SqL.of hH,e2,h2 d w M2 F2 H2 (g1.trans g2) hR k7 m2⟩
 .exact hy.elim⟩
def yu(to te:TME):TME:=λz M R=>to z M λo M1=>match o with| .ptr a=>(∃ ds,mget M1 a=be (.lst ds))/\te z M1 λd M2=>∃ ds,mget M2 a=be (.lst ds)/\ds.length<=100000/\R .non (mput M2 a (.lst (ds++[d])))|_=>False
def yw{apos cpos:Pm}(ho:ME X o to)(he:ME X e te)(m8:autoParam (zSE X e []) zA0)
  (b9:autoParam (Pi o "append" X.env (Pj o X.env)=Pj o X.env) zA0)
  (d9:autoParam (zHF X cpos [e]) zA0)
  (c7:autoParam ((apos.endLine==cpos.line)=true) zA0):
  ME X (.Call (.Attribute o "append" apos) [e] [] cpos) (yu to te):=⟨(dQ PySem.F.plainAttrs_list PySem.F.slot_list_append PySem.F.type_list_append fQ ho.out (bg he.out pa_nil m8) b9 d9 c7 m8).anti λs H Q h=>by
 obtain⟨F,z,M,k,rs,R,h1,h2⟩:=h;refine⟨F,z,M,k,rs,_,h1,λx u M1 F1 H1 g1 hx rx m1=>?_⟩;split at hx
 .rename_i a;obtain⟨⟨OO,KJ⟩,hx⟩:=hx;obtain⟨NQ,NR,OP⟩:=m1.ok _ _ (bS KJ);rw[rep_ptr.mp rx];refine⟨.inl ⟨rfl,NQ,SqL.of NR⟩,?_⟩;refine⟨F1,z,M1,k.growM rs.mb g1,rs.growM k.bh g1 m1,_,hx,λd v M2 F2 H2 g2 hd rd m2=>?_⟩;obtain⟨ds,hm,hl,hR⟩:=hd;obtain⟨vs,hH,rr⟩:=m2.ok _ _ (bS hm);have hz:vs.length<sizeLine:=by
   rw[rr.length];have h2:(100000:Nat)<sizeLine:=by decide
   lia
  refine⟨a,vs,v,rfl,rfl,hH,hz,?_⟩;exact h2 _ _ _ F2 _ (g1.trans (g2.trans (GrowM.put g2.fh (m2.fr a (cy (bS hm))) hm))) hR (rep_non.mpr rfl) (m2.put hm ⟨_,aC,rr.append (dX rd)⟩)
 .exact hx.elim⟩
def frzD:MO->D| .ins x fs=> .obj x fs| .lst ds=> .lst ds| .dti a8=> .dti a8
def mFrz(i:Nat)(t:TMS):TMS:=λE z M=>match z[i]? with|some (be (.ptr a))=>∃ o,mget M a=be o/\t E (z.set i (be (frzD o))) (mdel M a)|_=>False
def qF(i:Nat){IG:List Pb}(h:MSs X IG t):MSs X IG (mFrz i t):=⟨PSs.anti h.out λE s H q=>by
 obtain⟨F0,F,z,M,k,rs,ED,h,e⟩:=q;unfold mFrz at h;split at h
 .rename_i a ez;obtain⟨o,hm,h⟩:=h;have mem:=bS hm;have fa:=rs.rm.fr a (cy mem);have ba:=rs.mb a (cy mem);obtain⟨v,hv,rv⟩:=rs.rs.val i _ ez rfl;have NS:=rep_ptr.mp rv;subst NS;have hok:=rs.rm.ok a o mem;obtain⟨ho,f7,KL⟩:∃ ho,H a=be ho/\∀ F',Same F F'->F' a=be ho->Rep X.K F' (frzD o) (.ref a):=by
   cases o with
   |ins x fs=>obtain⟨C,dx,ws,n,h1,h2⟩:=hok;exact⟨_,h1,λF' s' hF=>rep_obj.mpr ⟨a,C,dx,ws,rfl,n,hF,RepF.mono s' fs ws h2⟩⟩
   |lst ds=>obtain⟨vs,h1,h2⟩:=hok;exact⟨_,h1,λF' s' hF=>rep_lst.mpr ⟨a,vs,rfl,hF,h2.mono s'⟩⟩
   |dti a8=>exact⟨_,hok,λF' s' hF=>rep_dti.mpr ⟨a,rfl,hF⟩⟩
  have s1:Same F (upd F a ho):=aT fa _;have hs:s.set i (be (.ref a))=s:=by
   apply FC;intro n;by_cases hn:i=n
   .subst hn;rw[EG (Ec.mp hv).1,hv]
   .rw[Eh hn]
  have k1:Kept J.B F0 (upd F a ho) H:=⟨k.bh,λb u q=>by
   by_cases hb:b=a
   .subst hb;rw[aC] at q;cases q;exact f7
   .rw[au hb] at q;exact k.fh b u q,k.f0.trans s1,λb h1 h2=>by
   by_cases hb:b=a
   .subst hb;exact absurd ba h2
   .rw[au hb];exact k.out b h1 h2,k.eb,k.jf,k.jo⟩
  have r0:RepS X.K J.B (upd F a ho) H z s:=⟨rs.rs.len,λi d e n=>let ⟨v,q1,q2⟩:=rs.rs.val i d e n;⟨v,q1,q2.mono s1⟩,λi ds e=>absurd e (rs.no i ds),rs.rs.apart⟩;have NT:RepM X.K (upd F a ho) H (mdel M a):=⟨rs.rm.nd.sublist del_sub,λb q hb=>by
   obtain⟨ne,hb⟩:=jG rs.rm.nd hb;exact(rs.rm.ok b q hb).mono s1 λ_ z=>z,λb hb=>by
   obtain⟨⟨b',q⟩,ge,rfl⟩:=El.mp hb;obtain⟨ne,IZ⟩:=jG rs.rm.nd ge;rw[au ne];exact rs.rm.fr _ (cy IZ)⟩
  have z0:RepZ X.K J.B (upd F a ho) H z s (mdel M a):=⟨r0,rs.no,NT,λb hb=>rs.mb b (del_sub.subset hb)⟩;have z1:=z0.set (i:=i) (KL _ s1 aC);rw[hs] at z1;exact⟨F0,_,_,_,k1,z1,ED,h,e⟩
 .exact h.elim⟩
end
def qG{N:List x9}{ds:List D}(rs:Reps K F ds vs):∀ (i:Nat) d,(startD N ds)[i]?≠be (be (.own d)):=by
 intro i d e;unfold startD at e;by_cases hi:i<ds.length
 .rw[EH (by simpa using hi),D5] at e;cases q:ds[i]? with
  |none=>rw[q] at e;cases e
  |some x=>
   rw[q] at e;cases e;obtain⟨v,_,q2⟩:=rs.get q;exact rep_own q2
 .rw[EW (by simpa using hi),FU] at e;split at e
  .cases e
  .cases e
def growM_nil(g:GrowM [] M' F H F' H'):Grow F H F' H':=⟨g.ff,g.fh,λb o h=>g.hh b o (λz=>nomatch z) h,λb h1 h2=>g.out b (λz=>nomatch z) h1 h2⟩
section
variable {P:O9}{w:Pe}{K:DR}{mg:x9->Option KB}{base:Heap}
variable{x:x9}{ps:List x9}{S:SpM}
def CalMM.toX{n:Nat}{S0:SpX}(C:CalMM P w K mg base n x ps S)(h:∀ ds R RX,S0 ds R RX->S ds [] (λd _=>R d) λx fs _=>RX x fs):CalX P w K mg base n x ps S0:=by
 obtain⟨f,fd,F,hb,hk,hm⟩:=C;refine⟨f,fd,F.imp λvs H Q E q=>?_,hb,hk,hm⟩;obtain⟨F,ds,fh,rs,R,RX,hS,q1,q2⟩:=q;exact⟨F,ds,[],fh,rs,RepM.nil,_,_,h ds R RX hS,λd v M' F' H' g hd rd _=>q1 d v F' H' (growM_nil g) hd rd,λy fs C od M' F' H' g hR er _=>q2 y fs C od F' H' (growM_nil g) hR er⟩
open Classical in
def Fun.okM{x qual:x9}{st:Pb}{f:KF}{fd:Ph}{N ps:List x9}{k:Nat}{S:SpM}(T:Fun K x qual st f fd)(F:FnScope N ps (ah st))(len:∀ ds M R RX,S ds M R RX->ds.length=ps.length)
  (a9:∀ (cdv:KB) (A:Pf) (outer:List PU) (s:KM) (H:Hp) (E:XK) (J:Jm),Room k (A.deeper (Pl qual (ah st) s.heap.objs.size f cdv))->XOkM (cxOf (CX1 P w) P w K mg base N qual (ah st) f cdv A outer s H E)->
   ∃ t,MSs (cxOf (CX1 P w) P w K mg base N qual (ah st) f cdv A outer s H E) (aK st) t/\∀ ds M R RX,(∀ z,J.RM z=λM' x fs=>RX x fs M')->S ds M R RX->t {nx:=λ_ M'=>R .non M',rt:=R} (startD N ds) M):FnOk P w K mg base (CX1 P w) (k+1) f fd ps (lSpM K S):=by
 refine Fun.okC T F (λvs H Q E h=>?_) (λcdv A outer s H vs Q E hr h=>?_)
 .obtain⟨F,ds,M,fh,rs,rm,R,RX,h,_⟩:=h;rw[rs.length];exact len ds M R RX h
 .obtain⟨F,ds,M,fh,rs,rm,R,RX,h,q,qx⟩:=h
  let B:Hp:=λb=>if b∈az M then q_ else H b
  have Mm:∀ {b:KF},b∈az M->B b=none:=λ{b} h=>if_pos h;have JO:∀ {b:KF},b ∉ az M->B b=H b:=λ{b} h=>if_neg h
  letI:Jm:={B:=B,F0:=F,RX:=λ_ _ _=>False,RM:=λ_ M' x fs=>RX x fs M'}
  have gr:∀ {M':MS} {F' H':Hp},Kept B F F' H'->(∀ a,a∈az M'->B a=q_)->GrowM M M' F H F' H':=λ{M' F' H'} k mb=>⟨k.f0,k.fh,λb o nb e=>k.bh b o (by rw[JO nb];exact e),λb nb h1 h2=>k.out b h1 (by rw[JO nb];exact h2),λb hb=>by
   by_cases nb:b∈az M
   .exact .inl nb
   .right;rw[<- JO nb];exact mb b hb⟩
  have hx:XOkM (cxOf (CX1 P w) P w K mg base N qual (ah st) f cdv A outer s H E):=by
   intro σ z M' F' H' s' e C od y fs I kk rr hR er ⟨He,ne,_,hx⟩;have hE:E (.ref C) od H':=qx y fs C od M' F' H' (gr kk rr.mb) hR er rr.rm;rcases hx with⟨sl,vs,h1,h2⟩|⟨T,h1,h2,h3,_⟩
   .exact pA I h1 h2 He ne hE
   .exact qj I h1 ne h2 He h3 hE
  obtain⟨t,ht,hq⟩:=a9 cdv A outer s H E inferInstance hr hx;have k0:Kept B F F H:=⟨λb o e=>by
   by_cases nb:b∈az M
   .rw[Mm nb] at e;cases e
   .rw[JO nb] at e;exact e,fh,Same.refl F,λ_ h _=>h,rfl,Same.refl F,λ_ h _=>h⟩
  have r0:RepZ K B F H (startD N ds) (L2.start N vs) M:=⟨dR rs,qG rs,rm,λa h=>Mm h⟩;exact⟨_,ht.out,F,F,startD N ds,M,k0,r0,_,hq ds M R RX (λ_=>rfl) h,⟨λz' s' M' F' H' k hn r=>q _ _ M' F' H' (gr k r.mb) hn (rep_non.mpr rfl) r.rm,λd v M' F' H' k hd rd Mn mb=>q d v M' F' H' (gr k mb) hd rd Mn,λ_ _ _ _ _ _ h _=>h.elim,λ_ _ _ _ _ _ h _=>h.elim⟩⟩
variable{N:List x9}
def Tx.okM{st:Pb}{k:Nat}(T:Tx K mg x st ps)(F:FnScope N ps (ah st))(len:∀ ds M R RX,S ds M R RX->ds.length=ps.length)
  (a9:∀ (f:KF) (cdv:KB) (A:Pf) (outer:List PU) (s:KM) (H:Hp) (E:XK) (J:Jm),Room k (A.deeper (Pl x (ah st) s.heap.objs.size f cdv))->XOkM (cxOf (CX1 P w) P w K mg base N x (ah st) f cdv A outer s H E)->
   ∃ t,MSs (cxOf (CX1 P w) P w K mg base N x (ah st) f cdv A outer s H E) (aK st) t/\∀ ds M R RX,(∀ z,J.RM z=λM' x fs=>RX x fs M')->S ds M R RX->t {nx:=λ_ M'=>R .non M',rt:=R} (startD N ds) M):CalMM P w K mg base (k+1) x ps S:=by
 obtain⟨f,fd,T,hb,hm⟩:=T;exact⟨f,fd,Fun.okM T F len λcdv A outer s H E J hr hx=>a9 f cdv A outer s H E J hr hx,hb,T.kp,hm⟩
def Txm(K:DR)(x m:x9)(qual:x9)(st:Pb)(ps:List x9):Prop:=
 ∃ C f fd,nsIn K O8 x=be (be (.ref C))/\Cls K C/\Meth K C m f/\Fun K m qual st f fd/\Binds K fd ps []
def Txm.okM{m qual:x9}{st:Pb}{k:Nat}(T:Txm K x m qual st ps)(F:FnScope N ps (ah st))(len:∀ ds M R RX,S ds M R RX->ds.length=ps.length)
  (a9:∀ (f:KF) (cdv:KB) (A:Pf) (outer:List PU) (s:KM) (H:Hp) (E:XK) (J:Jm),Room k (A.deeper (Pl qual (ah st) s.heap.objs.size f cdv))->XOkM (cxOf (CX1 P w) P w K mg base N qual (ah st) f cdv A outer s H E)->
   ∃ t,MSs (cxOf (CX1 P w) P w K mg base N qual (ah st) f cdv A outer s H E) (aK st) t/\∀ ds M R RX,(∀ z,J.RM z=λM' x fs=>RX x fs M')->S ds M R RX->t {nx:=λ_ M'=>R .non M',rt:=R} (startD N ds) M):CalMth P w K mg base (k+1) x m ps (lSpM K S):=by
 obtain⟨C,f,fd,h1,h2,h3,T,hb⟩:=T;exact⟨C,f,fd,h1,h2,h3,Fun.okM T F len λcdv A outer s H E J hr hx=>a9 f cdv A outer s H E J hr hx,hb⟩
end
end My
namespace L2
section
variable {X:Cx}{pins:List (KF × Pu)}{σ:St}{H:Hp}{s:KM}{h':Heap}
def Inv.turned2{t':Nat}{e it:KF}(I:Inv X pins σ H s)(k:∀ b o,b≠e->b≠it->s.heap.get? b=be o->h'.get? b=be o)(he:FpOk X pins H e)(hi:FpOk X pins H it):Inv X pins σ H {s with heap:=h',toks:=t'}:=by
 obtain⟨e0,e1,e2,e3,e4,e5⟩:=he;obtain⟨i0,i1,i2,i3,i4,i5⟩:=hi;have Hm:∀ b u,H b=be u->b≠e/\b≠it:=λb u q=>⟨(λz=>by rw[z,e0] at q;cases q),(λz=>by rw[z,i0] at q;cases q)⟩;have nc:∀ {b:KF},b ∉ [e,it]->b≠e/\b≠it:=λ{b} h=>⟨λz=>h (by simp[z]),λz=>h (by simp[z])⟩;refine I.step (g':=s.gens) (d':=s.drawn) (ch:=[e,it]) (λb hb=>?_) (λb o _ _ hc q _=>k b o (nc hc).1 (nc hc).2 q) (λb o _ _ hc q _=>⟨o.slots,k b o (nc hc).1 (nc hc).2 q⟩) (λ_ _ _ _ n=>n)
  (λb o hc q=>⟨o,k b o (nc hc).1 (nc hc).2 q⟩) (λ_ _ q=>q) (λ_ _ _ q=>q) (λb ps q=>⟨#[],by rw[q];simp⟩) (λm hm=>?_) (λb u q=>?_) I.bare
 .rcases D2.mp hb with z|z
  .rw[z];exact⟨e3,e1,e4,e5⟩
  .rw[DY.mp z];exact⟨i3,i1,i4,i5⟩
 .obtain⟨o,es,ep,ho,r⟩:=hm;exact⟨o,es,ep,k _ o (Ne.symm e1) (Ne.symm i1) ho,r⟩
 .refine(I.hok b u q).stay (λc v hc q'=>k c v ?_ ?_ q') (λ_ q=>q) λ_ _ q=>q
  .rcases hc with z|z
   .rw[z];exact(Hm b u q).1
   .exact(Hm c _ z).1
  .rcases hc with z|z
   .rw[z];exact(Hm b u q).2
   .exact(Hm c _ z).2
end
def Itel(K:DR)(a:KF):It:=
 ⟨λi H=>∃ xs x,SqL K H a xs/\xs[i]?=be x,λi H x H'=>∃ T v,H T=q_/\x= .ref T/\H'=upd H T (.tup [.int i,v])/\∀ xs,SqL K H a xs->xs[i]?=be v,λi H=>∃ xs,SqL K H a xs/\xs.length<=i⟩
def Ites(x:x9):It:=⟨λi _=>i<x.length,λi H v H'=>∃ T c,H T=q_/\v= .ref T/\H'=upd H T (.tup [.int i,.str ⟨#[c]⟩])/\x.cps[i]?=be c,λi _=>i=x.length⟩
variable{P:O9}{w:Pe}
def yx{H:Hp}{h:Heap}{T:KF}{i:Int}{t:Tok}{v:V}{u:KB}(r:RelV v u)(q:h.get? T=be {cls:= .type "tuple",data:= .seq #[.int i t,u]}):ObjOk P w H h T (.tup [.int i,v]):=
 ⟨by show 2<=sizeLine;decide,[.int i t,u],.cons ⟨t,rfl⟩ (.cons r .nil),⟨_,q,rfl,_,rfl⟩⟩
def qH{X:Cx}{pins:List (KF × Pu)}{σ:St}{H:Hp}{s:KM}{h':Heap}{t':Nat}{e it:KF}{i:Int}{t:Tok}{v:V}{u:KB}(I:Inv X pins σ H s)(he:FpOk X pins H e)(hi:FpOk X pins H it)(le:e<s.heap.objs.size)(li:it<s.heap.objs.size)(r:RelV v u)
  (hT:h'.get? s.heap.objs.size=be {cls:= .type "tuple",data:= .seq #[.int i t,u]}) (hk:∀ b o,b≠e->b≠it->s.heap.get? b=be o->h'.get? b=be o):Inv X pins σ (upd H s.heap.objs.size (.tup [.int i,v])) {s with heap:=h',toks:=t'}:=by
 have I1:Inv X pins σ (upd H s.heap.objs.size (.tup [.int i,v])) {s with heap:=s.heap.push {cls:= .type "tuple",data:= .seq #[.int i t,u]},toks:=t'}:=
  I.laid (λb o q=>Heap.get?_push_of_some _ q) (DU _) (yx r (Heap.get?_push_size _ rfl))
 have fp:∀ {b:KF},FpOk X pins H b->b<s.heap.objs.size->FpOk X pins (upd H s.heap.objs.size (.tup [.int i,v])) b:=λ{b} h l=>⟨by rw[au (D8 l)];exact h.1,h.2⟩;refine I1.turned2 (h':=h') (t':=t') (λb o h1 h2 q=>?_) (fp he le) (fp hi li);rcases Heap.get?_push_cases (show(s.heap.push {cls:= .type "tuple",data:= .seq #[.int i t,u]}).get? b=be o from q) with⟨rfl,rfl⟩|q2
 .exact hT
 .exact hk b o h1 h2 q2
variable{p_:List O_}
def yy{K:DR}{x1:Nat}{tp:Pm}(a e it:KF)(HS:e≠it):Turn P w K (.Tuple p_ x1 tp) (Itel K a) [e,it] e (λi h=>(∃ d5,IsEnum h e it i d5)/\h.IsListIter it a i) where
 mem:=by simp
 obj:=λi h st b hb=>by
  obtain⟨⟨d5,he⟩,hit⟩:=st;rcases D2.mp hb with z|z
  .rw[z];exact⟨_,he,λv z=>by cases z⟩
  .rw[DY.mp z];obtain⟨o,ho,c,d⟩:=hit;exact⟨o,ho,λv z=>by rw[d] at z;cases z⟩
 keep:=λi h h' st k=>⟨let ⟨d5,he⟩:=st.1;⟨d5,k e (by simp) _ he⟩,st.2.at λo q=>k it (by simp) o q⟩
 item:=by
  intro X hP hw hK hc i pins s σ H E I hf st hg;subst hP hw hK;obtain⟨xs,x,hq,hx⟩:=hg;obtain⟨its,rv,p,hz⟩:=I.list hq;obtain⟨u,hu,ru⟩:=rv.get hx;obtain⟨⟨d5,he⟩,hit⟩:=st;have fe:=hf e (by simp);have fi:=hf it (by simp);have le:e<s.heap.objs.size:=Heap.lt_size he;have li:it<s.heap.objs.size:=by obtain⟨o,ho,_⟩:=hit;exact Heap.lt_size ho
  refine wpAny_pyNext_enum_item he hit p.isList (x:=u) (by simpa using hu) HS λh' v9 HB hT gt hk=>?_;refine⟨_,rfl,Qp v9 λh2 KN j_=>?_⟩;have n4:Heap.SameBut e h' h2:=j_;have nT:s.heap.objs.size≠e:=ET le;have I1:Inv X pins σ (upd H s.heap.objs.size (.tup [.int i,x])) {s with heap:=h2,toks:=s.toks+1}:=qH I fe fi le li ru ((n4.2 _ nT).trans hT) λb o h1 h3 q=>(n4.2 b h1).trans (hk b o h1 h3 q);refine⟨.ref s.heap.objs.size,_,I1,rfl,⟨_,x,I.hok.fresh (DU _),rfl,rfl,λys hy=>by rw[I.list_inj hy hq];exact hx⟩,⟨⟨u,by simpa using KN⟩,HB.at λo q=>(n4.2 it (Ne.symm HS)).trans q⟩,λb hb=>?_⟩;rcases D2.mp hb with z|z
  .rw[z,au (D8 le)];exact fe.1
  .rw[DY.mp z,au (D8 li)];exact fi.1
 done:=by
  intro X hP hw hK hc i pins s σ H E I hf st hg;subst hP hw hK;obtain⟨xs,hq,hx⟩:=hg;obtain⟨its,rv,p,hz⟩:=I.list hq;obtain⟨⟨d5,he⟩,hit⟩:=st;have hl:=rv.length;obtain⟨f0,f1,f2,f3,f4,f5⟩:=hf it (by simp);exact wpAny_pyNext_enum_end (I.ok.hd hc) he hit p.isList (by simp;lia) λh' eb=>⟨rfl,I.turned (t':=s.toks) (λb o hb q=>eb b o hb q) f0 f1 f3 f4 f5⟩
 self:=λ_ _ _ _ _ st h=>let ⟨⟨d5,he⟩,_⟩:=st;PX he h
def yz{K:DR}{x1:Nat}{tp:Pm}(x:x9)(t:Tok)(e it:KF)(HS:e≠it):Turn P w K (.Tuple p_ x1 tp) (Ites x) [e,it] e (λi h=>(∃ d5,IsEnum h e it i d5)/\h.IsStrIter it "str_ascii_iterator" x t i) where
 mem:=by simp
 obj:=λi h st b hb=>by
  obtain⟨⟨d5,he⟩,hit⟩:=st;rcases D2.mp hb with z|z
  .rw[z];exact⟨_,he,λv z=>by cases z⟩
  .rw[DY.mp z];obtain⟨o,ho,c,d⟩:=hit;exact⟨o,ho,λv z=>by rw[d] at z;cases z⟩
 keep:=λi h h' st k=>⟨let ⟨d5,he⟩:=st.1;⟨d5,k e (by simp) _ he⟩,let ⟨o,ho,r⟩:=st.2;⟨o,k it (by simp) o ho,r⟩⟩
 item:=by
  intro X hP hw hK hc i pins s σ H E I hf st hg;subst hP hw hK;have hi:i<x.cps.size:=hg;obtain⟨⟨d5,he⟩,hit⟩:=st;have fe:=hf e (by simp);have fi:=hf it (by simp);have le:e<s.heap.objs.size:=Heap.lt_size he;have li:it<s.heap.objs.size:=by obtain⟨o,ho,_⟩:=hit;exact Heap.lt_size ho
  refine wpAny_pyNext_enum_itemD (Draws.strAscii (A:=X.A.in1) (by exact I.ok.hd hc) it x t) he hit hi HS (by simp[HS]) λu h' tk hP v9 HB hT gt hk=>?_;obtain⟨c,tu,w6,rfl⟩:=hP;refine⟨_,rfl,Qp v9 λh2 KN j_=>?_⟩;have n4:Heap.SameBut e h' h2:=j_;have nT:s.heap.objs.size≠e:=ET le;have I1:Inv X pins σ (upd H s.heap.objs.size (.tup [.int i,.str ⟨#[c]⟩])) {s with heap:=h2,toks:=tk+1}:=qH I fe fi le li ⟨tu,rfl⟩ ((n4.2 _ nT).trans hT) λb o h1 h3 q=>(n4.2 b h1).trans (hk b o h1 h3 q);refine⟨.ref s.heap.objs.size,_,I1,rfl,⟨_,c,I.hok.fresh (DU _),rfl,rfl,w6⟩,⟨⟨_,by simpa using KN⟩,let ⟨o,ho,r⟩:=HB;⟨o,(n4.2 it (Ne.symm HS)).trans ho,r⟩⟩,λb hb=>?_⟩;rcases D2.mp hb with z|z
  .rw[z,au (D8 le)];exact fe.1
  .rw[DY.mp z,au (D8 li)];exact fi.1
 done:=by
  intro X hP hw hK hc i pins s σ H E I hf st hg;subst hP hw hK;have hi:i=x.cps.size:=hg;subst hi;obtain⟨⟨d5,he⟩,hit⟩:=st;obtain⟨f0,f1,f2,f3,f4,f5⟩:=hf it (by simp);exact wpAny_pyNext_enum_endD (Draws.strAscii (A:=X.A.in1) (by exact I.ok.hd hc) it x t) he hit λh' eb=>⟨rfl,I.turned (t':=s.toks) (λb o hb q=>eb b o hb q) f0 f1 f3 f4 f5⟩
 self:=λ_ _ _ _ _ st h=>let ⟨⟨d5,he⟩,_⟩:=st;PX he h
def iEnL(K:DR)(ta:TA):TI:=λσ H R=>ta σ H λvs H1=>∃ a,vs=[.ref a]/\(∃ xs,SqL K H1 a xs)/\R (Itel K a) H1
def iEnS(ta:TA):TI:=λσ H R=>ta σ H λvs H1=>∃ x,vs=[.str x]/\x.cps.all (·<128)=true/\R (Ites x) H1
section
variable {X:Cx}{p_:List O_}{x1:Nat}{tp p pos:Pm}{l:O_}{ta:TA}
def qI(hg:Gl X "enumerate")(hm:X.mg "enumerate"=q_)(ha:PA X [l] ta)(hs:autoParam (Pg [l] X.env=[(false,Pj l X.env)]) zA0):PI X (.Tuple p_ x1 tp) (.Call (.Name "enumerate" p) [l] [] pos) (iEnL X.K ta):=by
 intro pins s σ H R I h;refine Call_ (cS I hg hm PyProof.Rows.boot_enumerate (PyProof.Rows.callWith_type1 (thn (ha pos pins s σ H _ I h) λus s1 ⟨vs,H1,I1,r1,q1⟩=>?_) hs rfl));obtain⟨a,rfl,⟨xs,hq⟩,q⟩:=q1;obtain⟨u,rfl,ru⟩:=bQ r1;cases ru;obtain⟨its,rv,pl,hz⟩:=I1.list hq;refine call_enumerate_list pl.isList λh' he hit gt hk=>?_;have I2:Inv X pins σ H1 {s1 with heap:=h'}:=I1.kept (t':=s1.toks) hk;refine PX he ?_;have ne:s1.heap.objs.size+1≠s1.heap.objs.size:=GF _;refine⟨s1.heap.objs.size+1,[s1.heap.objs.size+1,s1.heap.objs.size],_,_,H1,rfl,I2,yy a _ _ ne,⟨⟨_,he⟩,hit⟩,λb hb=>?_,q⟩;rcases D2.mp hb with z|z
 .rw[z];exact I1.fpOk (EV _) (I1.hok.fresh (EV _))
 .rw[DY.mp z];exact I1.fpOk (DU _) (I1.hok.fresh (DU _))
def yB(hg:Gl X "enumerate")(hm:X.mg "enumerate"=q_)(ha:PA X [l] ta)(hs:autoParam (Pg [l] X.env=[(false,Pj l X.env)]) zA0):PI X (.Tuple p_ x1 tp) (.Call (.Name "enumerate" p) [l] [] pos) (iEnS ta):=by
 intro pins s σ H R I h;refine Call_ (cS I hg hm PyProof.Rows.boot_enumerate (PyProof.Rows.callWith_type1 (thn (ha pos pins s σ H _ I h) λus s1 ⟨vs,H1,I1,r1,q1⟩=>?_) hs rfl));obtain⟨x,rfl,KO,q⟩:=q1;obtain⟨u,rfl,t,rfl⟩:=bQ r1;refine call_enumerate_str λh' he hit gt hk=>?_;have I2:Inv X pins σ H1 {s1 with heap:=h'}:=I1.kept (t':=s1.toks) hk;refine PX he ?_;have ne:s1.heap.objs.size+1≠s1.heap.objs.size:=GF _;have NU:strIterType x="str_ascii_iterator":=by unfold strIterType;rw[KO];rfl
 rw[NU] at hit;refine⟨s1.heap.objs.size+1,[s1.heap.objs.size+1,s1.heap.objs.size],_,_,H1,rfl,I2,yz x t _ _ ne,⟨⟨_,he⟩,hit⟩,λb hb=>?_,q⟩;rcases D2.mp hb with z|z
 .rw[z];exact I1.fpOk (EV _) (I1.hok.fresh (EV _))
 .rw[DY.mp z];exact I1.fpOk (DU _) (I1.hok.fresh (DU _))
end
end L2
namespace My
open Exc
section
variable {X:Cx}[J:Jm]{a b c e o:O_}{ta tb tc te to:TME}{pos:Pm}{st:Pb}{rest:List Pb}{t u:TMS}
def qJ{K:DR}{F:Hp}:∀ (is:List Nat) (ds:List D) (vs:List V) (z:SD),Reps K F ds vs->(∀ (i:Nat) d,z[i]?≠be (be (.own d)))->∀ (i:Nat) d,(aX is ds z)[i]?≠be (be (.own d))
 |[],_,_,z,_,h=>h
 |_::_,[],_,z,_,h=>h
 |i::is,d::ds,vs,z,r,h=>by
  obtain⟨v,vr,rfl,r1,r2⟩:=reps_cons.mp r;refine qJ is ds vr _ r2 λj q e=>?_;by_cases hj:i=j
  .subst hj;rw[Fo] at e;simp at e;have:=r1.noown;rw[e.2] at this;cases this
  .rw[Eh hj] at e;exact h j q e
def mItE(t:TME):TMI:=λz M R=>t z M λx M1=>match x with| .lst ds=>R ds M1|_=>False
def yD(t:TME):TMI:=λz M R=>t z M λx M1=>match x with| .str x=>x.cps.all (·<128)=true/\R (dE x) M1|_=>False
def qK(is:List Nat)(ti:TMI)(tb:TMS):TMS:=λE z M=>ti z M λds M1=>∃ W:Nat->SD->MS->Prop,W 0 z M1/\(∀ (k:Nat) x z M,ds[k]?=be x->W k z M->tb {E with nx:=W (k+1),ct:=W (k+1),bk:=E.nx} (aX is [.int k,x] z) M)/\∀ z M,W ds.length z M->E.nx z M
variable{is:List Nat}
def qL{K:DR}{F0 F1 H1:Hp}{z:SD}{s:L2.St}{M1:MS}{E:Ends}{ED:EndsM}{It':It}{g:TG}{tb:TMS}{tbv:TS}{ds:List D}(hK:K=X.K)(k1:Kept J.B F0 F1 H1)(s_:RepZ K J.B F1 H1 z s M1)(e:EndsOkM K F0 ED E)(a_:is.length=2)
  (go:∀ k F' H',Same F1 F'->Same F' H'->k<ds.length->It'.go k H') (stop:∀ F' H',Same F1 F'->Same F' H'->It'.stop ds.length H')
  (yld:∀ k F' H' x H'',Same F1 F'->Same F' H'->k<ds.length->It'.yld k H' x H''->∃ T d v,H' T=q_/\x= .ref T/\H''=upd H' T (.tup [.int k,v])/\ds[k]?=be d/\Rep K F' d v)
  (hg:∀ (dd:List D) (vs:List V) (T:KF) (z:SD) (s:L2.St) (F H:Hp) (Q:L2.St->Hp->Prop),dd.length=2->H T=be (.tup vs)->Reps K F dd vs->RepS K J.B F H z s->(∀ s',RepS K J.B F H (aX is dd z) s'->Q s' H)->g (.ref T) s H Q)
  (KP:∀ E s H,mS K tb E s H->tbv E s H)
  (hd:∃ W:Nat->SD->MS->Prop,W 0 z M1/\(∀ (k:Nat) x z M,ds[k]?=be x->W k z M->tb {ED with nx:=W (k+1),ct:=W (k+1),bk:=ED.nx} (aX is [.int k,x] z) M)/\∀ z M,W ds.length z M->ED.nx z M):
  ∃ W:Nat->Nat->L2.St->Hp->Prop,(∃ m,W 0 m s H1)/\∀ i m σ H,W i m σ H->
   (It'.stop i H/\E.nx σ H)\/(It'.go i H/\∃ N:L2.St->Hp->Prop,(∀ σ' H',N σ' H'->∃ m',m'<m/\W (i+1) m' σ' H')/\∀ x H',It'.yld i H x H'->g x σ H' λσ2 H2=>tbv {E with nx:=N,ct:=N,bk:=E.nx} σ2 H2):=by
 obtain⟨W,w0,b_,out⟩:=hd;refine⟨λk m s' H'=>m=ds.length - k/\k<=ds.length/\∃ F' z' M',Kept J.B F0 F' H'/\Same F1 F'/\RepZ K J.B F' H' z' s' M'/\W k z' M',⟨ds.length,by simp,Ej _,F1,z,M1,k1,Same.refl F1,s_,w0⟩,?_⟩;rintro k m s' H' ⟨rfl,hk,F',z',M',k',g',r',w'⟩;by_cases f6:k<ds.length
 .refine .inr ⟨go k F' H' g' k'.fh f6,λs3 H3=>∃ F3 z3 M3,Kept J.B F0 F3 H3/\Same F1 F3/\RepZ K J.B F3 H3 z3 s3 M3/\W (k+1) z3 M3,λs3 H3 h3=>⟨ds.length - (k+1),by lia,rfl,f6,h3⟩,λx H'' hy=>?_⟩;obtain⟨T,d,v,hT,rfl,rfl,hd,rd⟩:=yld k F' H' x H'' g' k'.fh f6 hy;have gn:=Grow.new k'.fh hT (.tup [.int k,v]);have k2:=k'.grow gn;have r2:=r'.growM k'.bh gn.toM (r'.rm.grow gn);have rp:Reps K (upd F' T (.tup [.int k,v])) [.int k,d] [.int k,v]:=reps_cons.mpr ⟨_,_,rfl,rep_int.mpr rfl,dX (rd.mono gn.ff)⟩;refine hg [.int k,d] _ T z' s' _ _ _ rfl aC rp r2.rs λs2 HR=>KP _ _ _ ?_;have gF:Same F1 (upd F' T (.tup [.int k,v])):=g'.trans gn.ff;refine⟨upd F' T (.tup [.int k,v]),upd F' T (.tup [.int k,v]),_,M',⟨k2.bh,k2.fh,Same.refl _,λb h1 _=>h1,k2.eb,k2.jf.trans k2.f0,λb h1 h2=>k2.out b (k2.jo b h1 h2) h2⟩,⟨HR,qJ is _ _ z' rp r2.no,r2.rm,r2.mb⟩,_,b_ k d z' M' hd w',?_⟩;have up:∀ {F3 H3:Hp},Kept J.B (upd F' T (.tup [.int k,v])) F3 H3->Kept J.B F0 F3 H3:=λk3=>⟨k3.bh,k3.fh,k2.f0.trans k3.f0,λb h1 h2=>k3.out b (k2.out b h1 h2) h2,k2.eb,k2.jf,k2.jo⟩;exact⟨λz3 s3 M3 F3 H3 k3 h3 r3=>⟨F3,z3,M3,up k3,gF.trans k3.f0,r3,h3⟩,λd v M3 F3 H3 k3=>e.rt d v M3 F3 H3 (up k3),λz3 s3 M3 F3 H3 k3=>e.nx z3 s3 M3 F3 H3 (up k3),λz3 s3 M3 F3 H3 k3 h3 r3=>⟨F3,z3,M3,up k3,gF.trans k3.f0,r3,h3⟩⟩
 .have ek:k=ds.length:=by lia
  subst ek;exact .inl ⟨stop F' H' g' k'.fh,e.nx z' s' M' F' H' k' (out z' M' w') r'⟩
variable{es:List O_}{body:List Pb}
def yF{x1:Nat}{tp p1 p2:Pm}{tb:TMS}(hp:PF (Pc X.prog X.w) X.A X.env X.xe)(hc:X.calm=true)(hm:X.mg "enumerate"=q_)(he:ME X e te)(hG:DGs X es is)(hb:MSs X body tb)(a_:autoParam (is.length=2) zA0)(hg:autoParam (Gl X "enumerate") zA0)
  (hn:autoParam ((Pk es X.env).length=2) zA0) (t5:autoParam ((Pk es X.env).findIdx? (·.1)=none) zA0)
  (hs:autoParam (∀ y,zFS X (.Call (.Name "enumerate" p1) [e] [] p2) y) zA2) (j7:autoParam (zSE X e []) zA0) (d_:autoParam (Pg [e] X.env=[(false,Pj e X.env)]) zA0):
  MSt X (.For (.Tuple es x1 tp) (.Call (.Name "enumerate" p1) [e] [] p2) body [] pos) (qK is (mItE te) tb):=by
 obtain⟨ug,I_,kk⟩:=hG;refine⟨(dq hp hc (qI hg hm (bg he.out pa_nil j7) d_) (fH hc I_ hn t5) hb.out hs).anti λE s H q=>?_⟩;obtain⟨F0,F,z,M,kp,rs,ED,h,e⟩:=q;refine⟨F,z,M,kp.kf,rs,_,h,λd v M1 F1 H1 g1 hd rd m1=>?_⟩;split at hd
 .rename_i ds;obtain⟨p,vs,rfl,hq,rr⟩:=rep_lst.mp rd;refine⟨p,rfl,⟨vs,SqL.of (g1.fh _ _ hq)⟩,qL (It':=Itel X.K p) rfl (kp.growM rs.mb g1) (rs.growM kp.bh g1 m1) e a_ (λk F' H' s1 s2 hk=>?_) (λF' H' s1 s2=>?_) (λk F' H' x H'' s1 s2 hk hy=>?_) (λdd p6 T z s F H Q hl hT rp G_ hQ=>?_) (λ_ _ _ h=>h) hd⟩
  .have s9:k<vs.length:=by rw[rr.length];exact hk
   exact⟨vs,vs[k],SqL.of (s2 _ _ (s1 _ _ hq)),by simp[s9]⟩
  .exact⟨vs,SqL.of (s2 _ _ (s1 _ _ hq)),by rw[rr.length];exact DU _⟩
  .obtain⟨T,v,hT,e1,e2,hv⟩:=hy;obtain⟨d,hd,rd⟩:=rr.get' (hv vs (SqL.of (s2 _ _ (s1 _ _ hq))));exact⟨T,d,v,hT,e1,e2,hd,rd.mono s1⟩
  .exact⟨T,p6,rfl,SqT.of hT,by rw[rp.length];exact hl,kk dd p6 z s J.B F H Q (by rw[hl,a_]) rp G_ hQ⟩
 .exact hd.elim
def yG{x1:Nat}{tp p1 p2:Pm}{tb:TMS}(hp:PF (Pc X.prog X.w) X.A X.env X.xe)(hc:X.calm=true)(hm:X.mg "enumerate"=q_)(he:ME X e te)(hG:DGs X es is)(hb:MSs X body tb)(a_:autoParam (is.length=2) zA0)(hg:autoParam (Gl X "enumerate") zA0)
  (hn:autoParam ((Pk es X.env).length=2) zA0) (t5:autoParam ((Pk es X.env).findIdx? (·.1)=none) zA0)
  (hs:autoParam (∀ y,zFS X (.Call (.Name "enumerate" p1) [e] [] p2) y) zA2) (j7:autoParam (zSE X e []) zA0) (d_:autoParam (Pg [e] X.env=[(false,Pj e X.env)]) zA0):
  MSt X (.For (.Tuple es x1 tp) (.Call (.Name "enumerate" p1) [e] [] p2) body [] pos) (qK is (yD te) tb):=by
 obtain⟨ug,I_,kk⟩:=hG;refine⟨(dq hp hc (yB hg hm (bg he.out pa_nil j7) d_) (fH hc I_ hn t5) hb.out hs).anti λE s H q=>?_⟩;obtain⟨F0,F,z,M,kp,rs,ED,h,e⟩:=q;refine⟨F,z,M,kp.kf,rs,_,h,λd v M1 F1 H1 g1 hd rd m1=>?_⟩;split at hd
 .rename_i x;obtain⟨ha,hd⟩:=hd;have hl:=qr x;refine⟨x,by rw[rep_str.mp rd],ha,qL (It':=Ites x) rfl (kp.growM rs.mb g1) (rs.growM kp.bh g1 m1) e a_ (λk F' H' s1 s2 hk=>?_) (λF' H' s1 s2=>?_) (λk F' H' x H'' s1 s2 hk hy=>?_) (λdd p6 T z s F H Q hl hT rp G_ hQ=>?_) (λ_ _ _ h=>h) hd⟩
  .rw[hl] at hk;exact hk
  .exact hl
  .obtain⟨T,c,hT,e1,e2,hc⟩:=hy;exact⟨T,.str ⟨#[c]⟩,.str ⟨#[c]⟩,hT,e1,e2,xJ hc,rep_str.mpr rfl⟩
  .exact⟨T,p6,rfl,SqT.of hT,by rw[rp.length];exact hl,kk dd p6 z s J.B F H Q (by rw[hl,a_]) rp G_ hQ⟩
 .exact hd.elim
end
end My
namespace L2
section
variable {prog:O9}{w:Pe}{K:Type}[DecidableEq K]{i_:HeapKind prog w K}{A:Pf}{E:KB->KM->Prop}{s:KM}{d a:KF}{k:K}{xs:List (K × KF × KB)}
def yH{v:KB}{Q:KB->KM->Prop}(hu:i_.room A)(m4:i_.is s.heap k a)(hm:s.heap.DictOfH i_ d xs)
  (h1:∀ p,Qn xs k=be p->Q p.2 {s with toks:=s.toks+i_.draws k})
  (h2:Qn xs k=q_->∀ h',h'.DictOfH i_ d (xs++[(k,a,v)])->Heap.SameBut d s.heap h'->Q v {s with heap:=h',toks:=s.toks+i_.draws k})
  (gt:xs.length<=sizeLine):Pd (Pc prog w) A (Qq d (.ref a) v) Q E s:=by
 obtain⟨o,es,ep,ho,hc,hd,he,Mo,hn⟩:=hm;unfold Qq
 try with_reducible refine Qs ?_
 refine Os (i_.pyHash hu m4 ?_);refine Os (wpAny_dictFind_heap (s:={s with toks:=s.toks+i_.draws k}) hu m4 ho hd he Mo hn ?_ ?_)
 .intro c_;have KQ:k ∉ xs.map (·.1):=not_mem_keys_of_get c_;refine Os (wpAny_rule (Os (wpAny_updateDictKeys (hz:=by have e:=size_of_entries he;lia) (s:={s with toks:=s.toks+i_.draws k}) ho hd (Pa (h2 (atKey_none_of_get c_) _ ⟨_,_,ep+1,Heap.get?_update_self _ ho (Obj.isFreed_of_dict (Obj.data_mapDictKeys hd _)),
   hc.mapDictKeys _,Obj.data_mapDictKeys hd _,?_,?_,?_⟩ (Heap.SameBut.update ..))))))
  .simp[he,entryOfKey]
  .intro x hx;rcases Et.mp hx with hx|hx
   .exact i_.keeps (Mo x hx) ho hd (Heap.SameBut.update ..)
   .simp only[DY] at hx;subst hx;exact i_.keeps m4 ho hd (Heap.SameBut.update ..)
  .rw[Ew,Fs];refine⟨hn,by simp,?_⟩;intro x hx y hy;simp only[Eb,EO,DY] at hy;subst hy;exact λe=>KQ (e ▸ hx)
 .intro j p hj;refine Os (wpAny_dictEntries (s:={s with toks:=s.toks+i_.draws k}) ho hd ?_);rw[entry_at he j,hj];exact Os (wpAny_rule (Pa (h1 p (atKey_of_get hn hj))))
def yI(i_:HeapKind prog w K)(d a:KF)(hd:(d==PB)=false)(v:KB):
  MeetsIn prog w (Builtin.«dict.setdefault» ⟨[.ref d,.ref a,v],[]⟩) (λA R s=>i_.room A.in1/\∃ k xs,i_.is s.heap k a/\s.heap.DictOfH i_ d xs/\xs.length<=sizeLine/\
   (∀ p,Qn xs k=be p->R (.ok (.ret p.2)) {s with toks:=s.toks+i_.draws k})/\
   (Qn xs k=q_->∀ h',h'.DictOfH i_ d (xs++[(k,a,v)])->Heap.SameBut d s.heap h'->R (.ok (.ret v)) {s with heap:=h',toks:=s.toks+i_.draws k})):=
 .of_wp λA R s hh=>by
  obtain⟨hu,k,xs,m4,hm,hz,h1,h2⟩:=hh;unfold Builtin.«dict.setdefault»;refine Os ?_;unfold Builtin.Dict.keyAndDefault;refine Os (wpAny_notOrdered_dict hm.typeIs ?_);show Pd _ _ (pure (d,Value.ref a,be v)) _ _ s;refine Pa ?_;show Pd _ _ (if(d==PB)=true then _ else(Qq d (.ref a) v>>=_)) _ _ s;rw[if_neg (by rw[hd];exact D6)];exact Os (yH hu m4 hm (λp hp=>Pa ⟨p.2,rfl,h1 p hp⟩) (λhn h' Kj HP=>Pa ⟨v,rfl,h2 hn h' Kj HP⟩) hz)
end
end L2
namespace My
open Exc
def lookD:List ((Int × Int) × Int)->Int->Int->Option Int
 |[],_,_=>q_
 |((a,b),h)::r,x,y=>if a=x/\b=y then be h else lookD r x y
def jL(x y:Int):∀ a8:List ((Int × Int) × Int),valV (dtiV a8) [.inl x,.inl y]=(lookD a8 x y).map V.int
 |[]=>rfl
 |((a,b),h)::r=>by
  show valV (([.inl a,.inl b],V.int h)::dtiV r) _=_;unfold lookD;by_cases e:a=x/\b=y
  .rw[if_pos e,jj (by rw[e.1,e.2])];rfl
  .rw[if_neg e,jk (λz=>e (by
    have z':([Sum.inl a,Sum.inl b]:List Key)=[.inl x,.inl y]:=z;injection z' with z1 z2;injection z2 with z2 _;exact⟨Sum.inl.inj z1,Sum.inl.inj z2⟩)),jL x y r]
def sdD(a8:List ((Int × Int) × Int))(x y v:Int):List ((Int × Int) × Int):=if(lookD a8 x y).isSome then a8 else a8++[((x,y),v)]
def yJ:V->List V->Hp->VK->Prop:=λx vs H Q=>∃ a b i j d a8,x= .ref a/\vs=[.ref b,.int d]/\H a=be (.dT (dtiV a8))/\H b=be (.tup [.int i,.int j])/\Q (.int ((lookD a8 i j).getD d)) H
def yL{X:Cx}(hu:X.A.units+1<Qg):MtR X "dict.get" yJ:=by
 intro pins s σ H x vs v us Q I rx rv h;obtain⟨a,b,i,j,d,a8,rfl,rfl,ha,hb,q⟩:=h;obtain⟨u,u',rfl,ru,rd⟩:=fM rv;cases(show v=Value.ref a from rx);refine wg hu I (DGet.t (k:=[.inl i,.inl j]) ha hb) ru rd λw' s' I' k7=>⟨.int ((lookD a8 i j).getD d),H,I',?_,q⟩;rw[jL] at k7;cases e:lookD a8 i j with
 |none=>rw[e] at k7;exact k7
 |some z=>rw[e] at k7;exact k7
def rSdT:V->List V->Hp->VK->Prop:=λx vs H Q=>∃ a b i j d a8,x= .ref a/\vs=[.ref b,.int d]/\H a=be (.dT (dtiV a8))/\H b=be (.tup [.int i,.int j])/\a8.length<100000/\∀ w,Q (.int w) (upd H a (.dT (dtiV (sdD a8 i j d))))
def yM{H:Hp}{a:KF}{o:HO}(h:H a=be o):upd H a o=H:=by
 funext b;by_cases e:b=a
 .subst e;rw[aC,h]
 .rw[au e]
def yO{X:Cx}(hu:X.A.units+1<Qg):MtR X "dict.setdefault" rSdT:=by
 intro pins s σ H x vs v us Q I rx rv h;obtain⟨a,b,i,j,d,a8,rfl,rfl,ha,hb,hl,q⟩:=h;obtain⟨u,u',rfl,ru,t,rfl⟩:=fM rv;cases(show v=Value.ref a from rx);cases(show u=Value.ref b from ru);obtain⟨z,hd,xs,Ht,dd⟩:=wa I.hok ha;have a_:xs.length=a8.length:=by rw[<- Paired.length Ht];simp[dtiV]
 have big:(100000:Nat)<sizeLine:=by decide
 have ge:H b=be (.tup (([.inl i,.inl j]:List Key).map kV)):=hb;have j5:=Ht.val [.inl i,.inl j];rw[jL] at j5;refine QB PySem.F.slot_dict_setdefault dd.typeIs PySem.F.entry_dict_setdefault (PySem.F.args_dict_setdefault_3 _ _ _) (yI (P0 (bF X.prog X.w)) a b hd (.int d t)) ⟨QM hu,[.inl i,.inl j],xs,key_of I.hok ge,dd,by lia,λp hp=>?_,λhn h' NV hs=>?_⟩
 .rw[hp] at j5;cases e:lookD a8 i j with
  |none=>rw[e] at j5;exact j5.elim
  |some w=>
   rw[e] at j5;have:=q w;unfold sdD at this;rw[e] at this;have e2:(if(be w:Option Int).isSome then a8 else a8++[((i,j),d)])=a8:=rfl;rw[e2,yM ha] at this;exact⟨.int w,H,I.tok _,j5,this⟩
 .rw[hn] at j5;cases e:lookD a8 i j with
  |some w=>rw[e] at j5;exact j5.elim
  |none=>
   have e2:sdD a8 i j d=a8++[((i,j),d)]:=by unfold sdD;rw[e];rfl
   have e3:dtiV (sdD a8 i j d)=dtiV a8++[([.inl i,.inl j],.int d)]:=by rw[e2];simp[dtiV]
   obtain⟨o,es,ep,ho,hx,h3,h4,_,h5⟩:=NV;have new:ObjOk X.prog X.w (upd H a (.dT (dtiV (sdD a8 i j d)))) h' a (.dT (dtiV (sdD a8 i j d))):=by
    refine⟨by rw[e3,D7];simp[dtiV];lia,hd,_,?_,o,es,ep,ho,hx,h3,h4,h5⟩;rw[e3];refine KT.keeps (H:=H) (Paired.snoc (a:=(([.inl i,.inl j]:List Key),V.int d)) (b:=(([.inl i,.inl j]:List Key),b,Value.int d t)) Ht ⟨rfl,ge,⟨t,rfl⟩⟩) λc ys ec=>?_;rw[au (sX ec ha (λz=>nomatch z))];exact ec
   exact⟨.int d,_,wb I (by rw[ha];exact True.intro) hs ⟨o,ho⟩ new,⟨t,rfl⟩,q d⟩
section
variable {X:Cx}[J:Jm]{a b c e o f:O_}{ta tb tc te to:TME}{pos apos cpos:Pm}{t:TMA}
def mD0:TME:=λ_ M R=>R (.dti []) M
def yQ:ME X (.Dict [] [] pos) mD0:=⟨pe_dnewT.anti λs H Q q=>by
 obtain⟨F,z,M,k,rs,R,h1,h2⟩:=q;intro p hp;have gn:=Grow.new k.fh hp (.dT []);exact h2 _ _ M _ _ gn.toM h1 (rep_dti.mpr ⟨p,rfl,aC⟩) (rs.rm.grow gn)⟩
def mDN:TME:=λ_ M R=>∀ p,p ∉ az M->R (.ptr p) ((p,.dti [])::M)
def yR:ME X (.Dict [] [] pos) mDN:=⟨pe_dnewT.anti λs H Q q=>by
 obtain⟨F,z,M,k,rs,R,h1,h2⟩:=q;intro p hp;exact h2 _ _ _ F _ (GrowM.new k.fh hp) (h1 p λz=>rs.rm.here z hp) (rep_ptr.mpr rfl) (rs.rm.new k.fh hp aC)⟩
def yS(to:TME)(t:TMA):TME:=λz M R=>to z M λd M1=>match d with| .dti a8=>(t z M1 λds M2=>match ds with|[.tup [.int i,.int j],.int x]=>R (.int ((lookD a8 i j).getD x)) M2|_=>False)|_=>False
def yT(hu:X.A.units+1<Qg)(ho:ME X o to)(ha:MA X [e,f] t)(b9:autoParam (Pi o "get" X.env (Pj o X.env)=Pj o X.env) zA0)
  (d9:autoParam (zHF X cpos [e,f]) zA0)
  (c7:autoParam ((apos.endLine==cpos.line)=true) zA0) (m8:autoParam (zSE X e [f]) zA0) (c5:autoParam (zPL X cpos [f]) zA0):
  ME X (.Call (.Attribute o "get" apos) [e,f] [] cpos) (yS to t):=⟨(dQ PySem.F.plainAttrs_dict PySem.F.slot_dict_get PySem.F.type_dict_get (yL hu) ho.out ha.out b9 d9 c7 m8 c5).anti λs H Q h=>by
 obtain⟨F,z,M,k,rs,R,h1,h2⟩:=h;refine⟨F,z,M,k,rs,_,h1,λx u M1 F1 H1 g1 hx rx m1=>?_⟩;split at hx
 .rename_i a8;obtain⟨p,rfl,hp⟩:=rep_dti.mp rx;refine⟨.inr (.inr (.inl ⟨rfl,.inr ⟨_,g1.fh _ _ hp⟩⟩)),?_⟩;refine⟨F1,z,M1,k.growM rs.mb g1,rs.growM k.bh g1 m1,_,hx,λds vs M2 F2 H2 g2 hd rd m2=>?_⟩;split at hd
  .rename_i i j x;obtain⟨v1,r1,rfl,q1,q2⟩:=reps_cons.mp rd;obtain⟨v2,r2,rfl,q3,q4⟩:=reps_cons.mp q2;rw[reps_nil.mp q4,rep_int.mp q3];obtain⟨b,us,rfl,hb,ru⟩:=rep_tupS.mp q1;have KR:us=[.int i,.int j]:=(Reps.ints (ns:=[i,j])).mp ru;subst KR;exact⟨p,b,i,j,x,a8,rfl,rfl,g2.fh _ _ (g2.ff _ _ hp),g2.fh _ _ hb,h2 _ _ M2 F2 H2 (g1.trans g2) hd (rep_int.mpr rfl) m2⟩
  .exact hd.elim
 .exact hx.elim⟩
def mDsd(to:TME)(t:TMA):TME:=λz M R=>to z M λd M1=>match d with| .ptr a=>(∃ a8,mget M1 a=be (.dti a8))/\(t z M1 λds M2=>match ds with|[.tup [.int i,.int j],.int x]=>∃ a8,mget M2 a=be (.dti a8)/\a8.length<100000/\∀ w,R (.int w) (mput M2 a (.dti (sdD a8 i j x)))|_=>False)|_=>False
def yU(hu:X.A.units+1<Qg)(ho:ME X o to)(ha:MA X [e,f] t)(b9:autoParam (Pi o "setdefault" X.env (Pj o X.env)=Pj o X.env) zA0)
  (d9:autoParam (zHF X cpos [e,f]) zA0)
  (c7:autoParam ((apos.endLine==cpos.line)=true) zA0) (m8:autoParam (zSE X e [f]) zA0) (c5:autoParam (zPL X cpos [f]) zA0):
  ME X (.Call (.Attribute o "setdefault" apos) [e,f] [] cpos) (mDsd to t):=⟨(dQ PySem.F.plainAttrs_dict PySem.F.slot_dict_setdefault PySem.F.type_dict_setdefault (yO hu) ho.out ha.out b9 d9 c7 m8 c5).anti λs H Q h=>by
 obtain⟨F,z,M,k,rs,R,h1,h2⟩:=h;refine⟨F,z,M,k,rs,_,h1,λx u M1 F1 H1 g1 hx rx m1=>?_⟩;split at hx
 .rename_i a;obtain⟨⟨OQ,KJ⟩,hx⟩:=hx;rw[rep_ptr.mp rx];refine⟨.inr (.inr (.inl ⟨rfl,.inr ⟨_,m1.ok _ _ (bS KJ)⟩⟩)),?_⟩;refine⟨F1,z,M1,k.growM rs.mb g1,rs.growM k.bh g1 m1,_,hx,λds vs M2 F2 H2 g2 hd rd m2=>?_⟩;split at hd
  .rename_i i j x;obtain⟨a8,hm,hl,hR⟩:=hd;obtain⟨v1,r1,rfl,q1,q2⟩:=reps_cons.mp rd;obtain⟨v2,r2,rfl,q3,q4⟩:=reps_cons.mp q2;rw[reps_nil.mp q4,rep_int.mp q3];obtain⟨b,us,rfl,hb,ru⟩:=rep_tupS.mp q1;have KR:us=[.int i,.int j]:=(Reps.ints (ns:=[i,j])).mp ru;subst KR;refine⟨a,b,i,j,x,a8,rfl,rfl,m2.ok _ _ (bS hm),g2.fh _ _ hb,hl,λw=>?_⟩;exact h2 _ _ _ F2 _ (g1.trans (g2.trans (GrowM.put g2.fh (m2.fr a (cy (bS hm))) hm))) (hR w) (rep_int.mpr rfl) (m2.put hm aC)
  .exact hd.elim
 .exact hx.elim⟩
end
section
variable {P:O9}{w:Pe}{K:DR}{mg:x9->Option KB}{base:Heap}
open Classical in
def Cls.okIM{x qual:x9}{st:Pb}{f C:KF}{fd:Ph}{N:List x9}{p0:x9}{ps:List x9}{k:Nat}{S:SiD}(T:Fun K "__init__" qual st f fd)(hb:Binds K fd (p0::ps) [])(F:FnScope N (p0::ps) (ah st))(len:∀ ds R,S ds R->ds.length=ps.length)
  (hns:nsIn K O8 x=be (be (.ref C))) (k8:mg x=be (.ref C)) (mk:Mk K C f)
  (a9:∀ (cdv:KB) (A:Pf) (outer:List PU) (s:KM) (H:Hp) (E:XK) (J:Jm),Room k (A.deeper (Pl qual (ah st) s.heap.objs.size f cdv))->XOkM (cxOf (CX1 P w) P w K mg base N qual (ah st) f cdv A outer s H E).nox->
   ∃ t,MSs (cxOf (CX1 P w) P w K mg base N qual (ah st) f cdv A outer s H E).nox (aK st) t/\∀ a ds R,(∀ z M x fs,¬ J.RM z M x fs)->S ds R->t {nx:=λ_ M'=>∃ fs,M'=[(a,.ins x fs)]/\R fs,rt:=λ_ _=>False} (startD N (.ptr a::ds)) [(a,.ins x [])]):CalM P w K mg base (k+1) x (p0::ps) S:=by
 refine⟨C,f,fd,hns,k8,mk,Fun.okC T F (λvs H Q E h=>?_) (λcdv A outer s H vs Q E hr h=>?_),hb⟩
 .obtain⟨a,dx,us,H1,F,ds,rfl,_,_,_,_,_,rs,R,h,_⟩:=h;rw[D0,D0,rs.length,len ds R h]
 .obtain⟨a,dx,us,H1,F1,ds,rfl,rfl,ha,t9,i9,fh,rs,R,h,q⟩:=h
  let H:Hp:=upd (upd H1 dx (.own a)) a (.ins C dx [])
  let B:Hp:=λb=>if b=a then q_ else H b
  have Mp:B a=none:=if_pos rfl;have hB:∀ {b:KF},b≠a->B b=H b:=λ{b} h=>if_neg h;have z9:∀ {b:KF} {o:HO},H1 b=be o->b≠a/\H b=be o:=λ{b o} e=>by
   have n1:b≠a:=bP e ha;exact⟨n1,by show upd _ _ _ b=_;rw[au n1,au (bP e t9)];exact e⟩
  letI:Jm:={B:=B,F0:=F1,RX:=λ_ _ _=>False,RM:=λ_ _ _ _=>False}
  have hx:XOkM (cxOf (CX1 P w) P w K mg base N qual (ah st) f cdv A outer s H E).nox:=λσ z M' F' H' s' e C od y fs I kk rr hR er _=>hR.elim;obtain⟨t,ht,hq⟩:=a9 cdv A outer s H E inferInstance hr hx;have Fa:F1 a=none:=fh.free ha;have k0:Kept B F1 F1 H:=⟨λb o e=>by
   by_cases n:b=a
   .rw[n,Mp] at e;cases e
   .rw[hB n] at e;exact e,λb o e=>(z9 (fh b o e)).2,Same.refl F1,λ_ h _=>h,rfl,Same.refl F1,λ_ h _=>h⟩
  have G_:Reps K F1 (.ptr a::ds) (.ref a::us):=reps_cons.mpr ⟨_,_,rfl,rep_ptr.mpr rfl,rs⟩;have NW:RepM K F1 H [(a,.ins x [])]:=⟨by simp[az],λb o hb=>by
   have e:=DY.mp hb;cases e;exact⟨C,dx,[],hns,aC,repf_nil.mpr rfl⟩,λb hb=>by
   have e:b=a:=by simpa[az] using hb
   rw[e];exact Fa⟩
  have r0:RepZ K B F1 H (startD N (.ptr a::ds)) (L2.start N (.ref a::us)) [(a,.ins x [])]:=⟨dR G_,qG G_,NW,λb hb=>by
   have e:b=a:=by simpa[az] using hb
   rw[e];exact Mp⟩
  refine⟨_,ht.out.nox,F1,F1,_,_,k0,r0,_,hq a ds R (λ_ _ _ _ z=>z) h,⟨λz' s' M' F' H' kk hn r=>?_,λd v M' F' H' kk hd rd Mn mb=>hd.elim,λ_ _ _ _ _ _ h _=>h.elim,λ_ _ _ _ _ _ h _=>h.elim⟩⟩;obtain⟨fs,rfl,hR⟩:=hn;obtain⟨C',z8,ws,j6,f7,rf⟩:=r.rm.ok a _ (DY.mpr rfl);have w9:nsIn K O8 x=be (be (.ref C')):=j6;rw[hns] at w9;cases w9;exact q fs ws z8 F' H' ⟨kk.f0,kk.fh,λb o e=>kk.bh b o (by show B b=be o;rw[hB (z9 e).1];exact(z9 e).2),λb h1 h2=>kk.out b h1 (by
   show B b≠q_;cases e:H1 b with
   |none=>exact absurd e h2
   |some o=>rw[hB (z9 e).1,(z9 e).2];exact λz=>nomatch z)⟩ hR f7 (r.rm.fr a (by simp[az])) rf
end
section
variable {P:O9}{w:Pe}{K:DR}{mg:x9->Option KB}{base:Heap}{n:Nat}{x m:x9}{ps:List x9}
variable{S:SpM}
def CalMth.one(h:CalMth P w K mg base n x m ps (lSpM K S)):∀ y,y∈[x]->CalMth P w K mg base n y m ps (lSpM K ((λ_=>S) y)):=λy hy=>by
 rw[DY.mp hy];exact h
def qM{f:KF}{fd:Ph}{sp:Sp}(h:∀ vs H Q E,¬ sp vs H Q E):FnOk P w K mg base (CX1 P w) n f fd ps sp:=⟨λvs H Q E q=>(h _ _ _ _ q).elim,λA outer s H args us vs Q E _ _ _ _ q=>(h _ _ _ _ q).elim⟩
def qN(h:∀ ds M R RX,¬ S ds M R RX):∀ vs H Q E,¬ lSpM K S vs H Q E:=by
 rintro vs H Q E ⟨F,ds,M,_,_,_,R,RX,q,_⟩;exact h ds M R RX q
def CalMth.never{qual:x9}{st:Pb}(T:Txm K x m qual st ps)(h:∀ ds M R RX,¬ S ds M R RX):CalMth P w K mg base n x m ps (lSpM K S):=by
 obtain⟨C,f,fd,h1,h2,h3,T,hb⟩:=T;exact⟨C,f,fd,h1,h2,h3,qM (qN h),hb⟩
def CalMM.never{st:Pb}(T:Tx K mg x st ps)(h:∀ ds M R RX,¬ S ds M R RX):CalMM P w K mg base n x ps S:=by
 obtain⟨f,fd,T,hb,hm⟩:=T;exact⟨f,fd,qM (qN h),hb,T.kp,hm⟩
end
def jM(S:SpM):SpM:=λds M R RX=>∃ M1 M2,M=M1++M2/\S ds M2 (λd M'=>R d (M1++M')) λx fs M'=>RX x fs (M1++M')
def keys_app{M1 M2:MS}{a:KF}:a∈az (M1++M2)↔a∈az M1\/a∈az M2:=by unfold az;rw[Ew,Et]
def qO{K:DR}{S:SpM}{vs:List V}{H:Hp}{Q:VK}{E:XK}(h:lSpM K (jM S) vs H Q E):lSpM K S vs H Q E:=by
 obtain⟨F,ds,M,fh,rs,rm,R,RX,⟨M1,M2,rfl,hS⟩,q,qx⟩:=h;have nd:(az M1++az M2).Nodup:=by have:=rm.nd;unfold az at this ⊢;rw[Ew] at this;exact this
 have KS:∀ {a:KF},a∈az M1->a ∉ az M2:=λ{a} h1 h2=>(Fs.mp nd).2.2 a h1 a h2 rfl;have NX:RepM K F H M2:=⟨(Fs.mp nd).2.1,λa o h=>rm.ok a o (Ed _ h),λa h=>rm.fr a (keys_app.mpr (.inr h))⟩;have up:∀ {M':MS} {F' H':Hp},GrowM M2 M' F H F' H'->RepM K F' H' M'->GrowM (M1++M2) (M1++M') F H F' H'/\RepM K F' H' (M1++M'):=λ{M' F' H'} g r=>by
  have u6:∀ {a:KF},a∈az M1->H a≠none:=λ{a} h=>rm.here (keys_app.mpr (.inl h));have KU:∀ {a:KF},a∈az M1->a ∉ az M':=λ{a} h1 h2=>by
   rcases g.ks a h2 with z|z
   .exact KS h1 z
   .exact u6 h1 z
  refine⟨⟨g.ff,g.fh,λb o nb e=>g.hh b o (λz=>nb (keys_app.mpr (.inr z))) e,λb nb h1 h2=>g.out b (λz=>nb (keys_app.mpr (.inr z))) h1 h2,λb hb=>?_⟩,⟨?_,λa o h=>?_,λa h=>?_⟩⟩
  .rcases keys_app.mp hb with z|z
   .exact .inl (keys_app.mpr (.inl z))
   .exact(g.ks b z).imp (λz=>keys_app.mpr (.inr z)) id
  .unfold az;rw[Ew];exact Fs.mpr ⟨(Fs.mp nd).1,r.nd,λa h1 b h2 e=>KU h1 (e ▸ h2)⟩
  .rcases Et.mp h with z|z
   .have ka:a∈az M1:=cy z;exact(rm.ok a o (Fy _ z)).mono g.ff λo e=>g.hh a o (KS ka) e
   .exact r.ok a o z
  .rcases keys_app.mp h with z|z
   .exact g.out a (KS z) (rm.fr a (keys_app.mpr (.inl z))) (u6 z)
   .exact r.fr a z
 exact⟨F,ds,M2,fh,rs,NX,_,_,hS,λd v M' F' H' g hd rd m'=>q d v _ F' H' (up g m').1 hd rd (up g m').2,λx fs C od M' F' H' g hR er m'=>qx x fs C od _ F' H' (up g m').1 hR er (up g m').2⟩
section
variable {P:O9}{w:Pe}{K:DR}{mg:x9->Option KB}{base:Heap}{n:Nat}{x m:x9}{ps:List x9}{S:SpM}
def CalMM.frame(C:CalMM P w K mg base n x ps S):CalMM P w K mg base n x ps (jM S):=C.imp λ_ _ _ _ h=>qO h
def CalMth.frame(C:CalMth P w K mg base n x m ps (lSpM K S)):CalMth P w K mg base n x m ps (lSpM K (jM S)):=C.imp λ_ _ _ _ h=>qO h
end
def nilX(S:SpX):SpM:=λds M R RX=>M=[]/\∃ (R0:D->Prop) (A':XD),S ds R0 A'/\(∀ d M',R0 d->R d M')/\∀ x fs M',A' x fs->RX x fs M'
def CalMM.nilX{P:O9}{w:Pe}{K:DR}{mg:x9->Option KB}{base:Heap}{n:Nat}{x:x9}{ps:List x9}{S:SpX}(C:CalMM P w K mg base n x ps (nilX S)):CalX P w K mg base n x ps S:=C.toX λ_ R RX h=>⟨rfl,R,RX,h,λ_ _ h=>h,λ_ _ _ h=>h⟩
end My
namespace My
section
variable {K:DR}{h:Heap}{mg:x9->Option KB}{x y m q f:x9}{st:Pb}{ps:List x9}
abbrev NsC(K:DR)(x:x9)(C:KF):Prop:=nsIn K O8 x=be (be (.ref C))
variable{C:KF}
def NsC.uniq{D:KF}(a:NsC K x C)(b:NsC K x D):C=D:=by
 have e:=a.symm.trans b;cases e;rfl
abbrev BindA(x q:x9)(st:Pb)(ps:List x9):Prop:=∀ (kV doc pm:KB) (an:Option KF) (cdv ct:KB) (us:List KB),us.length=ps.length->PR (fnOf x q (bG st) (aK st) (ah st) .none kV doc pm an cdv ct) ⟨us,[]⟩=pure (ps.zip us)
def FnIn(K:DR)(x:x9)(st:Pb):Prop:=∃ f fd,NsC K x f/\Fun K x x st f fd
variable{oc kV dc pm cd ct:KB}{od an:Option KF}{sl:Array (Option KB)}
def fnIn_mk{f:KF}(a:nsIn K O8 x=be (be (.ref f)))(l:K.lookup f=be ⟨oc,od,.func (fnOf x x (bG st) (aK st) (ah st) .none kV dc pm an cd ct),sl⟩)(c:codeIn K cd x=true)(k:keepIn K (.ref f)=true):FnIn K x st:=⟨f,_,a,fR l c k⟩
def FnIn.tx(T:FnIn K x st)(X:K.In h)(G:h.Ns O8 mg)(b:BindA x x st ps):Tx K mg x st ps:=by
 obtain⟨f,fd,a,F⟩:=T;exact⟨f,fd,F,F.binds b,mg_of X G a⟩
def FnIn.law{p:x9}(T:FnIn K x st)(X:K.In h)(G:h.Ns O8 mg){fa:KF}(IT:mg x=be (.ref fa))(b:∀ (kV doc pm:KB) (an:Option KF) (cdv ct v:KB),PR (fnOf x x (bG st) (aK st) (ah st) .none kV doc pm an cdv ct) ⟨[v],[]⟩=pure [(p,v)]):∃ fd,(∀ (s:KM) (v:KB),Qi s fd ⟨[v],[]⟩ [(p,v)])/\Fun K x x st fa fd:=by
 obtain⟨f,fd,a,F⟩:=T;have e:=IT.symm.trans (mg_of X G a);cases e;refine⟨fd,λs v=>?_,F⟩;obtain⟨oc,od,kV,doc,pm,an,cdv,ct,osl,rfl,lk,g6⟩:=F.ex;exact .of_eq (b _ _ _ _ _ _ v)
variable{us:List KB}
def bK{x:x9}{xs:List x9}(h:us.length=(x::xs).length):∃ u t,us=u::t/\t.length=xs.length:=by
 cases us with
 |nil=>cases h
 |cons u t=>exact⟨u,t,rfl,Nat.succ.inj h⟩
def len_0(h:us.length=([]:List x9).length):us=[]:=F5 h
variable{x0:x9}
def yV(b:∀ (kV doc pm:KB) (an:Option KF) (cdv ct u0:KB),PR (fnOf x q (bG st) (aK st) (ah st) .none kV doc pm an cdv ct) ⟨[u0],[]⟩=pure [(x0,u0)]):BindA x q st [x0]:=λkV doc pm an cdv ct us hl=>by
 obtain⟨u0,t0,rfl,h0⟩:=bK hl;cases len_0 h0;exact b kV doc pm an cdv ct u0
variable{x1:x9}
def bind2(b:∀ (kV doc pm:KB) (an:Option KF) (cdv ct u0 u1:KB),PR (fnOf x q (bG st) (aK st) (ah st) .none kV doc pm an cdv ct) ⟨[u0,u1],[]⟩=pure [(x0,u0),(x1,u1)]):BindA x q st [x0,x1]:=λkV doc pm an cdv ct us hl=>by
 obtain⟨u0,t0,rfl,h0⟩:=bK hl;obtain⟨u1,t1,rfl,h1⟩:=bK h0;cases len_0 h1;exact b kV doc pm an cdv ct u0 u1
variable{x2:x9}
def bind3(b:∀ (kV doc pm:KB) (an:Option KF) (cdv ct u0 u1 u2:KB),PR (fnOf x q (bG st) (aK st) (ah st) .none kV doc pm an cdv ct) ⟨[u0,u1,u2],[]⟩=pure [(x0,u0),(x1,u1),(x2,u2)]):BindA x q st [x0,x1,x2]:=λkV doc pm an cdv ct us hl=>by
 obtain⟨u0,t0,rfl,h0⟩:=bK hl;obtain⟨u1,t1,rfl,h1⟩:=bK h0;obtain⟨u2,t2,rfl,h2⟩:=bK h1;cases len_0 h2;exact b kV doc pm an cdv ct u0 u1 u2
def bind4{x3:x9}(b:∀ (kV doc pm:KB) (an:Option KF) (cdv ct u0 u1 u2 u3:KB),PR (fnOf x q (bG st) (aK st) (ah st) .none kV doc pm an cdv ct) ⟨[u0,u1,u2,u3],[]⟩=pure [(x0,u0),(x1,u1),(x2,u2),(x3,u3)]):BindA x q st [x0,x1,x2,x3]:=λkV doc pm an cdv ct us hl=>by
 obtain⟨u0,t0,rfl,h0⟩:=bK hl;obtain⟨u1,t1,rfl,h1⟩:=bK h0;obtain⟨u2,t2,rfl,h2⟩:=bK h1;obtain⟨u3,t3,rfl,h3⟩:=bK h2;cases len_0 h3;exact b kV doc pm an cdv ct u0 u1 u2 u3
def bind5{x3 x4:x9}(b:∀ (kV doc pm:KB) (an:Option KF) (cdv ct u0 u1 u2 u3 u4:KB),PR (fnOf x q (bG st) (aK st) (ah st) .none kV doc pm an cdv ct) ⟨[u0,u1,u2,u3,u4],[]⟩=pure [(x0,u0),(x1,u1),(x2,u2),(x3,u3),(x4,u4)]):BindA x q st [x0,x1,x2,x3,x4]:=λkV doc pm an cdv ct us hl=>by
 obtain⟨u0,t0,rfl,h0⟩:=bK hl;obtain⟨u1,t1,rfl,h1⟩:=bK h0;obtain⟨u2,t2,rfl,h2⟩:=bK h1;obtain⟨u3,t3,rfl,h3⟩:=bK h2;obtain⟨u4,t4,rfl,h4⟩:=bK h3;cases len_0 h4;exact b kV doc pm an cdv ct u0 u1 u2 u3 u4
structure ClF(K:DR)(x:Str)(C:KF):Prop where
 ns:NsC K x C
 cl:Cls K C
 ha:D3 K (.ref C) "__class__"=be (be (.builtin "object.__class__"))
 hn:specialIn K (.builtin "object.__class__") "__get__"=be (be (.builtin "getset_descriptor.__get__"))
 ht:takesIn K (.builtin "object.__class__")=be true
 hm:E6 K C (.type "object")=be true
def ClIn(K:DR)(x:x9):Prop:=∃ C,ClF K x C
def clIn_mk(a:nsIn K O8 x=be (be (.ref C)))(pg:plainGet K C Str.empty=true)(hd:hasDictIn K C=true)(po:plainOver K C=true)(sa:D3 K (.ref C) "__setattr__"=be (be (.builtin "object.__setattr__")))
  (ha:D3 K (.ref C) "__class__"=be (be (.builtin "object.__class__"))) (hn:specialIn K (.builtin "object.__class__") "__get__"=be (be (.builtin "getset_descriptor.__get__"))) (ht:takesIn K (.builtin "object.__class__")=be true) (hm:E6 K C (.type "object")=be true):ClIn K x:=⟨C,a,⟨pg,hd,po,sa⟩,ha,hn,ht,hm⟩
def ClIn.i(c:ClIn K x)(X:K.In h)(G:h.Ns O8 mg):∃ C,ClsI K mg x C:=by
 obtain⟨C,k⟩:=c;exact⟨C,k.ns,mg_of X G k.ns,k.cl,k.ha,k.hn,k.ht,k.hm,xC⟩
def NoIn(K:DR)(x f:x9):Prop:=∃ C,NsC K x C/\D3 K (.ref C) f=be q_
def noIn_mk(a:nsIn K O8 x=be (be (.ref C)))(b:D3 K (.ref C) f=be q_):NoIn K x f:=⟨C,a,b⟩
def ClIn.a(c:ClIn K x)(n:NoIn K x f):ClsA K x f:=by
 obtain⟨C,k⟩:=c;obtain⟨D,a,b⟩:=n;cases NsC.uniq k.ns a;exact⟨C,a,k.cl,b⟩
def NoIn.all(n:NoIn K x f):∀ C,nsIn K O8 x=be (be (.ref C))->D3 K (.ref C) f=be none:=λC hC=>by
 obtain⟨D,a,b⟩:=n;cases NsC.uniq hC a;exact b
def MtIn(K:DR)(x m q:x9)(st:Pb):Prop:=∃ C f fd,NsC K x C/\Meth K C m f/\Fun K m q st f fd
def mtIn_mk{f:KF}(a:nsIn K O8 x=be (be (.ref C)))(b:D3 K (.ref C) m=be (be (.ref f)))(i:isFn K (.ref f)=true)(l:K.lookup f=be ⟨oc,od,.func (fnOf m q (bG st) (aK st) (ah st) .none kV dc pm an cd ct),sl⟩)(c:codeIn K cd q=true)(k:keepIn K (.ref f)=true):MtIn K x m q st:=⟨C,f,_,a,⟨b,i,k⟩,fR l c k⟩
def MtIn.txm(T:MtIn K x m q st)(c:ClIn K x)(b:BindA m q st ps):Txm K x m q st ps:=by
 obtain⟨C,k⟩:=c;obtain⟨D,f,fd,a,mt,F⟩:=T;cases NsC.uniq k.ns a;exact⟨C,f,fd,a,k.cl,mt,F,F.binds b⟩
def InIn(K:DR)(x q:x9)(st:Pb):Prop:=∃ C f fd,NsC K x C/\Mk K C f/\Fun K "__init__" q st f fd
def inIn_mk{f:KF}(a:nsIn K O8 x=be (be (.ref C)))(mk:makesIn K C=true)(b:D3 K (.ref C) "__init__"=be (be (.ref f)))(i:isFn K (.ref f)=true)(kp:keepIn K (.ref C)=true)(l:K.lookup f=be ⟨oc,od,.func (fnOf "__init__" q (bG st) (aK st) (ah st) .none kV dc pm an cd ct),sl⟩)(c:codeIn K cd q=true)(k:keepIn K (.ref f)=true):InIn K x q st:=⟨C,f,_,a,⟨mk,b,i,kp⟩,fR l c k⟩
def Txi(K:DR)(mg:x9->Option KB)(x q:x9)(st:Pb)(ps:List x9):Prop:=∃ C f fd,NsC K x C/\mg x=be (.ref C)/\Mk K C f/\Fun K "__init__" q st f fd/\Binds K fd ps []
def InIn.txi(T:InIn K x q st)(X:K.In h)(G:h.Ns O8 mg)(b:BindA "__init__" q st ps):Txi K mg x q st ps:=by
 obtain⟨C,f,fd,a,mk,F⟩:=T;exact⟨C,f,fd,a,mg_of X G a,mk,F,F.binds b⟩
def CiIn(K:DR)(x:x9)(i:Int):Prop:=∃ t,nsIn K O8 x=be (be (.int i t))
def CsIn(K:DR)(x y:x9):Prop:=∃ t,nsIn K O8 x=be (be (.str y t))
def ciIn_mk{i:Int}{t:Tok}(a:nsIn K O8 x=be (be (.int i t))):CiIn K x i:=⟨t,a⟩
def csIn_mk{t:Tok}(a:nsIn K O8 x=be (be (.str y t))):CsIn K x y:=⟨t,a⟩
def CiIn.g{i:Int}(c:CiIn K x i)(X:K.In h)(G:h.Ns O8 mg):∃ t,mg x=be (.int i t):=let ⟨t,a⟩:=c;⟨t,mg_of X G a⟩
def CsIn.g(c:CsIn K x y)(X:K.In h)(G:h.Ns O8 mg):∃ t,mg x=be (.str y t):=let ⟨t,a⟩:=c;⟨t,mg_of X G a⟩
def NnIn(K:DR)(x:x9):Prop:=nsIn K O8 x=be q_
def nnIn_mk(a:nsIn K O8 x=be q_):NnIn K x:=a
structure ErF(K:DR)(x:Str)(bm:List KB)(C N:KF):Prop where
 ns:NsC K x C
 kp:keepIn K (.ref C)=true
 ob:∃ nm q bs sn sub ab col dd k0 k1 k2 k3 k5,K.lookup C=be (PC nm q C N bs bm true sn sub ab col dd k0 k1 k2 k3 k5 "ValueError.__new__")
structure ErN(K:DR)(N:KF):Prop where
 ok:nsOkIn K N=true
 no:nsIn K N "__init__"=be q_
def EbIn(K:DR):Prop:=∃ C N,ErF K "MotifError" Exc.veLine C N/\ErN K N
def EdIn(K:DR)(x:x9)(C N:KF):Prop:=∃ B,NsC K "MotifError" B/\ErF K x (.ref B::Exc.veLine) C N
def E0In(K:DR)(x:x9):Prop:=∃ C N,EdIn K x C N/\ErN K N
def E1In(K:DR)(x q:x9)(st:Pb):Prop:=∃ C N f fd,EdIn K x C N/\D3 K (.ref C) "__init__"=be (be (.ref f))/\isFn K (.ref f)=true/\Fun K "__init__" q st f fd
def EaIn(K:DR)(x:x9):Prop:=∃ C,NsC K x C/\D3 K (.ref C) "__setattr__"=be (be (.builtin "object.__setattr__"))
def EgIn(K:DR)(x:x9):Prop:=∃ C,NsC K x C/\D3 K (.ref C) "__getattribute__"=be (be (.builtin "BaseException.__getattribute__"))/\D3 K (.ref C) "__getattr__"=be q_
def EiIn(K:DR)(x:x9):Prop:=∃ M,NsC K x M/\readsIn K M (.type "type")=true/\findCls K (.ref M) (.type "type") "__init__"=be (.val (.builtin "ValueError.__init__"))/\specialIn K (.ref M) "__getattribute__"=be (be (.builtin "type.__getattribute__"))
section
variable {B C D N:KF}{nm qn:x9}{bs:List KB}{sn:List x9}{sub:List KB}{ab:Bool}{col:Option Bool}{dd:Option KF}{k0 k1 k2 k3 k5:Option KB}{nc:KB}{nd:Option KF}{ne:Array DictEntry}{np:Nat}{nl:Array (Option KB)}
def ebIn_mk(a:nsIn K O8 "MotifError"=be (be (.ref C)))(kp:keepIn K (.ref C)=true)(o:K.lookup C=be (PC nm qn C N bs Exc.veLine true sn sub ab col dd k0 k1 k2 k3 k5 "ValueError.__new__"))(nk:K.lookup N=be ⟨nc,nd,.dict ne np,nl⟩)(al:ne.toList.all (λe=>match e.key with| .str _ _=>true|_=>false)=true)(ni:nsIn K N "__init__"=be q_):EbIn K:=⟨C,N,⟨a,kp,_,_,_,_,_,_,_,_,_,_,_,_,_,o⟩,qp nk al,ni⟩
def e0In_mk(b:nsIn K O8 "MotifError"=be (be (.ref B)))(a:nsIn K O8 x=be (be (.ref C)))(kp:keepIn K (.ref C)=true)(o:K.lookup C=be (PC nm qn C N bs (.ref B::Exc.veLine) true sn sub ab col dd k0 k1 k2 k3 k5 "ValueError.__new__"))(nk:K.lookup N=be ⟨nc,nd,.dict ne np,nl⟩)(al:ne.toList.all (λe=>match e.key with| .str _ _=>true|_=>false)=true)(ni:nsIn K N "__init__"=be q_):E0In K x:=⟨C,N,⟨B,b,a,kp,_,_,_,_,_,_,_,_,_,_,_,_,_,o⟩,qp nk al,ni⟩
def e1In_mk{f:KF}{oc:KB}{od an:Option KF}{sl:Array (Option KB)}{kV dc pm cd ct:KB}(b:nsIn K O8 "MotifError"=be (be (.ref B)))(a:nsIn K O8 x=be (be (.ref C)))(kp:keepIn K (.ref C)=true)(o:K.lookup C=be (PC nm qn C N bs (.ref B::Exc.veLine) true sn sub ab col dd k0 k1 k2 k3 k5 "ValueError.__new__"))
  (j:D3 K (.ref C) "__init__"=be (be (.ref f))) (i:isFn K (.ref f)=true) (l:K.lookup f=be ⟨oc,od,.func (fnOf "__init__" q (bG st) (aK st) (ah st) .none kV dc pm an cd ct),sl⟩) (c:codeIn K cd q=true) (k:keepIn K (.ref f)=true):E1In K x q st:=⟨C,N,f,_,⟨B,b,a,kp,_,_,_,_,_,_,_,_,_,_,_,_,_,o⟩,j,i,fR l c k⟩
def eaIn_mk(a:nsIn K O8 x=be (be (.ref C)))(b:D3 K (.ref C) "__setattr__"=be (be (.builtin "object.__setattr__"))):EaIn K x:=⟨C,a,b⟩
def eiIn_mk(a:nsIn K O8 x=be (be (.ref C)))(b:readsIn K C (.type "type")=true)(c:findCls K (.ref C) (.type "type") "__init__"=be (.val (.builtin "ValueError.__init__")))(d:specialIn K (.ref C) "__getattribute__"=be (be (.builtin "type.__getattribute__"))):EiIn K x:=⟨C,a,b,c,d⟩
end
def EbIn.k(e:EbIn K)(X:K.In h)(G:h.Ns O8 mg):∃ C N bm,ErrK K mg "MotifError" C N bm/\ErrN K N:=by
 obtain⟨C,N,k,n⟩:=e;exact⟨C,N,_,⟨k.ns,mg_of X G k.ns,k.kp,k.ob,qo⟩,n.ok,n.no⟩
def EdIn.k{N:KF}(e:EdIn K x C N)(b:EbIn K)(X:K.In h)(G:h.Ns O8 mg):∃ bm,ErrK K mg x C N bm:=by
 obtain⟨B,hB,k⟩:=e;obtain⟨B',N',kb,n⟩:=b;cases NsC.uniq kb.ns hB;obtain⟨_,_,_,_,_,_,_,_,_,_,_,_,_,o⟩:=kb.ob;exact⟨_,k.ns,mg_of X G k.ns,k.kp,k.ob,xB o rfl n.ok n.no⟩
def E0In.k(e:E0In K x)(b:EbIn K)(X:K.In h)(G:h.Ns O8 mg):∃ C N bm,ErrK K mg x C N bm/\ErrN K N:=by
 obtain⟨C,N,k,n⟩:=e;obtain⟨bm,z⟩:=k.k b X G;exact⟨C,N,bm,z,n.ok,n.no⟩
def Txe(K:DR)(mg:x9->Option KB)(x q:x9)(st:Pb)(ps:List x9):Prop:=∃ C N bm f fd,ErrK K mg x C N bm/\D3 K (.ref C) "__init__"=be (be (.ref f))/\isFn K (.ref f)=true/\Fun K "__init__" q st f fd/\Binds K fd ps []
def E1In.txe(e:E1In K x q st)(b:EbIn K)(X:K.In h)(G:h.Ns O8 mg)(bi:BindA "__init__" q st ps):Txe K mg x q st ps:=by
 obtain⟨C,N,f,fd,k,i,j,F⟩:=e;obtain⟨bm,z⟩:=k.k b X G;exact⟨C,N,bm,f,fd,z,i,j,F,F.binds bi⟩
def ErrK.a'{N:KF}{bm:List KB}(k:ErrK K mg x C N bm)(a:EaIn K x):∃ C cd,ErrA K x C cd:=by
 obtain⟨D,hD,sa⟩:=a;cases NsC.uniq k.ns hD;exact⟨C,k.a sa⟩
def E1In.a(e:E1In K x q st)(b:EbIn K)(a:EaIn K x)(X:K.In h)(G:h.Ns O8 mg):∃ C cd,ErrA K x C cd:=by
 obtain⟨C,N,f,fd,k,_⟩:=e;obtain⟨bm,z⟩:=k.k b X G;exact z.a' a
def E1In.c(e:E1In K x q st)(b:EbIn K)(X:K.In h)(G:h.Ns O8 mg):∃ C N bm,ErrK K mg x C N bm:=by
 obtain⟨C,N,f,fd,k,_⟩:=e;obtain⟨bm,z⟩:=k.k b X G;exact⟨C,N,bm,z⟩
def EiIn.b(e:EiIn K x)(X:K.In h)(G:h.Ns O8 mg):∃ M,BaseK K mg x M:=by
 obtain⟨M,a,b,c,d⟩:=e;exact⟨M,mg_of X G a,b,c,d⟩
def EgIn.g(e:EgIn K x)(a:∃ C cd,ErrA K x C cd)(n:NoIn K x f):ErrG K f x:=by
 obtain⟨C,h1,h2,h3⟩:=e;obtain⟨D,cd,ea⟩:=a;cases NsC.uniq ea.ns h1;exact⟨C,cd,ea,h2,h3,n.all C h1⟩
def AllP(p:x9->Prop):List x9->Prop
 |[]=>True
 |a::l=>p a/\AllP p l
def AllP.mem{p:x9->Prop}:∀ {l:List x9},AllP p l->∀ x∈l,p x
 |_::_,h,_,.head _=>h.1
 |_::_,h,_,.tail _ m=>AllP.mem h.2 _ m
end
structure Bx where
 P:O9
 w:Pe
 K:DR
 mg:x9->Option KB
 base:Heap
abbrev Bx.T(V:Bx)(x:x9)(st:Pb)(ps:List x9):Prop:=Tx V.K V.mg x st ps
abbrev Bx.Tm(V:Bx)(x m q:x9)(st:Pb)(ps:List x9):Prop:=Txm V.K x m q st ps
abbrev Bx.Ti(V:Bx)(x q:x9)(st:Pb)(ps:List x9):Prop:=Txi V.K V.mg x q st ps
abbrev Bx.Te(V:Bx)(x q:x9)(st:Pb)(ps:List x9):Prop:=Txe V.K V.mg x q st ps
abbrev Bx.m(V:Bx)(x:x9):Prop:=V.mg x=q_
abbrev Bx.gi(V:Bx)(x:x9)(i:Int):Prop:=∃ t,V.mg x=be (.int i t)
abbrev Bx.gs(V:Bx)(x y:x9):Prop:=∃ t,V.mg x=be (.str y t)
abbrev Bx.a(V:Bx)(x f:x9):Prop:=ClsA V.K x f
abbrev Bx.i(V:Bx)(x:x9):Prop:=∃ C,ClsI V.K V.mg x C
abbrev Bx.D(V:Bx)(n:Nat)(x:x9)(ps:List x9)(S:SpD):Prop:=CalD V.P V.w V.K V.mg V.base n x ps S
abbrev Bx.X(V:Bx)(n:Nat)(x:x9)(ps:List x9)(S:SpX):Prop:=CalX V.P V.w V.K V.mg V.base n x ps S
abbrev Bx.MM(V:Bx)(n:Nat)(x:x9)(ps:List x9)(S:SpM):Prop:=CalMM V.P V.w V.K V.mg V.base n x ps S
abbrev Bx.M(V:Bx)(n:Nat)(x:x9)(ps:List x9)(S:SiD):Prop:=CalM V.P V.w V.K V.mg V.base n x ps S
abbrev Bx.E(V:Bx)(n:Nat)(x:x9)(ps:List x9)(S:SiD):Prop:=CalE V.P V.w V.K V.mg V.base n x ps S
abbrev Bx.Q(V:Bx)(n:Nat)(x m:x9)(ps:List x9)(S:SpM):Prop:=CalMth V.P V.w V.K V.mg V.base n x m ps (lSpM V.K S)
abbrev Bx.n(V:Bx)(x:x9):Prop:=∃ C N bm,ErrK V.K V.mg x C N bm/\ErrN V.K N
abbrev Bx.b(V:Bx)(x:x9):Prop:=∃ M,BaseK V.K V.mg x M
abbrev Bx.ea(V:Bx)(x:x9):Prop:=∃ C cd,ErrA V.K x C cd
abbrev Bx.xf(V:Bx)(x f:x9):Prop:=∀ C,nsIn V.K O8 x=be (be (.ref C))->D3 V.K (.ref C) f=be q_
abbrev Bx.x(V:Bx)(f:x9)(ys:List x9):Prop:=∀ y∈ys,ErrG V.K f y
section
variable {P:O9}{w:Pe}{K:DR}{mg:x9->Option KB}{base:Heap}
variable{x qual p0:x9}{st:Pb}{N ps:List x9}{k:Nat}{S:SiD}
def Txi.okI(T:Txi K mg x qual st (p0::ps))(F:FnScope (p0::N) (p0::ps) (ah st))(len:∀ ds R,S ds R->ds.length=ps.length)
  (a9:∀ (f:KF) (cdv:KB) (A:Pf) (outer:List PU) (s:KM) (H:Hp) (E:XK) (J:Jx),Room k (A.deeper (Pl qual (ah st) s.heap.objs.size f cdv))->
   ∃ t,WDI (cxOf (Exc.CX1 P w) P w K mg base (p0::N) qual (ah st) f cdv A outer s H E).nox x (aK st) t/\∀ ds R,S ds R->t (q_::startD N ds) [] R):CalM P w K mg base (k+1) x (p0::ps) S:=by
 obtain⟨C,f,fd,a,b,c,d,e⟩:=T;exact Cls.okIW d e F len a b c (a9 f)
def Txi.okIM(T:Txi K mg x qual st (p0::ps))(F:FnScope N (p0::ps) (ah st))(len:∀ ds R,S ds R->ds.length=ps.length)
  (a9:∀ (f:KF) (cdv:KB) (A:Pf) (outer:List PU) (s:KM) (H:Hp) (E:XK) (J:Jm),Room k (A.deeper (Pl qual (ah st) s.heap.objs.size f cdv))->XOkM (cxOf (Exc.CX1 P w) P w K mg base N qual (ah st) f cdv A outer s H E).nox->
   ∃ t,MSs (cxOf (Exc.CX1 P w) P w K mg base N qual (ah st) f cdv A outer s H E).nox (aK st) t/\∀ a ds R,(∀ z M x fs,¬ J.RM z M x fs)->S ds R->t {nx:=λ_ M'=>∃ fs,M'=[(a,.ins x fs)]/\R fs,rt:=λ_ _=>False} (startD N (.ptr a::ds)) [(a,.ins x [])]):CalM P w K mg base (k+1) x (p0::ps) S:=by
 obtain⟨C,f,fd,a,b,c,d,e⟩:=T;exact Cls.okIM d e F len a b c (a9 f)
def Txe.okE(T:Txe K mg x qual st (p0::ps))(F:FnScope (p0::N) (p0::ps) (ah st))(len:∀ ds R,S ds R->ds.length=ps.length)
  (a9:∀ (f:KF) (cdv:KB) (A:Pf) (outer:List PU) (s:KM) (H:Hp) (E:XK) (J:Jx),Room k (A.deeper (Pl qual (ah st) s.heap.objs.size f cdv))->
   ∃ t,WDX (cxOf (Exc.CX1 P w) P w K mg base (p0::N) qual (ah st) f cdv A outer s H E).nox x (aK st) t/\∀ ds R,S ds R->t (q_::startD N ds) [] R):CalE P w K mg base (k+1) x (p0::ps) S:=by
 obtain⟨C,N',bm,f,fd,a,b,c,d,e⟩:=T;exact Cls.okEW d e F len a b c (a9 f)
end
section
variable {X:Cx}[J:Jx]{a b c e o f8 iter:O_}{es:List O_}{ta tb tc te to ti tj:TD}{tt:TDT}{t:TDA}{pos px:Pm}{x:x9}{scope:PH}
variable{K:DR}
def itR2:ItOk K (oz (fO (lE K ti) (fO (lE K tj) tNil))) (qi ti tj):=λ{s H B F z P Q} kf rs h1 h2=>by
 refine⟨B,F,z,kf,rs,_,h1,λd1 v1 F1 H1 g1 h1 r1=>?_⟩;refine⟨B,F1,z,kf.grow g1,rs.grow g1,_,h1,λd2 v2 F2 H2 g2 hd r2=>?_⟩;split at hd
 .rename_i lo td;obtain⟨bd,hd⟩:=hd;have hl:((DV (td - lo).toNat).map λk=>D.int (lo+((k:Nat):Int))).length=(td - lo).toNat:=by simp
  refine⟨lo,td,by rw[rep_int.mp r1,rep_int.mp r2],bd,h2 _ _ F2 H2 (g1.trans g2) hd ⟨λk F' H' G hk=>by rw[hl] at hk;exact hk,λk F' H' x H'' G hk hy=>?_,λF' H' G=>by show(td - lo).toNat<=_;rw[hl];exact DU _⟩⟩;rw[hl] at hk;obtain⟨e,rfl⟩:=hy;exact⟨e,.int (lo+(k:Int)),by simp[hk],rep_int.mpr rfl⟩
 .exact hd.elim
def qP(hc:X.calm=true)(S:CompScope X scope x)(hi:WDE X iter ti)(hq:∀ cl s₀ H₀ fp,WDT (bI X scope cl x s₀ H₀ fp) c tt)(he:∀ cl s₀ H₀ fp,WDE (bI X scope cl x s₀ H₀ fp) f8 te)(hs:autoParam (∀ y,zFS X iter y) zA2):
  WDE X (.ListComp f8 [⟨.Name x px,iter,[c],0⟩] scope pos) (pZ (dItL ti) tt te):=⟨(pe_comp hc S (iZ hi.out) (λa b c d=>qa (hq a b c d).out) (λa b c d=>(he a b c d).out) hs).anti λs H Q q=>gk (λ_ _ _=>cmpF.g) itL q⟩
def yY{p1 p2:Pm}(hc:X.calm=true)(S:CompScope X scope x)(hm:X.mg "range"=q_)(ha:WDE X a ti)(hb:WDE X b tj)(hq:∀ cl s₀ H₀ fp,WDT (bI X scope cl x s₀ H₀ fp) c tt)(he:∀ cl s₀ H₀ fp,WDE (bI X scope cl x s₀ H₀ fp) f8 te)(hg:autoParam (Gl X "range") zA0)
  (hs:autoParam (∀ y,zFS X (.Call (.Name "range" p1) [a,b] [] p2) y) zA2) (j7:autoParam (zSE X a [b]) zA0) (HC:autoParam (zSE X b []) zA0) (d_:autoParam (Pg [a,b] X.env=[(false,Pj a X.env),(false,Pj b X.env)]) zA0) (HD:autoParam (Pg [b] X.env=[(false,Pj b X.env)]) zA0):
  WDE X (.ListComp f8 [⟨.Name x px,.Call (.Name "range" p1) [a,b] [] p2,[c],0⟩] scope pos) (pZ (qi ti tj) tt te):=⟨(pe_comp hc S (tV hg hm (bg ha.out (bg hb.out pa_nil HC) j7) d_ HD) (λa b c d=>qa (hq a b c d).out) (λa b c d=>(he a b c d).out) hs).anti λs H Q q=>gk (λ_ _ _=>cmpF.g) itR2 q⟩
def DK(ix:Nat)(HQ:TDI)(te:TD):TSD:=λE z=>HQ z (cmpP te z λd=>match d with| .lst ys=>E.nx (z.set ix (be (.own ys)))|_=>False)
def intsAre_of:∀ {ns:List Int} {us:List KB},Vals (ns.map V.int) us->Qh us ns:=by
 intro ns;induction ns with
 |nil=>intro us h;cases h;exact .nil
 |cons n ns e=>
  intro us h;cases h with
  |cons r t=>
   obtain⟨_,rfl⟩:=r;exact .cons _ _ (e t)
def yZ(hc:X.calm=true):bz X (.builtin "min") (λxs H Q=>∃ (p:KF) (ns:List Int),xs=[.ref p]/\SqL X.K H p (ns.map V.int)/\0<ns.length/\∀ m,m∈ns->(∀ a∈ns,m<=a)->Q (.int m) H):=by
 intro pins s σ H xs us Q I r h;obtain⟨p,ns,rfl,hq,i9,q⟩:=h;obtain⟨u,rfl,rx⟩:=bQ r;cases rx;obtain⟨its,r',pl,hz⟩:=I.list hq;have hi:=intsAre_of r';have hl:=pl.isList;obtain⟨xs,e⟩:=hi.allInts.items;have hns:ns=xs.toList.map (·.1):=by rw[<- hi.numsOf,<- nums_intItems,<- e]
 have gt:0<xs.size:=by
  have h3:=i9;rw[hns,DZ,E4] at h3;exact h3
 rw[e] at hl;refine min_intList (I.ok.hd hc) hl gt λv h' tk hv hk=>?_;obtain⟨t,rfl⟩:=intItems_at hv;obtain⟨h1,h2⟩:=argBest_lt (numAt xs) (xs.size - 1);refine⟨.int _,H,I.kept hk,⟨t,rfl⟩,q _ ?_ λa ha=>?_⟩
 .rw[hns,numAt_eq];exact getD_mem (by rw[DZ,E4];lia)
 .rw[hns] at ha;obtain⟨j,hj,rfl⟩:=mem_getD ha;rw[DZ,E4] at hj;rw[<- numAt_eq];exact h2 j (by lia)
def rdMinL:RDn:=λds R=>match ds with|[.lst xs]=>∃ ns:List Int,xs=ns.map D.int/\0<ns.length/\∀ m,m∈ns->(∀ a∈ns,m<=a)->R (.int m)|_=>False
def za:ci K (λxs H Q=>∃ (p:KF) (ns:List Int),xs=[.ref p]/\SqL K H p (ns.map V.int)/\0<ns.length/\∀ m,m∈ns->(∀ a∈ns,m<=a)->Q (.int m) H) rdMinL:=by
 intro ds vs F H R Q fh h rx q;unfold rdMinL at h;split at h
 .obtain⟨ns,rfl,hl,h⟩:=h;obtain⟨v,r,rfl,h1,h2⟩:=reps_cons.mp rx;rw[reps_nil.mp h2];obtain⟨a,us,rfl,hq,rs⟩:=rep_lst.mp h1;rw[Reps.ints.mp rs] at hq;exact⟨a,ns,rfl,fh.seq (SqL.of hq),hl,λm h1 h2=>q _ _ F H (Grow.refl fh) (h m h1 h2) (rep_int.mpr rfl)⟩
 .exact h.elim
def qQ{p:Pm}(hc:X.calm=true)(hm:X.mg "min"=q_)(ha:WDA X [e] t)(hg:autoParam (Gl X "min") zA0)(he:autoParam (zSE X e []) zA0)(c5:autoParam (zPL X pos []) zA0):WDE X (.Call (.Name "min" p) [e] [] pos) (dCB rdMinL t):=⟨fW (yZ hc) za hm PyProof.Rows.boot_min ha.out hg (by decide) (by decide) he c5⟩
def rdTuple:RDn:=λds R=>match ds with|[.lst xs]=>R (.tup xs)|[.tup xs]=>R (.tup xs)|_=>False
def zb:ci K (λxs H Q=>∃ p ys,xs=[.ref p]/\((SqL K H p ys/\∀ l,H l=q_->Q (.ref l) (upd H l (.tup ys)))\/(SqT K H p ys/\Q (.ref p) H))) rdTuple:=by
 intro ds vs F H R Q fh h rx q;unfold rdTuple at h;split at h
 .obtain⟨v,r,rfl,h1,h2⟩:=reps_cons.mp rx;rw[reps_nil.mp h2];obtain⟨a,us,rfl,hq,rs⟩:=rep_lst.mp h1;exact⟨a,us,rfl,.inl ⟨fh.seq (SqL.of hq),λl hl=>q _ _ _ _ (Grow.new fh hl _) h (rep_tupS.mpr ⟨l,us,rfl,aC,rs.mono (aT (fh.free hl) _)⟩)⟩⟩
 .obtain⟨v,r,rfl,h1,h2⟩:=reps_cons.mp rx;rw[reps_nil.mp h2];obtain⟨a,us,rfl,hq,rs⟩:=rep_tup_mp h1;exact⟨a,us,rfl,.inr ⟨fh.tup hq,q _ _ F H (Grow.refl fh) h h1⟩⟩
 .exact h.elim
def zc{p:Pm}(hm:X.mg "tuple"=q_)(ha:WDA X [e] t)(hg:autoParam (Gl X "tuple") zA0)(he:autoParam (zSE X e []) zA0):WDE X (.Call (.Name "tuple" p) [e] [] pos) (dCB rdTuple t):=⟨gc vO zb hm PyProof.Rows.boot_tuple ha.out hg (by decide) (by decide) he⟩
def zd(is:List Nat)(ti:TDI)(tb:TSD):TSD:=λE z=>ti z λds=>∃ W:Nat->SD->Prop,W 0 z/\(∀ (k:Nat) x z,ds[k]?=be x->W k z->tb {E with nx:=W (k+1),ct:=W (k+1),bk:=E.nx} (aX is [.int k,x] z))/\∀ z,W ds.length z->E.nx z
variable{is:List Nat}
def ze{B F0 F1 H1:Hp}{z:SD}{s:L2.St}{E:Ends}{ED:EndsD}{It':It}{g:TG}{tb:TSD}{tbv:TS}{ds:List D}(k1:Kept B F0 F1 H1)(s_:RepS K B F1 H1 z s)(e:EndsOk K B F0 ED E)
  (go:∀ k F' H',Same F1 F'->Same F' H'->k<ds.length->It'.go k H') (stop:∀ F' H',Same F1 F'->Same F' H'->It'.stop ds.length H')
  (yld:∀ k F' H' x H'',Same F1 F'->Same F' H'->k<ds.length->It'.yld k H' x H''->∃ T d v,H' T=q_/\x= .ref T/\H''=upd H' T (.tup [.int k,v])/\ds[k]?=be d/\Rep K F' d v)
  (hg:∀ (dd:List D) (vs:List V) (T:KF) (z:SD) (s:L2.St) (F H:Hp) (Q:L2.St->Hp->Prop),dd.length=2->H T=be (.tup vs)->Reps K F dd vs->RepS K B F H z s->(∀ s',RepS K B F H (aX is dd z) s'->Q s' H)->g (.ref T) s H Q)
  (KP:∀ E s H,lS K tb E s H->tbv E s H)
  (hd:∃ W:Nat->SD->Prop,W 0 z/\(∀ (k:Nat) x z,ds[k]?=be x->W k z->tb {ED with nx:=W (k+1),ct:=W (k+1),bk:=ED.nx} (aX is [.int k,x] z))/\∀ z,W ds.length z->ED.nx z):
  ∃ W:Nat->Nat->L2.St->Hp->Prop,(∃ m,W 0 m s H1)/\∀ i m σ H,W i m σ H->
   (It'.stop i H/\E.nx σ H)\/(It'.go i H/\∃ N:L2.St->Hp->Prop,(∀ σ' H',N σ' H'->∃ m',m'<m/\W (i+1) m' σ' H')/\∀ x H',It'.yld i H x H'->g x σ H' λσ2 H2=>tbv {E with nx:=N,ct:=N,bk:=E.nx} σ2 H2):=by
 obtain⟨W,w0,b_,out⟩:=hd;refine⟨λk m s' H'=>m=ds.length - k/\k<=ds.length/\∃ F' z',Kept B F0 F' H'/\Same F1 F'/\RepS K B F' H' z' s'/\W k z',⟨ds.length,by simp,Ej _,F1,z,k1,Same.refl F1,s_,w0⟩,?_⟩;rintro k m s' H' ⟨rfl,hk,F',z',k',g',r',w'⟩;by_cases f6:k<ds.length
 .refine .inr ⟨go k F' H' g' k'.fh f6,λs3 H3=>∃ F3 z3,Kept B F0 F3 H3/\Same F1 F3/\RepS K B F3 H3 z3 s3/\W (k+1) z3,λs3 H3 h3=>⟨ds.length - (k+1),by lia,rfl,f6,h3⟩,λx H'' hy=>?_⟩;obtain⟨T,d,v,hT,rfl,rfl,hd,rd⟩:=yld k F' H' x H'' g' k'.fh f6 hy;have gn:=Grow.new k'.fh hT (.tup [.int k,v]);have k2:=k'.grow gn;have rp:Reps K (upd F' T (.tup [.int k,v])) [.int k,d] [.int k,v]:=reps_cons.mpr ⟨_,_,rfl,rep_int.mpr rfl,dX (rd.mono gn.ff)⟩;refine hg [.int k,d] _ T z' s' _ _ _ rfl aC rp (r'.grow gn) λs2 HR=>KP _ _ _ ?_;have gF:Same F1 (upd F' T (.tup [.int k,v])):=g'.trans gn.ff;refine⟨B,upd F' T (.tup [.int k,v]),upd F' T (.tup [.int k,v]),_,⟨k2.bh,k2.fh,Same.refl _,λb h1 _=>h1,k2.eb,k2.jf.trans k2.f0,λb h1 h2=>k2.out b (k2.jo b h1 h2) h2⟩,HR,_,b_ k d z' hd w',?_⟩;have up:∀ {F3 H3:Hp},Kept B (upd F' T (.tup [.int k,v])) F3 H3->Kept B F0 F3 H3:=λk3=>⟨k3.bh,k3.fh,k2.f0.trans k3.f0,λb h1 h2=>k3.out b (k2.out b h1 h2) h2,k2.eb,k2.jf,k2.jo⟩;exact⟨λz3 s3 F3 H3 k3 h3 r3=>⟨F3,z3,up k3,gF.trans k3.f0,r3,h3⟩,λd v F3 H3 k3=>e.rt d v F3 H3 (up k3),λz3 s3 F3 H3 k3=>e.nx z3 s3 F3 H3 (up k3),λz3 s3 F3 H3 k3 h3 r3=>⟨F3,z3,up k3,gF.trans k3.f0,r3,h3⟩⟩
 .have ek:k=ds.length:=by lia
  subst ek;exact .inl ⟨stop F' H' g' k'.fh,e.nx z' s' F' H' k' (out z' w') r'⟩
def zf{es:List O_}{x1:Nat}{tp p1 p2:Pm}{body:List Pb}{tb:TSD}(hp:PF (Pc X.prog X.w) X.A X.env X.xe)(hc:X.calm=true)(hm:X.mg "enumerate"=q_)(he:WDE X e te)(hG:DGs X es is)(hb:WDSs X body tb)(a_:autoParam (is.length=2) zA0)(hg:autoParam (Gl X "enumerate") zA0)
  (hn:autoParam ((Pk es X.env).length=2) zA0) (t5:autoParam ((Pk es X.env).findIdx? (·.1)=none) zA0)
  (hs:autoParam (∀ y,zFS X (.Call (.Name "enumerate" p1) [e] [] p2) y) zA2) (j7:autoParam (zSE X e []) zA0) (d_:autoParam (Pg [e] X.env=[(false,Pj e X.env)]) zA0):
  WDS X (.For (.Tuple es x1 tp) (.Call (.Name "enumerate" p1) [e] [] p2) body [] pos) (zd is (dItL te) tb):=by
 obtain⟨ug,I_,kk⟩:=hG;refine⟨(dq hp hc (qI hg hm (bg he.out pa_nil j7) d_) (fH hc I_ hn t5) hb.out hs).anti λE s H q=>?_⟩;obtain⟨B,F0,F,z,kp,rs,ED,h,e⟩:=q;refine⟨B,F,z,kp.kf,rs,_,h,λd v F1 H1 g1 hd rd=>?_⟩;have key:∀ (ds:List D) (p:KF) (vs:List V),SqL X.K F1 p vs->Reps X.K F1 ds vs->(∃ W:Nat->SD->Prop,W 0 z/\(∀ (k:Nat) x z,ds[k]?=be x->W k z->tb {ED with nx:=W (k+1),ct:=W (k+1),bk:=ED.nx} (aX is [.int k,x] z))/\∀ z,W ds.length z->ED.nx z)->_:=λds p vs hq rr hd=>
  ze (It':=Itel X.K p) (g:=gTup X.K 2 ug) (tbv:=lS X.K tb) (E:=E) (kp.grow g1) (rs.grow g1) e (λk F' H' s1 s2 hk=>⟨vs,vs[k]'(by rw[rr.length];exact hk),s2.seq (s1.seq hq),by simp[rr.length,hk]⟩) (λF' H' s1 s2=>⟨vs,s2.seq (s1.seq hq),by rw[rr.length];exact DU _⟩) (λk F' H' x H'' s1 s2 hk hy=>by
   obtain⟨T,v,hT,e1,e2,hv⟩:=hy;obtain⟨d,hd,rd⟩:=rr.get' (hv vs (s2.seq (s1.seq hq)));exact⟨T,d,v,hT,e1,e2,hd,rd.mono s1⟩) (λdd p6 T z s F H Q hl hT rp G_ hQ=>⟨T,p6,rfl,SqT.of hT,by rw[rp.length];exact hl,kk dd p6 z s B F H Q (by rw[hl,a_]) rp G_ hQ⟩) (λ_ _ _ h=>h) hd
 split at hd
 .obtain⟨p,vs,rfl,hq,rr⟩:=rep_lst.mp rd;exact⟨p,rfl,⟨vs,g1.fh.seq (SqL.of hq)⟩,key _ p vs (SqL.of hq) rr hd⟩
 .obtain⟨p,vs,rfl,hq,rr⟩:=rep_rol.mp rd;exact⟨p,rfl,⟨vs,g1.fh.seq hq⟩,key _ p vs hq rr hd⟩
 .exact hd.elim
def rdIsB(f:Bool->Bool):RD2:=λx y R=>match x,y with| .bl i,.bl j=>R (.bl (f (decide (i=j))))|_,_=>False
def zg:OpR X (Pp .IsNot) (λx y H Q=>∃ i j,x= .bl i/\y= .bl j/\Q (.bl (!decide (i=j))) H):=by
 intro pins s σ H x y v u Q I rx ry h;obtain⟨i,j,rfl,rfl,q⟩:=h;cases rx;cases ry;exact wpAny_isNot_plain rfl (aN I q (by cases i<;>cases j<;>rfl))
def lifts_notB:aW K (λx y H Q=>∃ i j,x= .bl i/\y= .bl j/\Q (.bl (!decide (i=j))) H) (rdIsB not):=by
 intro x y u v F H R Q fh h rx ry q;unfold rdIsB at h;split at h
 .exact⟨_,_,rep_bl.mp rx,rep_bl.mp ry,q _ _ F H (Grow.refl fh) h (rep_bl.mpr rfl)⟩
 .exact h.elim
def zh[Jx](ha:WDE X a ta)(hb:WDE X b tb):WDT X (.Compare a [.IsNot] [b] pos) (dTst (dOp (rdIsB not) ta tb)):=⟨have ha:=ha.out;have hb:=hb.out;du zg lifts_notB ha hb (nomark _)⟩
def jN:∀ {xs:List V},xs.all bp=true->eqVs xs xs=true
 |[],_=>rfl
 |x::xs,h=>by
  rw[EI,Ek] at h;rw[eqVs,jN h.2,FF];cases x<;>first|rfl|(simp[eqV];done)|exact absurd (show false=true from h.1) D6
variable{H:Hp}
def zi{pins:List (KF × Pu)}{s:KM}{σ:L2.St}{A:Pf}(I:Inv X pins σ H s)(hu:A.units<Qg){a b:KF}{xs ys:List V}(h:(SqT X.K H a xs/\SqT X.K H b ys)\/(SqL X.K H a xs/\SqL X.K H b ys))(fx:xs.all bp=true)(fy:ys.all bp=true):SeqAt.EqAt A s (.ref a) (.ref b) (eqVs xs ys):=by
 rcases h with⟨h,h'⟩|⟨h,h'⟩
 .by_cases e:a=b
  .subst e;rw[I.tuple_inj h h',jN fy];exact SeqAt.EqAt.same _
  .obtain⟨its,r1,p1,_⟩:=I.tuple h;obtain⟨d7,r2,p2,_⟩:=I.tuple h';refine SeqAt.EqAt.of_refs e ?_;have:=SeqAt.RcAt.tuples (A:=A) (e:=λj=>eqV (xs.getD j .non) (ys.getD j .non)) p1 p2 hu (λj h1 h2=>by
    rw[D1] at h1 h2;simp only[FG];exact eqAt_V (Vals.getD r1 h1) (Vals.getD r2 h2) (flat_getD fx) (flat_getD fy))
   rw[D1,D1,<- L2.Vals.length r1,<- L2.Vals.length r2] at this;rwa [<- fX]
 .by_cases e:a=b
  .subst e;rw[I.list_inj h h',jN fy];exact SeqAt.EqAt.same _
  .obtain⟨its,r1,p1,_⟩:=I.list h;obtain⟨d7,r2,p2,_⟩:=I.list h';refine SeqAt.EqAt.of_refs e ?_;have l1:=L2.Vals.length r1;have l2:=L2.Vals.length r2;by_cases hl:its.length=d7.length
   .have:=SeqAt.RcAt.lists (A:=A) (e:=λj=>eqV (xs.getD j .non) (ys.getD j .non)) p1.isList p2.isList (by rw[D1,D1,hl]) hu (λj h1 h2=>by
     rw[D1] at h1 h2;simp only[FG];exact eqAt_V (Vals.getD r1 h1) (Vals.getD r2 h2) (flat_getD fx) (flat_getD fy))
    rw[D1,<- l1] at this;have e2:=fX xs ys;rw[show min xs.length ys.length=xs.length by lia,show(xs.length==ys.length)=true by rw[l1,l2,hl];exact beq_self_eq_true _,FF] at e2;rwa [<- e2]
   .have:=SeqAt.RcAt.lists_lengths (A:=A) p1.isList p2.isList (by rw[D1,D1];simpa using hl) hu;have e2:=fX xs ys;rw[show(xs.length==ys.length)=false by rw[l1,l2];simpa using hl,Gp] at e2;rwa [<- e2]
def EqE(K:DR)(H:Hp)(x y:V)(b:Bool):Prop:=(bp x=true/\bp y=true/\b=eqV x y)\/∃ a a' xs ys,x= .ref a/\y= .ref a'/\((SqT K H a xs/\SqT K H a' ys)\/(SqL K H a xs/\SqL K H a' ys))/\xs.all bp=true/\ys.all bp=true/\b=eqVs xs ys
def rEqN(K:DR):R2:=λx y H Q=>∃ (a b:KF) (xs ys:List V) (es:List Bool),x= .ref a/\y= .ref b/\((SqT K H a xs/\SqT K H b ys)\/(SqL K H a xs/\SqL K H b ys))/\xs.length=ys.length/\es.length=xs.length/\(∀ j,j<xs.length->EqE K H (xs.getD j .non) (ys.getD j .non) (es.getD j true))/\Q (.bl (es.all id)) H
def qR{es:List Bool}{n:Nat}(h:es.length=n):(DV n).all (λj=>es.getD j true)=es.all id:=by
 subst h;induction es with
 |nil=>rfl
 |cons e es ih=>
  rw[D0,Gx,EI,FY,EI,<- ih];rfl
def zj(hu:X.A.units+1<Qg):OpR X (Pp .Eq) (rEqN X.K):=by
 intro pins s σ H x y v u Q I rx ry h;obtain⟨a,b,xs,ys,es,rfl,rfl,hs,hl,he,hE,q⟩:=h;cases rx;cases ry;have el:∀ {its d7:List KB},Vals xs its->Vals ys d7->∀ j (h1:j<its.length) (h2:j<d7.length),SeqAt.EqAt X.A.in1 s its[j] d7[j] (es.getD j true):=λ{its d7} r1 r2 j h1 h2=>by
  have g1:=Vals.getD r1 h1;have g2:=Vals.getD r2 h2;rcases hE j (by rw[L2.Vals.length r1];exact h1) with⟨f1,f2,e⟩|⟨a,a',OR,OS,e1,e2,hq,f1,f2,e⟩
  .rw[e];exact eqAt_V g1 g2 f1 f2
  .rw[e1] at g1;rw[e2] at g2;have g1:its[j]= .ref a:=g1;have g2:d7[j]= .ref a':=g2;rw[e,g1,g2];exact zi I hu hq f1 f2
 rcases hs with⟨ha,hb⟩|⟨ha,hb⟩
 .obtain⟨its,r1,p1,_⟩:=I.tuple ha;obtain⟨d7,r2,p2,_⟩:=I.tuple hb;refine SeqAt.eq_tupleAt (e:=λj=>es.getD j true) p1 p2 (by lia) (λj h1 h2=>?_) ⟨.bl (es.all id),H,I,?_,q⟩
  .rw[D1] at h1 h2;simp only[FG];exact el r1 r2 j h1 h2
  .rw[D1,D1,<- L2.Vals.length r1,<- L2.Vals.length r2,<- hl,Nat.min_self,qR he,beq_self_eq_true,FF];rfl
 .obtain⟨its,r1,p1,_⟩:=I.list ha;obtain⟨d7,r2,p2,_⟩:=I.list hb;have l1:=L2.Vals.length r1;have l2:=L2.Vals.length r2;refine SeqAt.eq_listAt (e:=λj=>es.getD j true) p1.isList p2.isList (by rw[D1,D1];lia) (by lia) (λj h1 h2=>?_) ⟨.bl (es.all id),H,I,?_,q⟩
  .rw[D1] at h1 h2;simp only[FG];exact el r1 r2 j h1 h2
  .rw[D1,<- l1,qR he];rfl
def sh2(x y:D):Bool:=(bj x && bj y)||match x,y with| .tup a,.tup b=>a.all bj && b.all bj| .lst a,.lst b=>a.all bj && b.all bj|_,_=>false
def eq2(x y:D):Bool:=match x,y with| .tup a,.tup b=>eqFs a b| .lst a,.lst b=>eqFs a b|x,y=>eqF x y
def EqE.of{F:Hp}(fh:Same F H){x y:D}{u v:V}(rx:Rep K F x u)(ry:Rep K F y v)(h:sh2 x y=true):EqE K H u v (eq2 x y):=by
 unfold sh2 at h;rw[Bool.or_eq_true,Ek] at h;rcases h with⟨f1,f2⟩|h
 .refine .inl ⟨dW rx f1,dW ry f2,?_⟩;rw[js rx ry f1 f2];unfold eq2;split
  .cases f1
  .cases f1
  .rfl
 .split at h
  .rw[Ek] at h;obtain⟨a,us,rfl,hq,rr⟩:=rep_tup_mp rx;obtain⟨b,vs,rfl,k6,l9⟩:=rep_tup_mp ry;exact .inr ⟨a,b,us,vs,rfl,rfl,.inl ⟨fh.tup hq,fh.tup k6⟩,cW rr h.1,cW l9 h.2,(jt rr l9 h.1 h.2).symm⟩
  .rw[Ek] at h;obtain⟨a,us,rfl,hq,rr⟩:=rep_lst.mp rx;obtain⟨b,vs,rfl,k6,l9⟩:=rep_lst.mp ry;exact .inr ⟨a,b,us,vs,rfl,rfl,.inr ⟨SqL.of (fh _ _ hq),SqL.of (fh _ _ k6)⟩,cW rr h.1,cW l9 h.2,(jt rr l9 h.1 h.2).symm⟩
  .cases h
def sh2s:List D->List D->Bool
 |[],[]=>true
 |x::xs,y::ys=>sh2 x y && sh2s xs ys
 |_,_=>false
def eq2s(xs ys:List D):List Bool:=List.zipWith eq2 xs ys
def EqE.all{F:Hp}(fh:Same F H):∀ {xs ys:List D} {us vs:List V},Reps K F xs us->Reps K F ys vs->sh2s xs ys=true->us.length=vs.length/\(eq2s xs ys).length=us.length/\∀ j,j<us.length->EqE K H (us.getD j .non) (vs.getD j .non) ((eq2s xs ys).getD j true):=by
 intro xs;induction xs with
 |nil=>
  intro ys us vs r1 r2 h;cases ys with
  |nil=>
   rw[reps_nil.mp r1,reps_nil.mp r2];exact⟨rfl,rfl,λj h=>absurd h (Fc j)⟩
  |cons y ys=>exact absurd h D6
 |cons x xs ih=>
  intro ys us vs r1 r2 h;cases ys with
  |nil=>exact absurd h D6
  |cons y ys=>
   obtain⟨u,ur,rfl,a1,a2⟩:=reps_cons.mp r1;obtain⟨v,vr,rfl,b1,b2⟩:=reps_cons.mp r2;rw[sh2s,Ek] at h;obtain⟨q1,q2,q3⟩:=ih a2 b2 h.2;refine⟨by rw[D0,D0,q1],by show(eq2s xs ys).length+1=_;rw[q2,D0],λj hj=>?_⟩;cases j with
   |zero=>exact EqE.of fh a1 b1 h.1
   |succ j=>exact q3 j (GH hj)
def rdEqN:RD2:=λx y R=>match x,y with
 | .tup xs,.tup ys=>sh2s xs ys=true/\R (.bl ((eq2s xs ys).all id))
 | .lst xs,.lst ys=>sh2s xs ys=true/\R (.bl ((eq2s xs ys).all id))
 |_,_=>False
def zk:aW K (rEqN K) rdEqN:=by
 intro x y u v F H R Q fh h rx ry q;unfold rdEqN at h;split at h
 .obtain⟨a,us,rfl,hq,rr⟩:=rep_tup_mp rx;obtain⟨b,vs,rfl,k6,l9⟩:=rep_tup_mp ry;obtain⟨q1,q2,q3⟩:=EqE.all fh rr l9 h.1;exact⟨a,b,us,vs,_,rfl,rfl,.inl ⟨fh.tup hq,fh.tup k6⟩,q1,q2,q3,q _ _ F H (Grow.refl fh) h.2 (rep_bl.mpr rfl)⟩
 .obtain⟨a,us,rfl,hq,rr⟩:=rep_lst.mp rx;obtain⟨b,vs,rfl,k6,l9⟩:=rep_lst.mp ry;obtain⟨q1,q2,q3⟩:=EqE.all fh rr l9 h.1;exact⟨a,b,us,vs,_,rfl,rfl,.inr ⟨SqL.of (fh _ _ hq),SqL.of (fh _ _ k6)⟩,q1,q2,q3,q _ _ F H (Grow.refl fh) h.2 (rep_bl.mpr rfl)⟩
 .exact h.elim
def zl[Jx](hu:X.A.units+1<Qg)(ha:WDE X a ta)(hb:WDE X b tb):WDE X (.Compare a [.Eq] [b] pos) (dOp rdEqN ta tb):=⟨have ha:=ha.out;have hb:=hb.out;pB (zj hu) zk ha hb (nomark _)⟩
end
section
variable {X:Cx}[J:Jx]{a b c e o:O_}{es:List O_}{ta tb tc te to:TD}{t:TDA}{pos:Pm}
def DL:RTx:=λy ds R=>match ds with|[.str p,.int i]=>∃ k rest,Builtin.Str.occurrences y p (PySem.fromIndex y.length i) y.length 1=k::rest/\R (.int (k:Nat))|_=>False
def Itd(hi:Int)(n:Nat):It:=⟨λi _=>i<n,λi H x H'=>H'=H/\x= .int (hi - i),λi _=>n<=i⟩
variable{tg:O_}
def DM{P:O9}{w:Pe}{K:DR}(it:KF)(lo:Int)(n:Nat):Turn P w K tg (Itd lo n) [it] it (λi h=>Qb h it (lo+(i:Nat)* -1) ((n:Int) - (i:Nat)) (-1)) where
 mem:=by simp
 obj:=λi h st b hb=>by
  have e:b=it:=by simpa using hb
  subst e;exact⟨_,st,λv z=>by
   have z':Data.fields _=Data.cell v:=z;cases z'⟩
 keep:=λi h h' st k=>k it (by simp) _ st
 item:=by
  intro X hP hw hK hc i pins s σ H E I hf st hg;subst hP hw hK;obtain⟨f0,f1,f2,f3,f4,f5⟩:=hf it (by simp);have W:=Walks.range (prog:=X.prog) (w:=X.w) (I.ok.hd hc) it lo (-1) n;refine W.item i s _ _ hg st λv h' tk hv st' kk=>?_;obtain⟨t,rfl⟩:=hv;have I1:Inv X pins σ H {s with heap:=h',toks:=tk}:=I.turned (λb o hb e=>kk b o (by simpa using hb) e) f0 f1 f3 f4 f5;refine⟨_,rfl,fJ (s:={s with heap:=h',toks:=tk}) (n:="range_iterator") st' rfl rfl (by decide) ⟨.int (lo - i),H,I1,⟨t,?_⟩,⟨rfl,rfl⟩,st',λb hb=>(hf b hb).1⟩⟩;rw[show lo+(i:Int)* -1=lo - i by lia]
 done:=by
  intro X hP hw hK hc i pins s σ H E I hf st hg;subst hP hw hK;obtain⟨f0,f1,f2,f3,f4,f5⟩:=hf it (by simp);exact P1 (I.ok.hd hc) st (by have:n<=i:=hg;lia) λh' eb=>⟨rfl,I.turned (t':=s.toks) (λb o hb e=>eb b o hb e) f0 f1 f3 f4 f5⟩
 self:=λ_ _ _ _ _ st h=>P2 st h
def DN{lo:Int}{n:Nat}{g:TG}{tb:TS}{D:Ends}{σ:L2.St}{H:Hp}(Pv:Nat->L2.St->Hp->Prop)(h0:Pv 0 σ H)
  (hs:∀ i σ H,i<n->Pv i σ H->g (.int (lo - i)) σ H λσ2 H2=>tb {D with nx:=Pv (i+1),ct:=Pv (i+1),bk:=D.nx} σ2 H2) (hd:∀ σ H,Pv n σ H->D.nx σ H):
  ∃ W:Nat->Nat->L2.St->Hp->Prop,(∃ m,W 0 m σ H)/\∀ i m σ H,W i m σ H->
   ((Itd lo n).stop i H/\D.nx σ H)\/((Itd lo n).go i H/\∃ N:L2.St->Hp->Prop,(∀ σ' H',N σ' H'->∃ m',m'<m/\W (i+1) m' σ' H')/\∀ x H',(Itd lo n).yld i H x H'->g x σ H' λσ2 H2=>tb {D with nx:=N,ct:=N,bk:=D.nx} σ2 H2):=by
 refine⟨λi m σ H=>m=n - i/\i<=n/\Pv i σ H,⟨n,by simp,Ej _,h0⟩,?_⟩;rintro i m σ H ⟨rfl,hi,p⟩;by_cases f6:i<n
 .refine .inr ⟨f6,Pv (i+1),λσ' H' p'=>⟨n - (i+1),by lia,rfl,f6,p'⟩,λx H' y=>?_⟩;obtain⟨e,y⟩:=y;subst e y;exact hs i σ _ f6 p
 .have e:i=n:=by lia
  subst e;exact .inl ⟨DU _,hd σ H p⟩
def dItD(t u v:TD):TDI:=λz R=>t z λx=>u z λy=>v z λw=>match x,y,w with| .int i,.int j,.int k=>(-(2 ^ 62)<=i/\i<2 ^ 62/\-(2 ^ 62)<=j/\j<2 ^ 62)/\k=-1/\R ((DV (i - j).toNat).map λk=>D.int (i - ((k:Nat):Int)))|_,_,_=>False
def Itu(lo c:Int)(n:Nat):It:=⟨λi _=>i<n,λi H x H'=>H'=H/\x= .int (lo+i*c),λi _=>n<=i⟩
def zm{P:O9}{w:Pe}{K:DR}(it:KF)(lo c:Int)(n:Nat):Turn P w K tg (Itu lo c n) [it] it (λi h=>Qb h it (lo+(i:Nat)*c) ((n:Int) - (i:Nat)) c) where
 mem:=by simp
 obj:=λi h st b hb=>by
  have e:b=it:=by simpa using hb
  subst e;exact⟨_,st,λv z=>by
   have z':Data.fields _=Data.cell v:=z;cases z'⟩
 keep:=λi h h' st k=>k it (by simp) _ st
 item:=by
  intro X hP hw hK hc i pins s σ H E I hf st hg;subst hP hw hK;obtain⟨f0,f1,f2,f3,f4,f5⟩:=hf it (by simp);have W:=Walks.range (prog:=X.prog) (w:=X.w) (I.ok.hd hc) it lo c n;refine W.item i s _ _ hg st λv h' tk hv st' kk=>?_;obtain⟨t,rfl⟩:=hv;have I1:Inv X pins σ H {s with heap:=h',toks:=tk}:=I.turned (λb o hb e=>kk b o (by simpa using hb) e) f0 f1 f3 f4 f5;exact⟨_,rfl,fJ (s:={s with heap:=h',toks:=tk}) (n:="range_iterator") st' rfl rfl (by decide) ⟨.int (lo+i*c),H,I1,⟨t,rfl⟩,⟨rfl,rfl⟩,st',λb hb=>(hf b hb).1⟩⟩
 done:=by
  intro X hP hw hK hc i pins s σ H E I hf st hg;subst hP hw hK;obtain⟨f0,f1,f2,f3,f4,f5⟩:=hf it (by simp);exact P1 (I.ok.hd hc) st (by have:n<=i:=hg;lia) λh' eb=>⟨rfl,I.turned (t':=s.toks) (λb o hb e=>eb b o hb e) f0 f1 f3 f4 f5⟩
 self:=λ_ _ _ _ _ st h=>P2 st h
def upOk(i j c:Int)(n:Nat):Prop:=c≠0/\Builtin.divisionGoesByPylong (j - i) c=false/\Builtin.Range.small i j c=true/\Builtin.Range.rangeSize i j c=n
def zn(ta:TA):TI:=λσ H R=>ta σ H λvs H1=>∃ (i j c:Int) (n:Nat),vs=[.int i,.int j,.int c]/\upOk i j c n/\R (Itu i c n) H1
def zo{ta:TA}{p:Pm}(hg:Gl X "range")(hm:X.mg "range"=q_)(ha:PA X [a,b,c] ta)(hs:autoParam (Pg [a,b,c] X.env=(false,Pj a X.env)::Pg [b,c] X.env) zA0)(j_:autoParam (zPL X pos [b,c]) zA0):
  PI X tg (.Call (.Name "range" p) [a,b,c] [] pos) (zn ta):=by
 intro pins s σ H R I h;refine Call_ (cS I hg hm QP (PyProof.Rows.callWith_type1 (thn (ha pos pins s σ H _ I h) λus s1 hh=>?_) hs j_));obtain⟨vs,H1,I1,r1,q1⟩:=hh;obtain⟨i,j,c,n,e,⟨q1,q2,q3,q4⟩,q⟩:=q1;subst e;cases r1 with
 |cons r rr=>
  obtain⟨_,_,rfl,⟨t',rfl⟩,t2,rfl⟩:=Vals.two rr;obtain⟨t,rfl⟩:=r;refine call_range_3 q1 ?_ (.inl q2);refine QI (IsRange.new ..) q3 ?_;have I2:Inv X pins σ H1 {s1 with heap:=s1.heap.push {cls:= .type "range",data:= .fields #[.int i t,.int j t',.int c t2]},toks:=s1.toks}:=I1.kept λb o e=>Heap.get?_push_of_some _ e;refine⟨(s1.heap.push {cls:= .type "range",data:= .fields #[.int i t,.int j t',.int c t2]}).objs.size,[(s1.heap.push {cls:= .type "range",data:= .fields #[.int i t,.int j t',.int c t2]}).objs.size],_,_,H1,rfl,
   I2.kept (t':=s1.toks) λb o e=>Heap.get?_push_of_some _ e,zm _ i c n,?_,λb hb=>?_,q⟩
  .show Qb _ _ (i+((0:Nat):Int)*c) ((n:Int) - ((0:Nat):Int)) c;rw[show i+((0:Nat):Int)*c=i by simp,show(n:Int) - ((0:Nat):Int)=Builtin.Range.rangeSize i j c by rw[q4];lia];exact Heap.get?_push_size _ rfl
  .have e:b=(s1.heap.push {cls:= .type "range",data:= .fields #[.int i t,.int j t',.int c t2]}).objs.size:=by simpa using hb
   subst e;exact I2.fpOk (DU _) (I2.hok.fresh (DU _))
def zp{lo c:Int}{n:Nat}{g:TG}{tb:TS}{D:Ends}{σ:L2.St}{H:Hp}(Pv:Nat->L2.St->Hp->Prop)(h0:Pv 0 σ H)
  (hs:∀ i σ H,i<n->Pv i σ H->g (.int (lo+i*c)) σ H λσ2 H2=>tb {D with nx:=Pv (i+1),ct:=Pv (i+1),bk:=D.nx} σ2 H2) (hd:∀ σ H,Pv n σ H->D.nx σ H):
  ∃ W:Nat->Nat->L2.St->Hp->Prop,(∃ m,W 0 m σ H)/\∀ i m σ H,W i m σ H->
   ((Itu lo c n).stop i H/\D.nx σ H)\/((Itu lo c n).go i H/\∃ N:L2.St->Hp->Prop,(∀ σ' H',N σ' H'->∃ m',m'<m/\W (i+1) m' σ' H')/\∀ x H',(Itu lo c n).yld i H x H'->g x σ H' λσ2 H2=>tb {D with nx:=N,ct:=N,bk:=D.nx} σ2 H2):=by
 refine⟨λi m σ H=>m=n - i/\i<=n/\Pv i σ H,⟨n,by simp,Ej _,h0⟩,?_⟩;rintro i m σ H ⟨rfl,hi,p⟩;by_cases f6:i<n
 .refine .inr ⟨f6,Pv (i+1),λσ' H' p'=>⟨n - (i+1),by lia,rfl,f6,p'⟩,λx H' y=>?_⟩;obtain⟨e,y⟩:=y;subst e y;exact hs i σ _ f6 p
 .have e:i=n:=by lia
  subst e;exact .inl ⟨DU _,hd σ H p⟩
def dItU(t u v:TD):TDI:=λz R=>t z λx=>u z λy=>v z λw=>match x,y,w with| .int i,.int j,.int c=>∃ n:Nat,upOk i j c n/\R ((DV n).map λk=>D.int (i+((k:Nat):Int)*c))|_,_,_=>False
def qS(i:Nat){x:x9}{p p1 p2:Pm}{body:List Pb}{Mq:TSD}(hp:PF (Pc X.prog X.w) X.A X.env X.xe)(hc:X.calm=true)(hN:X.N.Nodup)(hm:X.mg "range"=q_)(ha:WDE X a ta)(ge:WDE X b tb)(w6:WDE X c tc)(hb:WDSs X body Mq)(hg:autoParam (Gl X "range") zA0)(hi:autoParam (X.N[i]?=be x) zA0)(hx:autoParam (Loc X.env.scope x) zA4)
  (hf:autoParam (zFN X x) zA3) (hs:autoParam (∀ y,zFS X (.Call (.Name "range" p1) [a,b,c] [] p2) y) zA2) (j7:autoParam (Pg [a,b,c] X.env=(false,Pj a X.env)::Pg [b,c] X.env) zA0) (HC:autoParam (zSE X b [c]) zA0) (d_:autoParam (zSE X c []) zA0) (HD:autoParam (zPL X p2 [b,c]) zA0):WDS X (.For (.Name x p) (.Call (.Name "range" p1) [a,b,c] [] p2) body [] pos) (dFor i (dItU ta tb tc) Mq):=⟨have ha:=ha.out;have ge:=ge.out;have hb:=hb.out;(dq hp hc (zo hg hm (bg ha (bg ge (bg w6.out pa_nil d_) HC) j7) j7 HD) (eU hN hi hx hf) hb hs).anti λE s H q=>by
 obtain⟨B,F0,F,z,kp,rs,ED,h,e⟩:=q;refine⟨B,F,z,kp.kf,rs,_,h,λd1 v1 F1 H1 g1 h1 r1=>?_⟩;refine⟨B,F1,z,kp.kf.grow g1,rs.grow g1,_,h1,λd2 v2 F2 H2 g2 h2 r2=>?_⟩;refine⟨B,F2,z,(kp.kf.grow g1).grow g2,(rs.grow g1).grow g2,_,h2,λd3 v3 F3 H3 g3 h3 r3=>?_⟩;split at h3
 .rename_i lo td st;obtain⟨n,bd,W,w0,b_,out⟩:=h3;refine⟨lo,td,st,n,by rw[rep_int.mp r1,rep_int.mp r2,rep_int.mp r3],bd,zp (lo:=lo) (n:=n) (λk s' H'=>∃ F' z',Kept B F0 F' H'/\RepS X.K B F' H' z' s'/\W k z') ⟨F3,z,((kp.grow g1).grow g2).grow g3,((rs.grow g1).grow g2).grow g3,w0⟩ ?_ ?_⟩
  .rintro k s' H' hk ⟨F',z',k',r',w'⟩;exact⟨B,F0,F',_,k',r'.set (d:= .int (lo+(k:Int)*st)) (rep_int.mpr rfl),_,b_ k (.int (lo+(k:Int)*st)) z' (by simp[hk]) w',⟨λz3 s3 F3 H3 k3 h3 r3=>⟨F3,z3,k3,r3,h3⟩,e.rt,e.nx,λz3 s3 F3 H3 k3 h3 r3=>⟨F3,z3,k3,r3,h3⟩⟩⟩
  .rintro s' H' ⟨F',z',k',r',w'⟩;exact e.nx z' s' F' H' k' (out z' (by rw[DZ,Eu];exact w')) r'
 .exact h3.elim⟩
end
end My
end
section
namespace My
open PySem PySem.Spec PyProof.Rows L2
variable{w:Int}
def b64B(h:0<w)(h':w<=33554432): -(2 ^ 64)<w/\w<2 ^ 64:=by lia
variable{s:Int}
def s64B(h:0<=s)(h':s<w)(OT:w<=33554432): -(2 ^ 64)<s/\s<2 ^ 64:=by lia
def d30B(h:0<w)(h':w<=33554432):0<w/\w<1073741824:=by lia
def n64{k:Nat}(h:w.natAbs<=k)(hk:autoParam (k<=1073741823) zA1): -(2 ^ 64)<w/\w<2 ^ 64:=by lia
def fdm(a b:Int)(hb:b≠0):(a - a.fdiv b*b).natAbs<b.natAbs/\(a.fdiv b).natAbs<=a.natAbs+1:=by
 have e:=Int.fmod_def a b;have e2:a - a.fdiv b*b=a.fmod b:=by rw[e,Er]
 rw[e2];have r:(a.fmod b).natAbs<b.natAbs:=by
  rcases(by lia:0<b\/b<0) with h|h
  .have h1:=GI a h;have h2:=GJ a h;lia
  .have h1:=GI (-a) (show 0< -b by lia);have h2:=GJ (-a) (show 0< -b by lia);rw[Int.neg_fmod_neg] at h1 h2;lia
 refine⟨r,?_⟩;have e3:(b*a.fdiv b).natAbs=b.natAbs*(a.fdiv b).natAbs:=F6 _ _;have e4:=Int.mul_fdiv_self a b;rcases Fq (a.natAbs+1) (a.fdiv b).natAbs with c|c
 .have h1:b.natAbs*(a.natAbs+2)<=b.natAbs*(a.fdiv b).natAbs:=Nat.mul_le_mul_left _ c;have h2:b.natAbs*(a.natAbs+2)=b.natAbs*a.natAbs+2*b.natAbs:=by rw[Nat.mul_add,Nat.mul_comm _ 2]
  have h3:1*a.natAbs<=b.natAbs*a.natAbs:=Nat.mul_le_mul_right _ (by lia);lia
 .exact c
def Uni(a b c d p0 p1 q0 q1:Int):Prop:=∃ m n k l:Int,(m*l - n*k=1\/m*l - n*k=-1)/\p0=m*a+n*c/\p1=m*b+n*d/\q0=k*a+l*c/\q1=k*b+l*d
def Uni.refl(a b c d:Int):Uni a b c d a b c d:=⟨1,0,0,1,.inl (by decide),by lia,by lia,by lia,by lia⟩
variable{a b c d p0 p1 q0 q1:Int}
def Uni.step(t:Int)(h:Uni a b c d p0 p1 q0 q1):Uni a b c d q0 q1 (p0 - t*q0) (p1 - t*q1):=by
 obtain⟨m,n,k,l,hd,rfl,rfl,rfl,rfl⟩:=h;refine⟨k,l,m - t*k,n - t*l,?_,rfl,rfl,by grind,by grind⟩;rcases hd with h|h
 .right;grind
 .left;grind
def Uni.neg(h:Uni a b c d p0 p1 q0 q1):Uni a b c d (-p0) (-p1) q0 q1:=by
 obtain⟨m,n,k,l,hd,rfl,rfl,rfl,rfl⟩:=h;refine⟨-m,-n,k,l,?_,by grind,by grind,rfl,rfl⟩;rcases hd with h|h
 .right;grind
 .left;grind
def Uni.inv(h:Uni a b c d p0 p1 q0 q1):Uni p0 p1 q0 q1 a b c d:=by
 obtain⟨m,n,k,l,hd,rfl,rfl,rfl,rfl⟩:=h;rcases hd with h|h
 .exact⟨l,-n,-k,m,.inl (by grind),by grind,by grind,by grind,by grind⟩
 .exact⟨-l,n,k,-m,.inr (by grind),by grind,by grind,by grind,by grind⟩
def Uni.det(h:Uni a b c d p0 p1 q0 q1):p0*q1 - p1*q0=a*d - b*c\/p0*q1 - p1*q0=-(a*d - b*c):=by
 obtain⟨m,n,k,l,hd,rfl,rfl,rfl,rfl⟩:=h;rcases hd with h|h
 .left;grind
 .right;grind
def Lev(a b c d p0 p1 q0:Int):Prop:=0<=p1/\Uni a b c d p0 p1 q0 0
def FamOf(a b c d w h s:Int):Prop:=0<w/\0<h/\0<=s/\s<w/\Uni a b c d w 0 s h
def zq(x:Int):(if x<0 then -x else x)=x\/(if x<0 then -x else x)=-x:=by
 split<;>simp
variable{x:Int}
def zr(h:x≠0):0<(if x<0 then -x else x):=by split<;>lia
def gB(hn:¬ a*d=b*c)(h:Lev a b c d p0 p1 q0):FamOf a b c d (if q0<0 then -q0 else q0) p1 (p0 % (if q0<0 then -q0 else q0)):=by
 obtain⟨hp,hu⟩:=h;have dt:=hu.det;have NY:q0≠0:=by
  rintro rfl;simp at dt;lia
 have OU:p1≠0:=by
  rintro rfl;simp at dt;lia
 have hw:=zr NY;have hs:=zq q0;generalize (if q0<0 then -q0 else q0)=w at hw hs;refine⟨hw,by lia,Es _ (by lia),Em _ hw,?_⟩;have em:=EK p0 w;generalize p0 % w=s at em;generalize p0 / w=t at em;obtain⟨m,n,k,l,hd,e1,e2,e3,e4⟩:=hu;rcases hs with e|e
 .refine⟨k,l,m - t*k,n - t*l,?_,by grind,by grind,by grind,by grind⟩;rcases hd with h|h
  .right;grind
  .left;grind
 .refine⟨-k,-l,m+t*k,n+t*l,?_,by grind,by grind,by grind,by grind⟩;rcases hd with h|h
  .left;grind
  .right;grind
variable{h y i j:Int}
def in_fam(hh:0<h)(ex:x=i*w+j*s)(ey:y=j*h):y % h=0/\(x - y / h*s) % w=0:=by
 subst ex ey;rw[EE _ (by lia)];refine⟨FH _ _,?_⟩;have e:i*w+j*s - j*s=i*w:=by lia
 rw[e];exact FH _ _
def FamOf.first(f:FamOf a b c d w h s):b % h=0/\(a - b / h*s) % w=0:=by
 obtain⟨hw,hh,_,_,hu⟩:=f;obtain⟨m,n,k,l,_,e1,e2,e3,e4⟩:=hu.inv;exact in_fam (i:=m) (j:=n) hh e1 (by lia)
def FamOf.second(f:FamOf a b c d w h s):d % h=0/\(c - d / h*s) % w=0:=by
 obtain⟨hw,hh,_,_,hu⟩:=f;obtain⟨m,n,k,l,_,e1,e2,e3,e4⟩:=hu.inv;exact in_fam (i:=k) (j:=l) hh e3 (by lia)
variable{u v:Int}
def qT(eu:u=i*a+j*c)(ev:v=i*b+j*d):(u*d - v*c).fmod (a*d - b*c)=0/\(a*v - b*u).fmod (a*d - b*c)=0:=by
 subst eu ev;refine⟨F7 ⟨i,by grind⟩,F7 ⟨j,by grind⟩⟩
def FamOf.cells(f:FamOf a b c d w h s):w*h=a*d - b*c\/w*h=-(a*d - b*c):=by
 have:=f.2.2.2.2.det;simpa using this
def ca{A B:Nat}(h1:a.natAbs<=A)(h2:d.natAbs<=B):(a*d).natAbs<=A*B:=by
 rw[F6];exact F8 h1 h2
variable{g:Int}
def zt{gap:Int}{N:Nat}(hg:0<g)(c0:0<=c)(cg:c<=g)(h:gap.natAbs<=N):(c*gap / g).natAbs<=N:=by
 have h1:(c*gap).natAbs<=g.natAbs*N:=by rw[F6];exact F8 (by omega) h
 have e:((g.natAbs*N:Nat):Int)=N*g:=by rw[Int.natCast_mul,Int.natAbs_of_nonneg (by omega),Er]
 have l1:=Int.le_ediv_of_mul_le (a:=-(N:Int)) (b:=c*gap) hg (by rw[ER];omega);have l2:=Int.ediv_le_of_le_mul (a:=c*gap) (b:=(N:Int)) hg (by omega);omega
def eo(hw:0<w)(hh:0<h):w<=w*h/\h<=w*h:=by
 have h1:=GK (show 1<=h by lia) (show 0<=w by lia);have h2:=Ef (show 1<=w by lia) (show 0<=h by lia);lia
def FamOf.bd(f:FamOf a b c d w h s){N:Nat}(hN:(a*d - b*c).natAbs<=N):w<=N/\h<=N/\s<N:=by
 obtain⟨h1,h2⟩:=eo f.1 f.2.1;have h3:=f.cells;have h4:=f.2.2.2.1;lia
def Meas(x y g u:Int):Prop:=0<=g/\(∃ i,x=i*g)/\(∃ j,y=j*g)/\∃ n,g=u*x+n*y
def qU{q:Int}(h:0<=g/\∃ m n k l:Int,(m*l - n*k=1\/m*l - n*k=-1)/\u=m*1+n*0/\g=m*x+n*y/\q=k*1+l*0/\0=k*x+l*y):Meas x y g u:=by
 obtain⟨h0,m,n,k,l,hd,e1,e2,e3,e4⟩:=h;refine⟨h0,?_,?_,n,by grind⟩
 .rcases hd with h|h
  .exact⟨l,by grind⟩
  .exact⟨-l,by grind⟩
 .rcases hd with h|h
  .exact⟨-k,by grind⟩
  .exact⟨k,by grind⟩
def Meas.pos(h:Meas x y g u)(hx:0<x):0<g:=by
 obtain⟨h0,⟨i,hi⟩,_⟩:=h;rcases(by lia:g=0\/0<g) with e|e
 .subst e;simp at hi;lia
 .exact e
def Meas.le(h:Meas x y g u)(hx:0<x):g<=x:=by
 have hg:=h.pos hx;obtain⟨h0,⟨i,hi⟩,_⟩:=h;have OV:0<i:=by
  rcases(by lia:i<=0\/0<i) with e|e
  .have:=Fd e h0;lia
  .exact e
 have:=Ef (show 1<=i by lia) h0;lia
structure MetR(w1 h1 s1 w2 h2 s2 w h s A:Int):Prop where
 w0:0<w
 h0:0<h
 s0:0<=s
 sw:s<w
 in1:∃ i,w=i*w1
 in2:∃ i,w=i*w2
 up1:∃ i j,s=i*w1+j*s1/\h=j*h1
 up2:∃ i j,s=i*w2+j*s2/\h=j*h2
 A0:0<A
 cells:w*h*A=w1*h1*w2*h2
 d11:A∣w1*h1
 d12:A∣w1*h2
 d21:A∣w2*h1
 d22:A∣w2*h2
 ds:A∣s1*h2 - h1*s2
 all:∀ x y:Int,(∃ i j,x=i*w1+j*s1/\y=j*h1)->(∃ i j,x=i*w2+j*s2/\y=j*h2)->∃ i j,x=i*w+j*s/\y=j*h
 comb:∀ G:Int,G∣w1*h1->G∣w1*h2->G∣w2*h1->G∣w2*h2->G∣s1*h2 - h1*s2->G∣A
def dG(h:0<x*y)(hy:0<y):0<x:=by
 rcases(by lia:x<=0\/0<x) with e|e
 .have:=Fd e (show 0<=y by lia);lia
 .exact e
def jO(ha:0<a)(h:a*b=a*c):b=c:=F9 (by lia) h
def r1(k j c:Int):k*(j*c)=j*(c*k):=by grind
def r2(j u c n d:Int):j*(u*c+n*d)=u*(j*c)+n*d*j:=by grind
def r3(u j d n j1:Int):u*(j*d)+n*d*j1=d*(u*j+n*j1):=by grind
def r4(j u c n d:Int):j*(u*c+n*d)=u*c*j+n*(j*d):=by grind
def r5(u c j n j1:Int):u*c*j+n*(j1*c)=c*(u*j+n*j1):=by grind
def r6(g e i1 a i2 b d T s1 c s2:Int)(q:i1*(a*(e*g))+d*T*s1=i2*(b*(e*g))+c*T*s2):g*(e*(i1*a - i2*b))=T*(c*s2 - d*s1):=by grind
def r7(g T f:Int):g*(T*f)=T*(f*g):=by grind
def r8(T v e q f:Int):T*(v*e+q*f)=v*T*e+q*(T*f):=by grind
def r9(v T e q m:Int):v*T*e+q*(e*m)=e*(v*T+q*m):=by grind
def r10(e r f:Int):e*r*f=e*(r*f):=by grind
def r11(i u a n b:Int):i*(u*a+n*b)=u*(i*a)+n*b*i:=by grind
def r12(u r f i2 b n i1:Int):u*(r*f+i2*b)+n*b*i1=u*(r*f)+b*(u*i2+n*i1):=by grind
def r13(u r f b M a e g d s1 t:Int):(u*(r*f)+b*M)*(a*(e*g))+d*(e*r)*s1=(M+r*t)*(a*b*(e*g))+r*(e*(d*s1)+f*u*(a*(e*g)) - a*b*(e*g)*t):=by grind
def r14(d e r c k:Int):d*(e*r)*(c*k)=r*(c*d*k*e):=by grind
variable{f gg u' s1 s2:Int}
def zu{e k n n' q t i1 j1 i2 j2:Int}(hk:0<k)(A_:0<gg)(he:0<e)
  (q8:u*a+n*b=1) (n5:u'*c+n'*d=1) (gap:c*s2 - d*s1=f*gg) (q9:v*e+q*f=1)
  (hs:s=e*(d*s1)+f*u*(a*(e*gg)) - a*b*(e*gg)*t) (x1:x=i1*(a*(e*gg))+j1*s1) (y1:y=j1*(c*k)) (x2:x=i2*(b*(e*gg))+j2*s2) (y2:y=j2*(d*k)):
  ∃ i j,x=i*(a*b*(e*gg))+j*s/\y=j*(c*d*k*e):=by
 have h1:j1*c=j2*d:=jO hk (by rw[r1 k j1 c,r1 k j2 d,<- y1,<- y2]);have JP:j1=d*(u'*j2+n'*j1):=by
  have p:=r2 j1 u' c n' d;rw[n5,h1,r3] at p;lia
 have Mr:j2=c*(u'*j2+n'*j1):=by
  have p:=r4 j2 u' c n' d;rw[n5,<- h1,r5] at p;lia
 generalize u'*j2+n'*j1=T at JP Mr;have q1:i1*(a*(e*gg))+d*T*s1=i2*(b*(e*gg))+c*T*s2:=by rw[<- JP,<- Mr,<- x1,<- x2]
 have h2:e*(i1*a - i2*b)=T*f:=jO A_ (by rw[r6 gg e i1 a i2 b d T s1 c s2 q1,r7,gap]);have eT:T=e*(v*T+q*(i1*a - i2*b)):=by
  have p:=r8 T v e q f;rw[q9,<- h2,r9] at p;lia
 generalize hr:v*T+q*(i1*a - i2*b)=r at eT;have h3:i1*a - i2*b=r*f:=jO he (by rw[h2,eT,r10]);have h4:i1=u*(r*f)+b*(u*i2+n*i1):=by
  have p:=r11 i1 u a n b;have q3:i1*a=r*f+i2*b:=by lia
  rw[q8,q3,r12] at p;lia
 generalize u*i2+n*i1=M at h4;refine⟨M+r*t,r,?_,?_⟩
 .rw[hs,x1,JP,eT,<- r13,<- h4]
 .rw[y1,JP,eT,r14]
def zv{e k n n' q t:Int}(ha:0<a)(hb:0<b)(hc:0<c)(hd:0<d)(he:0<e)(hk:0<k)(A_:0<gg)
  (q8:u*a+n*b=1) (n5:u'*c+n'*d=1) (gap:c*s2 - d*s1=f*gg) (q9:v*e+q*f=1)
  (hs:s=e*(d*s1)+f*u*(a*(e*gg)) - a*b*(e*gg)*t) (m1:0<=s) (m2:s<a*b*(e*gg)):
  MetR (a*(e*gg)) (c*k) s1 (b*(e*gg)) (d*k) s2 (a*b*(e*gg)) (c*d*k*e) s (k*gg):=by
 have hg:0<e*gg:=Eg he A_;have hW:0<a*b*(e*gg):=Eg (Eg ha hb) hg;have KW:d*s1=c*s2 - f*gg:=by lia
 have ua:u*a=1 - n*b:=by lia
 refine⟨hW,Eg (Eg (Eg hc hd) hk) he,m1,m2,⟨b,?_⟩,⟨a,?_⟩,⟨f*u - t*b,d*e,?_,?_⟩,⟨-(f*n) - t*a,c*e,?_,?_⟩,Eg hk A_,?_,⟨a*e*c,?_⟩,⟨a*e*d,?_⟩,⟨b*e*c,?_⟩,⟨b*e*d,?_⟩,⟨-f,?_⟩,?_,?_⟩
 .grind
 .grind
 .grind
 .grind
 .rw[hs,KW];have x2:f*u*(a*(e*gg))=f*(u*a)*(e*gg):=by grind
  rw[x2,ua];grind
 .grind
 .grind
 .grind
 .grind
 .grind
 .grind
 .have:s1*(d*k) - c*k*s2=-(k*(c*s2 - d*s1)):=by grind
  rw[this,gap];grind
 .rintro x y ⟨i1,j1,x1,z1⟩ ⟨i2,j2,x2,z2⟩;exact zu hk A_ he q8 n5 gap q9 hs x1 z1 x2 z2
 .rintro G ⟨y1,z1⟩ ⟨y2,z2⟩ ⟨y3,z3⟩ ⟨y4,z4⟩ ⟨y5,z5⟩;refine⟨v*(u'*u*y1+n'*u*y2+u'*n*y3+n'*n*y4) - q*y5,?_⟩;have k1:k*(e*gg)=G*(u'*u*y1+n'*u*y2+u'*n*y3+n'*n*y4):=by
   have p1:k*(e*gg)=(u'*c+n'*d)*(u*a+n*b)*(k*(e*gg)):=by rw[q8,n5];grind
   have p2:(u'*c+n'*d)*(u*a+n*b)*(k*(e*gg))=u'*u*(a*(e*gg)*(c*k))+n'*u*(a*(e*gg)*(d*k))+u'*n*(b*(e*gg)*(c*k))+n'*n*(b*(e*gg)*(d*k)):=by grind
   rw[p1,p2,z1,z2,z3,z4];grind
  have k2:k*(f*gg)=-(G*y5):=by
   rw[<- z5,<- gap];grind
  have k3:k*gg=(v*e+q*f)*(k*gg):=by rw[q9];grind
  have k4:(v*e+q*f)*(k*gg)=v*(k*(e*gg))+q*(k*(f*gg)):=by grind
  rw[k3,k4,k1,k2];grind
variable{w1 h1 w2 h2:Int}
def qV{k u7:Int}(n6:0<w1)(u8:0<w2)(Ms:0<h1)(G':0<h2)
  (M1:Meas w1 w2 g u) (M2:Meas h1 h2 k u')
  (M3:Meas g (h1*h2 / k / h2*s2 - h1*h2 / k / h1*s1) gg u7):
  MetR w1 h1 s1 w2 h2 s2 (w1*w2 / g) (h1*h2 / k*(g / gg)) ((g / gg*(h1*h2 / k / h1*s1)+g / gg*(h1*h2 / k / h2*s2 - h1*h2 / k / h1*s1) / g*u*w1) % (w1*w2 / g)) (k*gg):=by
 have hg:=M1.pos n6;have hk:=M2.pos Ms;have A_:=M3.pos hg;obtain⟨_,⟨a,ea⟩,⟨b,eb⟩,n,en⟩:=M1;obtain⟨_,⟨c,ec⟩,⟨d,ed⟩,n',OW⟩:=M2;have ha:0<a:=dG (ea ▸ n6) hg;have hb:0<b:=dG (eb ▸ u8) hg;have hc:0<c:=dG (ec ▸ Ms) hk;have hd:0<d:=dG (ed ▸ G') hk;have q8:u*a+n*b=1:=by
  have p:(u*a+n*b)*g=1*g:=by
   have:(u*a+n*b)*g=u*(a*g)+n*(b*g):=by grind
   rw[this,<- ea,<- eb];lia
  exact Fe (by lia) p
 have n5:u'*c+n'*d=1:=by
  have p:(u'*c+n'*d)*k=1*k:=by
   have:(u'*c+n'*d)*k=u'*(c*k)+n'*(d*k):=by grind
   rw[this,<- ec,<- ed];lia
  exact Fe (by lia) p
 have eW:w1*w2 / g=a*b*g:=by
  have:w1*w2=(a*b*g)*g:=by rw[ea,eb];grind
  rw[this];exact EE _ (by lia)
 have eR:h1*h2 / k=c*d*k:=by
  have:h1*h2=(c*d*k)*k:=by rw[ec,ed];grind
  rw[this];exact EE _ (by lia)
 have NZ:h1*h2 / k / h1=d:=by
  rw[eR];have:c*d*k=d*h1:=by rw[ec];grind
  rw[this];exact EE _ (by lia)
 have N1:h1*h2 / k / h2=c:=by
  rw[eR];have:c*d*k=c*h2:=by rw[ed];grind
  rw[this];exact EE _ (by lia)
 rw[NZ,N1] at M3 ⊢;obtain⟨_,⟨e,ee⟩,⟨f,ef⟩,q,eq⟩:=M3;have he:0<e:=dG (ee ▸ hg) A_;have q9:u7*e+q*f=1:=by
  have p:(u7*e+q*f)*gg=1*gg:=by
   have:(u7*e+q*f)*gg=u7*(e*gg)+q*(f*gg):=by grind
   rw[this,<- ee,<- ef];lia
  exact Fe (by lia) p
 have eC:g / gg=e:=by rw[ee];exact EE _ (by lia)
 have eS:e*(c*s2 - d*s1) / g=f:=by
  have:e*(c*s2 - d*s1)=f*g:=by rw[ef,ee];grind
  rw[this];exact EE _ (by lia)
 rw[eC,eS,eW,eR];have hW:0<a*b*g:=Eg (Eg ha hb) hg;have em:=EK (e*(d*s1)+f*u*w1) (a*b*g);have m1:=Es (e*(d*s1)+f*u*w1) (show a*b*g≠0 by lia);have m2:=Em (e*(d*s1)+f*u*w1) hW;generalize (e*(d*s1)+f*u*w1) % (a*b*g)=s at em m1 m2 ⊢;generalize (e*(d*s1)+f*u*w1) / (a*b*g)=t at em;subst ea eb ec ed;subst ee;exact zv ha hb hc hd he hk A_ q8 n5 ef q9 em m1 m2
def qW(hx:0<x)(hy:0<y)(M:Meas x y g u):0<x*y / g/\x*y / g<=x*y/\x*y / g / x*1<=y/\0<=x*y / g / x/\x*y / g / y<=x/\0<=x*y / g / y:=by
 have hg:=M.pos hx;obtain⟨_,⟨a,ea⟩,⟨b,eb⟩,_⟩:=M;have ha:0<a:=dG (ea ▸ hx) hg;have hb:0<b:=dG (eb ▸ hy) hg;have e1:x*y / g=a*b*g:=by
  have:x*y=(a*b*g)*g:=by rw[ea,eb];grind
  rw[this];exact EE _ (by lia)
 have e2:a*b*g / x=b:=by
  have:a*b*g=b*x:=by rw[ea];grind
  rw[this];exact EE _ (by lia)
 have e3:a*b*g / y=a:=by
  have:a*b*g=a*y:=by rw[eb];grind
  rw[this];exact EE _ (by lia)
 have p1:0<a*b*g:=Eg (Eg ha hb) hg;have q1:=(eo (w:=b) (h:=g) hb hg).1;have q2:=(eo (w:=a) (h:=g) ha hg).1;have q3:x*y=a*b*g*g:=by rw[ea,eb];grind
 have q4:=(eo (w:=a*b*g) (h:=g) p1 hg).1;rw[e1,e2,e3];lia
def cell(ns:List Int)(k:Int):Int:=ns.getD k.toNat 0
variable{ns:List Int}
def qX{k:Int}(h0:0<=k)(h1:k<(ns.length:Int)):atI (ns.map D.int) k=be (.int (cell ns k)):=by
 obtain⟨j,rfl⟩:∃ j:Nat,k=(j:Int):=⟨k.toNat,by lia⟩;have hk:j<ns.length:=by lia
 refine cv ?_;rw[D5,Ei hk];simp[cell,EB,Ei hk]
def zw{k:Int}(h1:(ns.length:Int)<=k):cell ns k=0:=by
 have hk:ns.length<=k.toNat:=by lia
 simp[cell,EB,EC hk]
def DO(k:Int):∃ m,atI [D.int 12,D.int 720] (k % 2)=be (.int m)/\(m=12\/m=720):=by
 rcases(by lia:k % 2=0\/k % 2=1) with e|e
 .rw[e];exact⟨12,rfl,.inl rfl⟩
 .rw[e];exact⟨720,rfl,.inr rfl⟩
def cE(h:0<b):0<=a % b:=Es a (by lia)
def cF(h:0<b):a % b<b:=Em a h
def zx:SpD:=λds R=>∃ (ns:List Int) (k:Int),ds=[.rol (ns.map D.int),.int k]/\0<=k/\R (.int (cell ns k))
def zy:SpD:=λds R=>∃ i:Int,ds=[.int i]/\R (.bl true)
def zz:SpD:=λds R=>∃ a b c d u v:Int,ds=[.tup [.int a,.int b],.tup [.int c,.int d],.int u,.int v]/\a.natAbs<1073741824/\b.natAbs<1073741824/\c.natAbs<1073741824/\d.natAbs<1073741824/\
 ¬ a*d=b*c/\R (.bl (decide ((u*d - v*c).fmod (a*d - b*c)=0/\(a*v - b*u).fmod (a*d - b*c)=0)))
def zA:SpD:=λds R=>∃ w h s x y:Int,ds=[.tup [.int w,.int h,.int s],.int x,.int y]/\0<w/\0<h/\h<1073741824/\0<=s/\s<1073741824/\
 R (.tup [.int ((x - y / h*s) % w),.int (y % h)])
def zB:SpD:=λds R=>∃ a b c d:Int,ds=[.tup [.int a,.int b],.tup [.int c,.int d]]/\b.natAbs<4611686018427387904/\d.natAbs<4611686018427387904/\
 ∀ p0 p1 q0,Lev a b c d p0 p1 q0->R (.tup [.tup [.int p0,.int p1],.tup [.int q0,.int 0]])
def zC:SpD:=λds R=>∃ a b c d:Int,ds=[.tup [.int a,.int b],.tup [.int c,.int d]]/\a.natAbs<4611686018427387904/\b.natAbs<4611686018427387904/\c.natAbs<4611686018427387904/\d.natAbs<4611686018427387904/\
 (a*d=b*c->R .non)/\(¬ a*d=b*c->∀ w h s,FamOf a b c d w h s->R (.tup [.int w,.int h,.int s]))
def zD:SpD:=λds R=>∃ w h s:Int,ds=[.tup [.int w,.int h,.int s]]/\0<w/\R (.tup [.int w,.int h,.int (-s % w)])
def zE:SpD:=λds R=>∃ w h s:Int,ds=[.tup [.int w,.int h,.int s]]/\0<w/\0<h/\w<4611686018427387904/\h<4611686018427387904/\0<=s/\s<4611686018427387904/\
 ∀ w' h' s',FamOf 0 w (-h) s w' h' s'->R (.tup [.int w',.int h',.int s'])
def zF:SpD:=λds R=>∃ x y:Int,ds=[.int x,.int y]/\x.natAbs<4611686018427387904/\y.natAbs<4611686018427387904/\∀ g u,Meas x y g u->R (.tup [.int g,.int u])
def zG:SpD:=λds R=>∃ w1 h1 s1 w2 h2 s2:Int,ds=[.tup [.int w1,.int h1,.int s1],.tup [.int w2,.int h2,.int s2]]/\0<w1/\w1<=33554432/\0<h1/\h1<=33554432/\0<=s1/\s1<w1/\0<w2/\w2<=33554432/\0<h2/\h2<=33554432/\0<=s2/\s2<w2/\
 ∀ w h s A,MetR w1 h1 s1 w2 h2 s2 w h s A->R (.tup [.int w,.int h,.int s])
def Drawn(xs:List Int):Prop:=∀ x∈xs,0<=x/\x<5040
variable{xs:List Int}
def Drawn.at(h:Drawn xs)(k:Int):0<=cell xs k/\cell xs k<5040:=by
 by_cases hk:k.toNat<xs.length
 .have:cell xs k=xs[k.toNat]:=by simp[cell,EB,Ei hk]
  rw[this];exact h _ (EJ hk)
 .have:cell xs k=0:=by simp[cell,EB,EC (Fj hk)]
  lia
def et{k:Int}(h0:0<=k)(h:k.toNat<xs.length):atI (xs.map D.int) k=be (.int (cell xs k)):=qX h0 (by lia)
def qY:xs.map D.int++[D.int v]=(xs++[v]).map D.int:=by simp
def qZ(h:Drawn xs)(h1:0<=v)(h2:v<5040):Drawn (xs++[v]):=by
 intro x hx;rcases Et.mp hx with q|q
 .exact h x q
 .rw[DY.mp q];exact⟨h1,h2⟩
def zH:SpD:=λds R=>∃ (ns:List Int) (k:Int) (n:Nat),ds=[.rol (ns.map D.int),.int k,.int n]/\0<=k/\n<=100/\∀ xs:List Int,xs.length=n->Drawn xs->R (.lst (xs.map D.int))
abbrev cs(x:x9):List Nat:=x.cps.toList
def bL(x:x9):(cs x).length=x.length:=by simp[Str.length]
def ra:cs ""=[]:=rfl
def bC(x y:x9):cs (x++y)=cs x++cs y:=by
 show((x++y:x9)).cps.toList=_;rw[show(x++y:x9).cps=x.cps++y.cps from rfl,Array.toList_append]
def av(x y:x9):(x++y).length=x.length+y.length:=by rw[<- bL,bC,D7,bL,bL]
def aI(c:Nat):Prop:=c=46\/(49<=c/\c<=54)
def gC:∀ (L:List x9),cX (L.map D.str)=be L
 |[]=>rfl
 |x::L=>by simp[cX,gC L]
def eA(x:x9):Prop:=0<x.length/\x.length<=7/\∀ c∈cs x,aI c
def zI{x:x9}(h:eA x)(v:Int):∃ c,(x.length<=1000000/\atI (cs x) (v % (x.length:Int))=be c)/\aI c:=by
 have h1:=cE (a:=v) (show 0<(x.length:Int) by have:=h.1;lia);have h2:=cF (a:=v) (show 0<(x.length:Int) by have:=h.1;lia);obtain⟨j,ej⟩:∃ j:Nat,v % (x.length:Int)=(j:Int):=⟨(v % (x.length:Int)).toNat,by lia⟩;have hj:j<(cs x).length:=by rw[bL];lia
 refine⟨(cs x)[j],⟨by have:=h.2.1;lia,?_⟩,h.2.2 _ (EJ hj)⟩;rw[ej];exact cv (Ei hj)
def zJ:eA "1.23456":=⟨by decide+kernel,by decide+kernel,by unfold aI;decide+kernel⟩
def zK:eA "12":=⟨by decide+kernel,by decide+kernel,by unfold aI;decide+kernel⟩
def zL:eA "1.":=⟨by decide+kernel,by decide+kernel,by unfold aI;decide+kernel⟩
def zM:eA "...2":=⟨by decide+kernel,by decide+kernel,by unfold aI;decide+kernel⟩
def zN(k:Int):∃ x,atI [D.str "1.23456",D.str "12",D.str "1.",D.str "...2"] (k % 4)=be (.str x)/\eA x:=by
 rcases(by lia:k % 4=0\/k % 4=1\/k % 4=2\/k % 4=3) with e|e|e|e<;>rw[e]
 .exact⟨_,rfl,zJ⟩
 .exact⟨_,rfl,zK⟩
 .exact⟨_,rfl,zL⟩
 .exact⟨_,rfl,zM⟩
def zO(k:Int):∃ m,atI [D.int 1,D.int 70] (k % 2)=be (.int m)/\(m=1\/m=70):=by
 rcases(by lia:k % 2=0\/k % 2=1) with e|e<;>rw[e]
 .exact⟨1,rfl,.inl rfl⟩
 .exact⟨70,rfl,.inr rfl⟩
structure Rows(L:List Str):Prop where
 many:1<=L.length/\L.length<=8
 wide:∃ w,(1<=w/\w<=8)/\∀ l∈L,l.length=w/\∀ c∈cs l,aI c
variable{L:List x9}
def Rows.of{w t:Nat}(h1:1<=t)(h2:t<=8)(hl:L.length=t)(w1:1<=w)(w2:w<=8)(h:∀ l∈L,l.length=w/\∀ c∈cs l,aI c):Rows L:=⟨by lia,w,⟨w1,w2⟩,h⟩
def zP{x:x9}{c:Nat}{i:Nat}(h1:x.length=i)(h2:∀ c∈cs x,aI c)(hc:aI c):(x++⟨#[c]⟩:x9).length=i+1/\∀ c'∈cs (x++⟨#[c]⟩),aI c':=by
 refine⟨by rw[av,h1];rfl,λc' q=>?_⟩;rw[bC] at q;rcases Et.mp q with q|q
 .exact h2 _ q
 .have:c'=c:=by simpa[cs] using q
  rw[this];exact hc
def zQ{x:x9}:L.map D.str++[D.str x]=(L++[x]).map D.str:=by simp
def cY(L:List x9)(a b c d:Int):Str:=("["++Txt.join "/" L)++((((((((";":x9)++(toString a:String))++",")++(toString b:String))++";")++(toString c:String))++",")++(toString d:String))++"]"
def br(h: -12<=a/\a<=12):((toString a:String):x9).length<=3:=by
 have key:∀ k:Fin 25,((toString (((k.val:Nat):Int) - 12):String):x9).length<=3:=by decide+kernel
 have:=key ⟨(a+12).toNat,by lia⟩;have e:(((a+12).toNat:Nat):Int) - 12=a:=by lia
 rw[e] at this;exact this
def B12(a:Int):Prop:=-12<=a/\a<=12
def B12.lt(h:B12 a):a.natAbs<1073741824:=by unfold B12 at h;lia
def jP{w:Nat}(h:∀ l∈L,l.length=w):(L.map (·.length)).sum=L.length*w:=by
 induction L with
 |nil=>simp
 |cons x L ih=>
  rw[Eb,List.sum_cons,ih (λl hl=>h l (D4 _ hl)),h x Ea,D0,FI,Nat.add_comm]
def rb(h:Rows L):(L.map (·.length)).sum+L.length*("/":x9).length<=72:=by
 obtain⟨h1,w,hw,h2⟩:=h;rw[jP (λl hl=>(h2 l hl).1)];have e:("/":x9).length=1:=rfl;rw[e];have:=F8 h1.2 hw.2;lia
def zR:SpD:=λds R=>∃ xs:List Int,ds=[.lst (xs.map D.int)]/\40<=xs.length/\Drawn xs/\∀ L:List x9,Rows L->R (.lst (L.map D.str))
def zS:SpD:=λds R=>∃ (L:List x9) (a b c d:Int),ds=[.lst (L.map D.str),.tup [.int a,.int b],.tup [.int c,.int d]]/\Rows L/\B12 a/\B12 b/\B12 c/\B12 d/\R (.str (cY L a b c d))
structure Leaf where
 rows:List x9
 a:Int
 b:Int
 c:Int
 d:Int
 w0:Int
 w1:Int
 w2:Int
 w3:Int
 w4:Int
 w5:Int
 hues:List Int
def Leaf.D(l:Leaf):My.D:= .tup [.lst (l.rows.map D.str),.tup [.int l.a,.int l.b],.tup [.int l.c,.int l.d],.tup [.int l.w0,.int l.w1,.int l.w2,.int l.w3,.int l.w4,.int l.w5],.lst (l.hues.map D.int)]
structure Leaf.Ok(l:Leaf):Prop where
 rows:Rows l.rows
 a:B12 l.a
 b:B12 l.b
 c:B12 l.c
 d:B12 l.d
 ne:¬ l.a*l.d=l.b*l.c
 w0:l.w0.natAbs<=1
 w1:l.w1.natAbs<=1
 w2:l.w2.natAbs<=1
 w3:l.w3.natAbs<=1
 w4:l.w4.natAbs<=1000
 w5:l.w5.natAbs<=1000
 many:l.hues.length=7
 hue:∀ h∈l.hues,0<=h/\h<=6
def onB(a b c d u v:Int):Bool:=decide ((u*d - v*c).fmod (a*d - b*c)=0/\(a*v - b*u).fmod (a*d - b*c)=0)
def scanRow(f:Int->Bool):Nat->List Nat->Option Nat
 |_,[]=>q_
 |i,c::r=>if c≠46/\f i=true then be c else scanRow f (i+1) r
def bw(f:Int->Int->Bool):Nat->List x9->Option Nat
 |_,[]=>q_
 |j,l::r=>match scanRow (λi=>f i j) 0 (cs l) with|some c=>be c|none=>bw f (j+1) r
def Leaf.hit(l:Leaf)(x y:Int):Option Nat:=bw (λi j=>onB l.a l.b l.c l.d (l.w0*x+l.w1*y+l.w4 - i) (l.w2*x+l.w3*y+l.w5 - j)) 0 l.rows
def Leaf.shows(l:Leaf)(x y:Int):Int:=match l.hit x y with|some c=>cell l.hues ((c:Int) - 48)|none=>0
def one_sign{c:Nat}:(⟨#[c]⟩:x9)="."↔c=46:=by
 constructor
 .intro h;have:(#[c]:Array Nat)=(".":x9).cps:=congrArg Str.cps h;have e:(#[c]:Array Nat).toList=(".":x9).cps.toList:=by rw[this]
  have e2:(".":x9).cps.toList=[46]:=rfl;rw[e2] at e;simpa using e
 .rintro rfl;rfl
def digit_of{c:Nat}(h:49<=c/\c<=54):PySem.intText? (⟨#[c]⟩:x9)=be ((c:Int) - 48):=by
 rcases(by lia:c=49\/c=50\/c=51\/c=52\/c=53\/c=54) with e|e|e|e|e|e<;>subst e<;>decide+kernel
def at_str{j:Nat}{x:x9}(h:L[j]?=be x):atI (L.map D.str) (j:Int)=be (.str x):=cv (by rw[D5,h];rfl)
def bT{n:Int}{k:Nat}{x:D}(h:((DV n.toNat).map λk=>D.int ((k:Nat):Int))[k]?=be x):k<n.toNat/\x= .int (k:Int):=by
 have hk:k<n.toNat:=by simpa using(Ec.mp h).1
 refine⟨hk,?_⟩;simp[hk] at h;exact h.symm
def bM{n:Int}:((DV n.toNat).map λk=>D.int ((k:Nat):Int)).length=n.toNat:=by simp
def aU:List Leaf->Int->Int->Int
 |[],_,_=>0
 |l::r,x,y=>if l.shows x y≠0 then l.shows x y else aU r x y
variable{hs:List Int}
def zT(h:∀ h∈hs,0<=h/\h<=6)(k:Int):0<=cell hs k/\cell hs k<=6:=by
 by_cases hk:k.toNat<hs.length
 .have:cell hs k=hs[k.toNat]:=by simp[cell,EB,Ei hk]
  rw[this];exact h _ (EJ hk)
 .have:cell hs k=0:=by simp[cell,EB,EC (Fj hk)]
  lia
def Leaf.shows_le{l:Leaf}(h:l.Ok)(x y:Int):0<=l.shows x y/\l.shows x y<=6:=by
 unfold Leaf.shows;split
 .exact zT h.hue _
 .lia
def rg:∀ {ls:List Leaf} (x y:Int),(∀ l∈ls,l.Ok)->0<=aU ls x y/\aU ls x y<=6
 |[],_,_,_=>by simp[aU]
 |l::r,x,y,h=>by
  unfold aU;split
  .exact Leaf.shows_le (h l Ea) x y
  .exact rg x y λl' q=>h l' (D4 _ q)
def cb(L:List x9)(a b c d:Int):Leaf:=⟨L,a,b,c,d,1,0,0,1,0,0,[0,1,2,3,4,5,6]⟩
def zU:SpD:=λds R=>∃ (l:Leaf) (x y:Int),ds=[l.D,.int x,.int y]/\l.Ok/\R (.int (l.shows x y))
def zV:SpD:=λds R=>∃ (ls:List Leaf) (x y:Int),ds=[.lst (ls.map Leaf.D),.int x,.int y]/\(∀ l∈ls,l.Ok)/\R (.int (aU ls x y))
def zW:SpD:=λds R=>∃ v:Int,ds=[.int v]/\∀ c:Int,-1000000000000<=c->c<=1000000000000->R (.int c)
def zX(k:Int):∃ c,atI [D.int (-(10 ^ Ft 12)),D.int (1 - 10 ^ Ft 12),D.int (10 ^ Ft 12 - 1),D.int (10 ^ Ft 12)] (k % 4)=be (.int c)/\-1000000000000<=c/\c<=1000000000000:=by
 rcases(by lia:k % 4=0\/k % 4=1\/k % 4=2\/k % 4=3) with e|e|e|e<;>rw[e]
 .exact⟨_,rfl,by decide,by decide⟩
 .exact⟨_,rfl,by decide,by decide⟩
 .exact⟨_,rfl,by decide,by decide⟩
 .exact⟨_,rfl,by decide,by decide⟩
inductive Pat where
 |mot (L:List Str) (a b c d:Int)
 |over (p q:Pat)
 |sh (a b:Int) (p:Pat)
 |mir (p:Pat)
 |tur (p:Pat)
 |hue (f g:Int) (p:Pat)
def Pat.text:Pat->x9
 | .mot L a b c d=>cY L a b c d
 | .over p q=>(((("(":x9)++p.text)++"|")++q.text)++")"
 | .sh a b p=>((((("s":x9)++(toString a:String))++",")++(toString b:String))++":")++p.text
 | .mir p=>("m":x9)++p.text
 | .tur p=>("t":x9)++p.text
 | .hue f g p=>((("h":x9)++(toString f:String))++(toString g:String))++p.text
def Pat.depth:Pat->Nat
 | .mot ..=>0
 | .over p q=>1+max p.depth q.depth
 | .sh _ _ p=>p.depth+1
 | .mir p=>p.depth+1
 | .tur p=>p.depth+1
 | .hue _ _ p=>p.depth+1
def Leaf.by(l:Leaf)(b0 b1 b2 b3 b4 b5:Int):Leaf:=
 {l with w0:=l.w0*b0+l.w1*b2,w1:=l.w0*b1+l.w1*b3,w2:=l.w2*b0+l.w3*b2,w3:=l.w2*b1+l.w3*b3,w4:=l.w4+l.w0*b4+l.w1*b5,w5:=l.w5+l.w2*b4+l.w3*b5}
def bD(f g h:Int):Int:=if h=f then g else h
def Leaf.dye(l:Leaf)(f g:Int):Leaf:={l with hues:=l.hues.map (bD f g)}
def Pat.leaves:Pat->List Leaf
 | .mot L a b c d=>[cb L a b c d]
 | .over p q=>p.leaves++q.leaves
 | .sh a b p=>p.leaves.map (λl=>l.by 1 0 0 1 (-a) (-b))
 | .mir p=>p.leaves.map (λl=>l.by (-1) 0 0 1 0 0)
 | .tur p=>p.leaves.map (λl=>l.by 0 1 (-1) 0 0 0)
 | .hue f g p=>p.leaves.map (λl=>(l.by 1 0 0 1 0 0).dye f g)
def Pat.show:Pat->Int->Int->Int
 | .mot L a b c d,x,y=>(cb L a b c d).shows x y
 | .over p q,x,y=>if p.show x y≠0 then p.show x y else q.show x y
 | .sh a b p,x,y=>p.show (x - a) (y - b)
 | .mir p,x,y=>p.show (-x) y
 | .tur p,x,y=>p.show y (-x)
 | .hue f g p,x,y=>bD f g (p.show x y)
def Pat.Wf:Pat->Prop
 | .mot L a b c d=>Rows L/\B12 a/\B12 b/\B12 c/\B12 d/\¬ a*d=b*c
 | .over p q=>p.Wf/\q.Wf
 | .sh a b p=>B12 a/\B12 b/\p.Wf
 | .mir p=>p.Wf
 | .tur p=>p.Wf
 | .hue f g p=>(1<=f/\f<=6)/\(1<=g/\g<=6)/\p.Wf
def Leaf.by_shows(l:Leaf)(b0 b1 b2 b3 b4 b5 x y:Int):(l.by b0 b1 b2 b3 b4 b5).shows x y=l.shows (b0*x+b1*y+b4) (b2*x+b3*y+b5):=by
 have e1:(l.w0*b0+l.w1*b2)*x+(l.w0*b1+l.w1*b3)*y+(l.w4+l.w0*b4+l.w1*b5)=l.w0*(b0*x+b1*y+b4)+l.w1*(b2*x+b3*y+b5)+l.w4:=by grind
 have e2:(l.w2*b0+l.w3*b2)*x+(l.w2*b1+l.w3*b3)*y+(l.w5+l.w2*b4+l.w3*b5)=l.w2*(b0*x+b1*y+b4)+l.w3*(b2*x+b3*y+b5)+l.w5:=by grind
 simp only[Leaf.shows,Leaf.hit,Leaf.by,e1,e2]
def ft(b0 b1 b2 b3 b4 b5 x y:Int):∀ ls:List Leaf,aU (ls.map (λl=>l.by b0 b1 b2 b3 b4 b5)) x y=aU ls (b0*x+b1*y+b4) (b2*x+b3*y+b5)
 |[]=>rfl
 |l::r=>by
  rw[Eb,aU,aU,Leaf.by_shows,ft b0 b1 b2 b3 b4 b5 x y r]
def scanRow_sign{f:Int->Bool}:∀ {cs:List Nat} {i c:Nat},(∀ c∈cs,aI c)->scanRow f i cs=be c->49<=c/\c<=54
 |[],_,_,_,h=>by cases h
 |a::r,i,c,hs,h=>by
  rw[scanRow] at h;split at h
  .rename_i q;cases h;have:=hs a Ea;unfold aI at this;have:=q.1;lia
  .exact scanRow_sign (λc q=>hs c (D4 _ q)) h
def jQ{f:Int->Int->Bool}:∀ {L:List x9} {j c:Nat},(∀ l∈L,∀ c∈cs l,aI c)->bw f j L=be c->49<=c/\c<=54
 |[],_,_,_,h=>by cases h
 |a::r,j,c,hs,h=>by
  rw[bw] at h;split at h
  .rename_i q;cases h;exact scanRow_sign (hs a Ea) q
  .exact jQ (λl q=>hs l (D4 _ q)) h
def zY{k:Int}(h:k.toNat<hs.length):cell (hs.map (bD f g)) k=bD f g (cell hs k):=by
 simp[cell,EB,D5,Ei h]
def Leaf.dye_shows{l:Leaf}(ok:l.Ok)(hf:1<=f)(x y:Int):(l.dye f g).shows x y=bD f g (l.shows x y):=by
 have e:(l.dye f g).hit x y=l.hit x y:=rfl;unfold Leaf.shows;rw[e];cases h:l.hit x y with
 |none=>simp[bD];lia
 |some c=>
  have hc:49<=c/\c<=54:=jQ (λl' q=>let ⟨_,_,_,h⟩:=ok.rows;(h l' q).2) h;exact zY (by rw[ok.many];lia)
def rh(hf:1<=f)(hg:1<=g):bD f g h=0↔h=0:=by
 unfold bD;split<;>lia
def ri{f g:Int}(hf:1<=f)(hg:1<=g)(x y:Int):∀ ls:List Leaf,(∀ l∈ls,l.Ok)->aU (ls.map (λl=>l.dye f g)) x y=bD f g (aU ls x y)
 |[],_=>by simp[aU,bD];lia
 |l::r,h=>by
  rw[Eb,aU,aU,Leaf.dye_shows (h l Ea) hf,ri hf hg x y r λl q=>h l (D4 _ q)];by_cases z:l.shows x y=0
  .rw[if_neg (λq=>q ((rh hf hg).mpr z)),if_neg (λq=>q z)]
  .rw[if_pos (λq=>z ((rh hf hg).mp q)),if_pos z]
def rj(x y:Int):∀ (a b:List Leaf),aU (a++b) x y=if aU a x y≠0 then aU a x y else aU b x y
 |[],b=>by simp[aU]
 |l::r,b=>by
  rw[EF,aU,aU];by_cases z:l.shows x y≠0
  .rw[if_pos z,if_pos z,if_pos z]
  .rw[if_neg z,if_neg z,rj x y r b]
structure Leaf.Near(l:Leaf)(n:Nat):Prop where
 u0:(l.w0.natAbs=1/\l.w1=0/\l.w2=0/\l.w3.natAbs=1)\/(l.w0=0/\l.w1.natAbs=1/\l.w2.natAbs=1/\l.w3=0)
 w4:l.w4.natAbs<=24*n
 w5:l.w5.natAbs<=24*n
variable{n:Nat}
def Leaf.Near.mono{l:Leaf}{m:Nat}(h:l.Near n)(k:n<=m):l.Near m:=⟨h.u0,by have:=h.w4;lia,by have:=h.w5;lia⟩
def Leaf.Near.unit{l:Leaf}(h:l.Near n):(l.w0=1\/l.w0=-1\/l.w0=0)/\(l.w1=1\/l.w1=-1\/l.w1=0)/\(l.w2=1\/l.w2=-1\/l.w2=0)/\(l.w3=1\/l.w3=-1\/l.w3=0):=by
 have:=h.u0;lia
def rk{e:Int}(h:e.natAbs<=24*n)(hw:w=1\/w=-1\/w=0)(hv:v=1\/v=-1\/v=0)(ha:B12 a)(hb:B12 b):(e+w* -a+v* -b).natAbs<=24*(n+1):=by
 have m:∀ {w a:Int},(w=1\/w=-1\/w=0)->B12 a->(w* -a).natAbs<=12:=λhw ha=>by
  unfold B12 at ha;rcases hw with rfl|rfl|rfl<;>lia
 have:=m hw ha;have:=m hv hb;generalize w* -a=x at*;generalize v* -b=y at*;clear m hw hv ha hb;lia
def zZ{l:Leaf}(h:l.Near n)(ha:B12 a)(hb:B12 b):(l.by 1 0 0 1 (-a) (-b)).Near (n+1):=by
 obtain⟨h0,h1,h2,h3⟩:=h.unit;exact⟨by simpa[Leaf.by] using h.u0,rk h.w4 h0 h1 ha hb,rk h.w5 h2 h3 ha hb⟩
def Aa{l:Leaf}(h:l.Near n):(l.by (-1) 0 0 1 0 0).Near (n+1):=by
 have p:=h.w4;have q:=h.w5;exact⟨by simpa[Leaf.by] using h.u0,by simp[Leaf.by];lia,by simp[Leaf.by];lia⟩
def Ab{l:Leaf}(h:l.Near n):(l.by 0 1 (-1) 0 0 0).Near (n+1):=by
 have p:=h.w4;have q:=h.w5;refine⟨?_,by simp[Leaf.by];lia,by simp[Leaf.by];lia⟩;rcases h.u0 with⟨a,b,c,d⟩|⟨a,b,c,d⟩
 .exact .inr (by simp[Leaf.by,a,b,c,d])
 .exact .inl (by simp[Leaf.by,a,b,c,d])
def rn{l:Leaf}(h:l.Near n):((l.by 1 0 0 1 0 0).dye f g).Near (n+1):=by
 have p:=h.w4;have q:=h.w5;exact⟨by simpa[Leaf.by,Leaf.dye] using h.u0,by simp[Leaf.by,Leaf.dye];lia,by simp[Leaf.by,Leaf.dye];lia⟩
structure Leaf.Good(l:Leaf):Prop where
 rows:Rows l.rows
 a:B12 l.a
 b:B12 l.b
 c:B12 l.c
 d:B12 l.d
 ne:¬ l.a*l.d=l.b*l.c
 many:l.hues.length=7
 hue:∀ h∈l.hues,0<=h/\h<=6
def Leaf.ok_of{l:Leaf}(g:l.Good)(h:l.Near n)(hn:n<=40):l.Ok:=by
 have:=h.u0;have:=h.w4;have:=h.w5;exact⟨g.rows,g.a,g.b,g.c,g.d,g.ne,by lia,by lia,by lia,by lia,by lia,by lia,g.many,g.hue⟩
def Pat.leaf_good:∀ {p:Pat},p.Wf->∀ l∈p.leaves,l.Good/\l.Near p.depth
 | .mot L a b c d,h,l,q=>by
  have:l=cb L a b c d:=by simpa[Pat.leaves] using q
  subst this;obtain⟨h1,h2,h3,h4,h5,h6⟩:=h;exact⟨⟨h1,h2,h3,h4,h5,h6,rfl,by intro h q;simp[cb] at q;lia⟩,⟨by simp[cb],by simp[cb],by simp[cb]⟩⟩
 | .over p r,h,l,q=>by
  rcases Et.mp q with q|q
  .obtain⟨g,n⟩:=Pat.leaf_good h.1 l q;exact⟨g,n.mono (by simp only[Pat.depth];lia)⟩
  .obtain⟨g,n⟩:=Pat.leaf_good h.2 l q;exact⟨g,n.mono (by simp only[Pat.depth];lia)⟩
 | .sh a b p,h,l,q=>by
  obtain⟨l',q',rfl⟩:=El.mp q;obtain⟨g,n⟩:=Pat.leaf_good h.2.2 l' q';exact⟨⟨g.rows,g.a,g.b,g.c,g.d,g.ne,g.many,g.hue⟩,zZ n h.1 h.2.1⟩
 | .mir p,h,l,q=>by
  obtain⟨l',q',rfl⟩:=El.mp q;obtain⟨g,n⟩:=Pat.leaf_good (p:=p) h l' q';exact⟨⟨g.rows,g.a,g.b,g.c,g.d,g.ne,g.many,g.hue⟩,Aa n⟩
 | .tur p,h,l,q=>by
  obtain⟨l',q',rfl⟩:=El.mp q;obtain⟨g,n⟩:=Pat.leaf_good (p:=p) h l' q';exact⟨⟨g.rows,g.a,g.b,g.c,g.d,g.ne,g.many,g.hue⟩,Ab n⟩
 | .hue f k p,h,l,q=>by
  obtain⟨l',q',rfl⟩:=El.mp q;obtain⟨g,n⟩:=Pat.leaf_good (p:=p) h.2.2 l' q';refine⟨⟨g.rows,g.a,g.b,g.c,g.d,g.ne,?_,λv hv=>?_⟩,rn n⟩
  .show(l'.hues.map _).length=7;rw[DZ];exact g.many
  .obtain⟨u,hu,rfl⟩:=El.mp hv;have:=g.hue u hu;have:=h.2.1;unfold bD;split<;>lia
variable{p:Pat}
def Pat.leaf_ok(h:p.Wf)(hd:p.depth<=40):∀ l∈p.leaves,l.Ok:=λl q=>Leaf.ok_of (Pat.leaf_good h l q).1 (Pat.leaf_good h l q).2 hd
def Pat.show_leaves:∀ {p:Pat},p.Wf->p.depth<=40->∀ x y,aU p.leaves x y=p.show x y
 | .mot L a b c d,_,_,x,y=>by
  simp only[Pat.leaves,Pat.show,aU];split
  .rfl
  .lia
 | .over p q,h,hd,x,y=>by
  simp only[Pat.depth] at hd;rw[Pat.leaves,rj,Pat.show_leaves h.1 (by lia),Pat.show_leaves h.2 (by lia),Pat.show]
 | .sh a b p,h,hd,x,y=>by
  simp only[Pat.depth] at hd;rw[Pat.leaves,ft,Pat.show_leaves h.2.2 (by lia),Pat.show];congr 1<;>lia
 | .mir p,h,hd,x,y=>by
  simp only[Pat.depth] at hd;rw[Pat.leaves,ft,Pat.show_leaves (p:=p) h (by lia),Pat.show];congr 1<;>lia
 | .tur p,h,hd,x,y=>by
  simp only[Pat.depth] at hd;rw[Pat.leaves,ft,Pat.show_leaves (p:=p) h (by lia),Pat.show];congr 1<;>lia
 | .hue f g p,h,hd,x,y=>by
  simp only[Pat.depth] at hd;have e:p.leaves.map (λl=>(l.by 1 0 0 1 0 0).dye f g)=(p.leaves.map (λl=>l.by 1 0 0 1 0 0)).map (λl=>l.dye f g):=by rw[Fu];rfl
  rw[Pat.leaves,e,ri h.1.1 h.2.1.1,ft,Pat.show_leaves h.2.2 (by lia),Pat.show]
  .congr 2<;>lia
  .intro l q;obtain⟨l',q',rfl⟩:=El.mp q;obtain⟨g',n⟩:=Pat.leaf_good h.2.2 l' q';have n':=rn (f:=f) (g:=g) n;have:(l'.by 1 0 0 1 0 0).Near (p.depth+1):=⟨n'.u0,n'.w4,n'.w5⟩;exact Leaf.ok_of ⟨g'.rows,g'.a,g'.b,g'.c,g'.d,g'.ne,g'.many,g'.hue⟩ this (by lia)
def Pat.D(p:Pat):My.D:= .lst [.str p.text,.int p.depth,.lst (p.leaves.map Leaf.D)]
def Leaf.T(dy:Bool)(d5 new b0 b1 b2 b3 b4 b5:Int)(l:Leaf):Leaf:=if dy then(l.by b0 b1 b2 b3 b4 b5).dye d5 new else l.by b0 b1 b2 b3 b4 b5
def cZ(h:1<=a/\a<=6):((toString a:String):x9).length<=3:=br (by lia)
def Wraps(p:Pat)(H:Prop)(R:My.D->Prop):Prop:=(5<=p.depth->R p.D)/\(p.depth<5->R (Pat.mir p).D/\R (Pat.tur p).D/\(∀ a b,B12 a->B12 b->R (Pat.sh a b p).D)/\(H->∀ f g:Int,(1<=f/\f<=6)->(1<=g/\g<=6)->R (Pat.hue f g p).D))
variable{A:Int}
def Ac{R:My.D->Prop}(h:Wraps p (j=3) R)(hd:p.depth<5){k B d5 new:Int}(hA:B12 A)(hB:B12 B)(ho:1<=d5/\d5<=6)(hn:1<=new/\new<=6)(hj:0<=j/\j<4):
  ∃ (hs:x9) (b0 b1 b2 b3 b4 b5:Int),atI [D.str "m",D.str "t",D.str ((((("s":x9)++(toString A:String))++",")++(toString B:String))++":"),D.str ((("h":x9)++(toString d5:String))++(toString new:String))] j=be (.str hs)/\
   atI ([D.tup [.int (-1),.int 0,.int 0,.int 1,.int 0,.int 0],D.tup [.int 0,.int 1,.int (-1),.int 0,.int 0,.int 0]]++[D.tup [.int 1,.int 0,.int 0,.int 1,.int (-A),.int (-B)],D.tup [.int 1,.int 0,.int 0,.int 1,.int 0,.int 0]]) j=be (.tup [.int b0,.int b1,.int b2,.int b3,.int b4,.int b5])/\
   (b0.natAbs<=1/\b1.natAbs<=1/\b2.natAbs<=1/\b3.natAbs<=1/\b4.natAbs<=12/\b5.natAbs<=12)/\hs.length<=20/\
   R (.lst [.str (hs++p.text),.int (p.depth+1),.lst ((p.leaves.map (Leaf.T (decide (j=3)) d5 new b0 b1 b2 b3 b4 b5)).map Leaf.D)]):=by
 obtain⟨h1,h2,h3,h4⟩:=h.2 hd;have l1:("s":x9).length=1:=rfl;have l2:(",":x9).length=1:=rfl;have l3:(":":x9).length=1:=rfl;have l4:("h":x9).length=1:=rfl;have lA:=br hA;have lB:=br hB;have lo:=cZ ho;have ln:=cZ hn;have eD:∀ n:Nat,D.int ((n+1:Nat):Int)=D.int ((n:Int)+1):=λn=>by congr 1
 unfold B12 at hA hB;rcases(by lia:j=0\/j=1\/j=2\/j=3) with rfl|rfl|rfl|rfl
 .exact⟨_,_,_,_,_,_,_,rfl,rfl,by lia,by decide,h1⟩
 .exact⟨_,_,_,_,_,_,_,rfl,rfl,by lia,by decide,h2⟩
 .refine⟨_,_,_,_,_,_,_,rfl,rfl,by lia,?_,h3 A B hA hB⟩
  repeat rw[av]
  lia
 .refine⟨_,_,_,_,_,_,_,rfl,rfl,by lia,?_,h4 rfl d5 new ho hn⟩
  repeat rw[av]
  lia
def Ad(h d5 new:Int):atI [D.int h,D.int new] (if decide (h=d5)=true then(1:Int) else 0)=be (.int (bD d5 new h)):=by
 unfold bD;by_cases e:h=d5
 .rw[if_pos e,if_pos (by simpa using e)];rfl
 .rw[if_neg e,if_neg (by simpa using e)];rfl
def rq{α:Type}{xs:List α}{k:Nat}{x:α}(h:xs[k]?=be x):xs.take (k+1)=xs.take k++[x]:=by
 have hk:k<xs.length:=(Ec.mp h).1;rw[GC,h];rfl
def Pat.leaves_len:∀ (p:Pat),p.leaves.length<=2 ^ p.depth
 | .mot ..=>DU _
 | .over p q=>by
  have h1:=p.leaves_len;have h2:=q.leaves_len;have m1:2 ^ p.depth<=2 ^ (max p.depth q.depth):=EL (by decide) (Ga _ _);have m2:2 ^ q.depth<=2 ^ (max p.depth q.depth):=EL (by decide) (Gb _ _);rw[Pat.leaves,D7,Pat.depth,Gc];lia
 | .sh a b p=>by rw[Pat.leaves,DZ,Pat.depth,Ey];have:=p.leaves_len;lia
 | .mir p=>by rw[Pat.leaves,DZ,Pat.depth,Ey];have:=p.leaves_len;lia
 | .tur p=>by rw[Pat.leaves,DZ,Pat.depth,Ey];have:=p.leaves_len;lia
 | .hue f g p=>by rw[Pat.leaves,DZ,Pat.depth,Ey];have:=p.leaves_len;lia
def Pat.leaves_32(h:p.depth<=5):p.leaves.length<=32:=D9 p.leaves_len (EL (by decide) h)
def Ae:SpD:=λds R=>∃ (p:Pat) (draw:Int),ds=[p.D,.int draw]/\p.Wf/\p.depth<=5/\p.text.length<=100000/\Wraps p (draw % 4=3) R
def rz(hn:¬ a*d=b*c)(h:(u*d - v*c).fmod (a*d - b*c)=0/\(a*v - b*u).fmod (a*d - b*c)=0):∃ i j,u=i*a+j*c/\v=i*b+j*d:=by
 have hz:a*d - b*c≠0:=by omega
 obtain⟨i,ei⟩:(a*d - b*c)∣(u*d - v*c):=⟨_,(GL h.1).symm⟩;obtain⟨j,ej⟩:(a*d - b*c)∣(a*v - b*u):=⟨_,(GL h.2).symm⟩;refine⟨i,j,?_,?_⟩
 .have:(a*d - b*c)*u=(a*d - b*c)*(i*a+j*c):=by
   have q1:(a*d - b*c)*u=a*(u*d - v*c)+c*(a*v - b*u):=by grind
   rw[q1,ei,ej];grind
  exact F9 hz this
 .have:(a*d - b*c)*v=(a*d - b*c)*(i*b+j*d):=by
   have q1:(a*d - b*c)*v=b*(u*d - v*c)+d*(a*v - b*u):=by grind
   rw[q1,ei,ej];grind
  exact F9 hz this
def Uni.trans{x0 x1 y0 y1:Int}(h:Uni a b c d p0 p1 q0 q1)(k:Uni p0 p1 q0 q1 x0 x1 y0 y1):Uni a b c d x0 x1 y0 y1:=by
 obtain⟨m,n,k1,l,hd,rfl,rfl,rfl,rfl⟩:=h;obtain⟨m',n',k',l',j8,rfl,rfl,rfl,rfl⟩:=k;have dt:(m'*m+n'*k1)*(k'*n+l'*l) - (m'*n+n'*l)*(k'*m+l'*k1)=(m'*l' - n'*k')*(m*l - n*k1):=by grind
 refine⟨m'*m+n'*k1,m'*n+n'*l,k'*m+l'*k1,k'*n+l'*l,?_,by grind,by grind,by grind,by grind⟩;rw[dt];rcases hd with e|e<;>rcases j8 with e'|e'<;>rw[e,e']<;>decide
def fu:∀ (n:Nat) (a b c d:Int),d.natAbs<=n->∃ p0 p1 q0,Lev a b c d p0 p1 q0
 |n,a,b,c,d,hn=>by
  by_cases hd:d=0
  .subst hd;by_cases hb:0<=b
   .exact⟨a,b,c,hb,Uni.refl a b c 0⟩
   .exact⟨-a,-b,c,by lia,(Uni.refl a b c 0).neg⟩
  .match n,hn with
   |0,hn=>exact absurd (by lia:d=0) hd
   |n+1,hn=>
    have lt:=(fdm b d hd).1;obtain⟨p0,p1,q0,h0,hu⟩:=fu n c d (a - b.fdiv d*c) (b - b.fdiv d*d) (by lia);exact⟨p0,p1,q0,h0,((Uni.refl a b c d).step (b.fdiv d)).trans hu⟩
def DP(hn:¬ a*d=b*c)(g0:0<=g)(g1:g∣b)(g2:g∣d)(g3:∀ e,e∣b->e∣d->e∣g):
  ∃ w s,FamOf a b c d w g s:=by
 obtain⟨p0,p1,q0,hL⟩:=fu d.natAbs a b c d (DU _);have hF:=gB hn hL;have hp:=hF.2.1;obtain⟨m,n,k,l,_,e1,e2,e3,e4⟩:=hL.2;obtain⟨m',n',k',l',_,f1,f2,f3,f4⟩:=hL.2.inv;have d1:p1∣g:=g3 p1 ⟨m',by rw[f2];grind⟩ ⟨k',by rw[f4];grind⟩;have d2:g∣p1:=by
  rw[e2];exact Int.dvd_add (GM g1) (GM g2)
 have:p1=g:=Int.dvd_antisymm (by lia) g0 d1 d2;subst this;exact⟨_,_,hF⟩
def FamOf.uniq_lean(f:FamOf a b c d w h s)(e1:x=i*a+j*c)(e2:h=i*b+j*d)(h0:0<=x)(h1:x<=s):x=s:=by
 obtain⟨hw,hh,hs,y_,hu⟩:=f;obtain⟨m,n,k,l,_,f1,f2,f3,f4⟩:=hu.inv;have ex:x=(i*m+j*k)*w+(i*n+j*l)*s:=by rw[e1,f1,f3];grind
 have eh:h=(i*n+j*l)*h:=by
  have:i*b+j*d=(i*n+j*l)*h:=by rw[f2,f4];grind
  rw[<- this];exact e2
 have one:i*n+j*l=1:=by
  have:(i*n+j*l)*h=1*h:=by lia
  exact Fe (by lia) this
 rw[one] at ex;generalize i*m+j*k=t at ex;have:t*w=x - s:=by lia
 rcases(by lia:t<=-1\/t=0\/1<=t) with z|z|z
 .have:=Ef z (show 0<=w by lia);lia
 .subst z;lia
 .have:=Ef z (show 0<=w by lia);lia
def Leaf.o0(l:Leaf):Int:=l.w0*l.a+l.w2*l.b
def Leaf.o1(l:Leaf):Int:=l.w1*l.a+l.w3*l.b
def Leaf.t0(l:Leaf):Int:=l.w0*l.c+l.w2*l.d
def Leaf.t1(l:Leaf):Int:=l.w1*l.c+l.w3*l.d
def jR(x y:Int):∃ g u,Meas x y g u:=by
 obtain⟨p0,p1,q0,hL⟩:=fu y.natAbs 1 x 0 y (DU _);exact⟨p1,p0,qU ⟨hL.1,hL.2⟩⟩
structure Fm(w h s:Int):Prop where
 w0:0<w
 w1:w<=720
 h0:0<h
 h1:h<=720
 s0:0<=s
 sw:s<w
def MetR.high(M:MetR w1 h1 s1 w2 h2 s2 w h s A)(hh:0<h1)(hj:1<=j)(e1:∃ i,x=i*w1+j*s1)(e2:∃ i k,x=i*w2+k*s2/\j*h1=k*h2):h<=j*h1/\(j*h1=h->0<=x->x<w->x=s):=by
 obtain⟨i,e1⟩:=e1;obtain⟨i',k,e3,e4⟩:=e2;obtain⟨a,b,e5,e6⟩:=M.all x (j*h1) ⟨i,j,e1,rfl⟩ ⟨i',k,e3,e4⟩;have hp:0<j*h1:=Eg (by lia) hh;have hb:1<=b:=by
  rcases(by lia:b<=0\/1<=b) with z|z
  .have:=Fd z (show 0<=h by have:=M.h0;lia);lia
  .exact z
 refine⟨?_,λe x0 x1=>?_⟩
 .have:=Ef hb (show 0<=h by have:=M.h0;lia);lia
 .have ob:b=1:=by
   have:b*h=1*h:=by lia
   exact Fe (by have:=M.h0;lia) this
  rw[ob] at e5;have s0:=M.s0;have sw:=M.sw;have:a*w=x - s:=by lia
  rcases(by lia:a<=-1\/a=0\/1<=a) with z|z|z
  .have:=Ef z (show 0<=w by lia);lia
  .subst z;lia
  .have:=Ef z (show 0<=w by lia);lia
def InF(w h s x y:Int):Prop:=∃ i j,x=i*w+j*s/\y=j*h
def Leaf.Lat(l:Leaf)(x y:Int):Prop:=∃ i j,x=i*l.o0+j*l.t0/\y=i*l.o1+j*l.t1
def FamOf.lat(f:FamOf a b c d w h s)(x y:Int):InF w h s x y↔∃ i j,x=i*a+j*c/\y=i*b+j*d:=by
 obtain⟨_,_,_,_,hu⟩:=f;obtain⟨m,n,k,l,_,e1,e2,e3,e4⟩:=id hu;obtain⟨m',n',k',l',_,f1,f2,f3,f4⟩:=hu.inv;constructor
 .rintro⟨i,j,rfl,rfl⟩;refine⟨i*m+j*k,i*n+j*l,by rw[e1,e3];grind,?_⟩;have z:i*0+j*h=(i*m+j*k)*b+(i*n+j*l)*d:=by rw[e2,e4];grind
  lia
 .rintro⟨i,j,rfl,rfl⟩;refine⟨i*m'+j*k',i*n'+j*l',by rw[f1,f3];grind,by rw[f2,f4];grind⟩
def MetR.lat(M:MetR w1 h1 s1 w2 h2 s2 w h s A)(x y:Int):InF w h s x y↔InF w1 h1 s1 x y/\InF w2 h2 s2 x y:=by
 constructor
 .rintro⟨i,j,rfl,rfl⟩;obtain⟨a1,e1⟩:=M.in1;obtain⟨a2,e2⟩:=M.in2;obtain⟨b1,c1,e3,e4⟩:=M.up1;obtain⟨b2,c2,e5,e6⟩:=M.up2;refine⟨⟨i*a1+j*b1,j*c1,?_,?_⟩,⟨i*a2+j*b2,j*c2,?_,?_⟩⟩
  .rw[e1,e3];grind
  .rw[e4];grind
  .rw[e2,e5];grind
  .rw[e6];grind
 .rintro⟨h1,h2⟩;exact M.all x y h1 h2
variable{w' h' s':Int}
def InF.le(hw:0<w)(hh:0<h)(KY:0<w')(KZ:0<h')(sub:∀ x y,InF w' h' s' x y->InF w h s x y):w*h<=w'*h'/\w<=w'/\h<=h':=by
 obtain⟨i,j,e1,e2⟩:=sub w' 0 ⟨1,0,by lia,by lia⟩;have j0:j=0:=by
  rcases Gd.mp e2.symm with z|z
  .exact z
  .lia
 subst j0;have i1:1<=i:=by
  rcases(by lia:i<=0\/1<=i) with z|z
  .have:=Fd z (show 0<=w by lia);lia
  .exact z
 obtain⟨i',j',e3,e4⟩:=sub s' h' ⟨0,1,by lia,by lia⟩;have j1:1<=j':=by
  rcases(by lia:j'<=0\/1<=j') with z|z
  .have:=Fd z (show 0<=h by lia);lia
  .exact z
 have a1:=Ef i1 (show 0<=w by lia);have a2:=Ef j1 (show 0<=h by lia);have b1:w<=w':=by lia
 have b2:h<=h':=by lia
 exact⟨GN b1 b2 (by lia) (by lia),b1,b2⟩
def InF.uniq(hw:0<w)(hh:0<h)(hs:0<=s)(y_:s<w)(KY:0<w')(KZ:0<h')(HP:0<=s')(N2:s'<w')(e:∀ x y,InF w h s x y↔InF w' h' s' x y):w=w'/\h=h'/\s=s':=by
 obtain⟨_,a1,a2⟩:=InF.le hw hh KY KZ (λx y q=>(e x y).mpr q);obtain⟨_,b1,b2⟩:=InF.le KY KZ hw hh (λx y q=>(e x y).mp q);have ew:w=w':=by lia
 have eh:h=h':=by lia
 subst ew eh;refine⟨rfl,rfl,?_⟩;obtain⟨i,j,e1,e2⟩:=(e s h).mp ⟨0,1,by lia,by lia⟩;have j1:j=1:=by
  have:j*h=1*h:=by lia
  exact Fe (by lia) this
 subst j1;have:i*w=s - s':=by lia
 rcases(by lia:i<=-1\/i=0\/1<=i) with z|z|z
 .have:=Ef z (show 0<=w by lia);lia
 .subst z;lia
 .have:=Ef z (show 0<=w by lia);lia
structure Fam0(w h s:Int):Prop where
 w0:0<w
 h0:0<h
 s0:0<=s
 sw:s<w
def Af(f:Fam0 w1 h1 s1)(k:Fam0 w2 h2 s2):∃ w h s,Fam0 w h s/\∀ x y,InF w h s x y↔InF w1 h1 s1 x y/\InF w2 h2 s2 x y:=by
 obtain⟨g,u,M1⟩:=jR w1 w2;obtain⟨k',u',M2⟩:=jR h1 h2;obtain⟨gg,u7,M3⟩:=jR g (h1*h2 / k' / h2*s2 - h1*h2 / k' / h1*s1);have M:=qV f.w0 k.w0 f.h0 k.h0 M1 M2 M3;exact⟨_,_,_,⟨M.w0,M.h0,M.s0,M.sw⟩,M.lat⟩
def Pat.Lat:Pat->Int->Int->Prop
 | .mot _ a b c d,x,y=>∃ i j,x=i*a+j*c/\y=i*b+j*d
 | .over p q,x,y=>p.Lat x y/\q.Lat x y
 | .sh _ _ p,x,y=>p.Lat x y
 | .mir p,x,y=>p.Lat (-x) y
 | .tur p,x,y=>p.Lat y (-x)
 | .hue _ _ p,x,y=>p.Lat x y
structure Pat.Fam(p:Pat)(w h s:Int):Prop where
 f:Fam0 w h s
 lat:∀ x y,InF w h s x y↔p.Lat x y
def Pat.Fam.uniq(a:p.Fam w h s)(b:p.Fam w' h' s'):w=w'/\h=h'/\s=s':=
 InF.uniq a.f.w0 a.f.h0 a.f.s0 a.f.sw b.f.w0 b.f.h0 b.f.s0 b.f.sw λx y=>(a.lat x y).trans (b.lat x y).symm
def Pat.Fam.mot(k:FamOf a b c d w h s):(Pat.mot L a b c d).Fam w h s:=⟨⟨k.1,k.2.1,k.2.2.1,k.2.2.2.1⟩,k.lat⟩
def Pat.Fam.sh(a b:Int)(k:p.Fam w h s):(Pat.sh a b p).Fam w h s:=⟨k.f,k.lat⟩
def Pat.Fam.hue(a b:Int)(k:p.Fam w h s):(Pat.hue a b p).Fam w h s:=⟨k.f,k.lat⟩
def Pat.Fam.mir(k:p.Fam w h s):(Pat.mir p).Fam w h (-s % w):=by
 refine⟨⟨k.f.w0,k.f.h0,cE k.f.w0,cF k.f.w0⟩,λx y=>?_⟩;show _↔p.Lat (-x) y;rw[<- k.lat];have e:=EK (-s) w;generalize -s % w=r at e;generalize -s / w=t at e;constructor
 .rintro⟨i,j,rfl,rfl⟩;exact⟨j*t - i,j,by rw[e];grind,rfl⟩
 .rintro⟨i,j,ex,rfl⟩;exact⟨j*t - i,j,by rw[e];grind,rfl⟩
def Pat.Fam.tur(k:p.Fam w h s)(f:FamOf 0 w (-h) s w' h' s'):(Pat.tur p).Fam w' h' s':=by
 refine⟨⟨f.1,f.2.1,f.2.2.1,f.2.2.2.1⟩,λx y=>?_⟩;show _↔p.Lat y (-x);rw[<- k.lat,f.lat];constructor
 .rintro⟨i,j,rfl,rfl⟩;exact⟨i,j,by grind,by grind⟩
 .rintro⟨i,j,ex,ey⟩;exact⟨i,j,by grind,by grind⟩
variable{q:Pat}
def Pat.Fam.over(k1:p.Fam w1 h1 s1)(k2:q.Fam w2 h2 s2)(M:MetR w1 h1 s1 w2 h2 s2 w h s A):(Pat.over p q).Fam w h s:=by
 refine⟨⟨M.w0,M.h0,M.s0,M.sw⟩,λx y=>?_⟩;rw[M.lat,k1.lat,k2.lat];exact Iff.rfl
def fv(hw:0<w)(hh:0<h):∃ w' h' s',FamOf 0 w (-h) s w' h' s'/\w'*h'=w*h:=by
 have hp:0<w*h:=Eg hw hh;have hn:¬ 0*s=w* -h:=by rw[EZ];lia
 obtain⟨p0,p1,q0,hL⟩:=fu s.natAbs 0 w (-h) s (DU _);have f:=gB hn hL;refine⟨_,_,_,f,?_⟩;have KD:=Eg f.1 f.2.1;have c:=f.cells;rw[EZ] at c;lia
def rA(hn:¬ a*d=b*c):∃ w h s,FamOf a b c d w h s/\(Pat.mot L a b c d).Fam w h s:=by
 obtain⟨p0,p1,q0,hL⟩:=fu d.natAbs a b c d (DU _);have f:=gB hn hL;exact⟨_,_,_,f,.mot f⟩
def Pat.fam_ex:∀ {p:Pat},p.Wf->∃ w h s,p.Fam w h s
 | .mot L a b c d,h=>by
  obtain⟨w,k,s,_,f⟩:=rA (L:=L) h.2.2.2.2.2;exact⟨w,k,s,f⟩
 | .over p q,h=>by
  obtain⟨w1,h1,s1,f1⟩:=Pat.fam_ex h.1;obtain⟨w2,h2,s2,f2⟩:=Pat.fam_ex h.2;obtain⟨w,k,s,f,e⟩:=Af f1.f f2.f;refine⟨w,k,s,f,λx y=>?_⟩;rw[e,f1.lat,f2.lat];exact Iff.rfl
 | .sh a b p,h=>by
  obtain⟨w,k,s,f⟩:=Pat.fam_ex h.2.2;exact⟨w,k,s,f.sh a b⟩
 | .mir p,h=>by
  obtain⟨w,k,s,f⟩:=Pat.fam_ex (p:=p) h;exact⟨w,k,_,f.mir⟩
 | .tur p,h=>by
  obtain⟨w,k,s,f⟩:=Pat.fam_ex (p:=p) h;obtain⟨w',k',s',f',_⟩:=fv (s:=s) f.f.w0 f.f.h0;exact⟨w',k',s',f.tur f'⟩
 | .hue a b p,h=>by
  obtain⟨w,k,s,f⟩:=Pat.fam_ex h.2.2;exact⟨w,k,s,f.hue a b⟩
def Pat.Fits(p:Pat):Prop:=∃ w h s,p.Fam w h s/\w*h<=720
def Pat.fits_mot(ha:B12 a)(hb:B12 b)(hc:B12 c)(hd:B12 d)(hn:¬ a*d=b*c):(Pat.mot L a b c d).Fits:=by
 obtain⟨w,h,s,k,f⟩:=rA (L:=L) hn;refine⟨w,h,s,f,?_⟩;have kc:=k.cells;unfold B12 at*;have m1:=ca (a:=a) (d:=d) (A:=12) (B:=12) (by lia) (by lia);have m2:=ca (a:=b) (d:=c) (A:=12) (B:=12) (by lia) (by lia);lia
def Pat.Fits.sh(a b:Int)(k:p.Fits):(Pat.sh a b p).Fits:=by
 obtain⟨w,h,s,f,q⟩:=k;exact⟨w,h,s,f.sh a b,q⟩
def Pat.Fits.hue(a b:Int)(k:p.Fits):(Pat.hue a b p).Fits:=by
 obtain⟨w,h,s,f,q⟩:=k;exact⟨w,h,s,f.hue a b,q⟩
def Pat.Fits.mir(k:p.Fits):(Pat.mir p).Fits:=by
 obtain⟨w,h,s,f,q⟩:=k;exact⟨w,h,_,f.mir,q⟩
def Pat.Fits.tur(k:p.Fits):(Pat.tur p).Fits:=by
 obtain⟨w,h,s,f,q⟩:=k;obtain⟨w',k',s',f',e⟩:=fv (s:=s) f.f.w0 f.f.h0;exact⟨w',k',s',f.tur f',by lia⟩
def rB(hL:Rows L)(ha:B12 a)(hb:B12 b)(hc:B12 c)(hd:B12 d):(cY L a b c d).length<=100:=by
 have la:=br ha;have lb:=br hb;have lc:=br hc;have ld:=br hd;have l1:(";":x9).length=1:=rfl;have l2:(",":x9).length=1:=rfl;have l3:("[":x9).length=1:=rfl;have l4:("]":x9).length=1:=rfl;have ls:=rb hL;have lj:=StrLaws.join_length_le "/" L;have lg:(Txt.join "/" L).length<=72:=by
  have e:Txt.join "/" L=Str.join "/" L:=StrLaws.glued_eq_join _ _;rw[e];exact D9 lj ls
 unfold cY
 repeat rw[av]
 lia
def Pat.text_len:∀ {p:Pat},p.Wf->p.text.length+10<=110*2 ^ p.depth
 | .mot L a b c d,h=>by
  have:=rB h.1 h.2.1 h.2.2.1 h.2.2.2.1 h.2.2.2.2.1;show(cY L a b c d).length+10<=110*2 ^ 0;lia
 | .over p q,h=>by
  have h1:=Pat.text_len h.1;have h2:=Pat.text_len h.2;have m1:2 ^ p.depth<=2 ^ (max p.depth q.depth):=EL (by decide) (Ga _ _);have m2:2 ^ q.depth<=2 ^ (max p.depth q.depth):=EL (by decide) (Gb _ _);have l1:("(":x9).length=1:=rfl;have l2:("|":x9).length=1:=rfl;have l3:(")":x9).length=1:=rfl;rw[Pat.text,Pat.depth,Gc]
  repeat rw[av]
  lia
 | .sh a b p,h=>by
  have h1:=Pat.text_len h.2.2;have la:=br h.1;have lb:=br h.2.1;have l1:("s":x9).length=1:=rfl;have l2:(",":x9).length=1:=rfl;have l3:(":":x9).length=1:=rfl;have:0<2 ^ p.depth:=ES (by decide);rw[Pat.text,Pat.depth,Ey]
  repeat rw[av]
  lia
 | .mir p,h=>by
  have h1:=Pat.text_len (p:=p) h;have l1:("m":x9).length=1:=rfl;have:0<2 ^ p.depth:=ES (by decide);rw[Pat.text,Pat.depth,Ey,av];lia
 | .tur p,h=>by
  have h1:=Pat.text_len (p:=p) h;have l1:("t":x9).length=1:=rfl;have:0<2 ^ p.depth:=ES (by decide);rw[Pat.text,Pat.depth,Ey,av];lia
 | .hue f g p,h=>by
  have h1:=Pat.text_len h.2.2;have la:=cZ h.1;have lb:=cZ h.2.1;have l1:("h":x9).length=1:=rfl;have:0<2 ^ p.depth:=ES (by decide);rw[Pat.text,Pat.depth,Ey]
  repeat rw[av]
  lia
def Pat.text_short(h:p.Wf)(hd:p.depth<=5):p.text.length<=3510:=by
 have h1:=Pat.text_len h;have h2:2 ^ p.depth<=2 ^ 5:=EL (by decide) hd;lia
structure Pat.Ok(p:Pat):Prop where
 wf:p.Wf
 deep:p.depth<=5
 fits:p.Fits
def Wraps.of{H:Prop}{R:My.D->Prop}(h:p.Ok)(hR:∀ q:Pat,q.Ok->R q.D):Wraps p H R:=by
 refine⟨λ_=>hR p h,λhd=>⟨hR _ ⟨h.wf,?_,h.fits.mir⟩,hR _ ⟨h.wf,?_,h.fits.tur⟩,λa b ha hb=>hR _ ⟨⟨ha,hb,h.wf⟩,?_,h.fits.sh a b⟩,λ_ f g hf hg=>hR _ ⟨⟨hf,hg,h.wf⟩,?_,h.fits.hue f g⟩⟩⟩<;>(simp only[Pat.depth];lia)
inductive Wt where
 |sign (c:Nat)|pat (d:Nat)|lin (w h k:Nat)|hue|num|fig|more
 deriving DecidableEq
abbrev isSg(c:Nat):Bool:=c==46||(49<=c && c<=54)
def motW(r:List Wt):List Wt:= .lin 0 0 0:: .num:: .sign 44:: .num:: .sign 59:: .num:: .sign 44:: .num:: .sign 93::r
def bN(d c:Nat)(r:List Wt):Option (List Wt):=
 if c=91 then be (motW r)
 else if d=5 then q_
 else if c=40 then be (.pat (d+1):: .sign 124:: .pat (d+1):: .sign 41::r)
 else if c=115 then be (.num:: .sign 44:: .num:: .sign 58:: .pat (d+1)::r)
 else if c=104 then be (.hue:: .hue:: .pat (d+1)::r)
 else if c=109\/c=116 then be (.pat (d+1)::r)
 else q_
def cM(w h k c:Nat)(r:List Wt):Option (List Wt):=
 if isSg c then(if h<(if 0<k then w else 8) then be (.lin w (h+1) k::r) else q_)
 else if h=0\/(0<k/\h<w) then q_
 else if c=47 then(if k<7 then be (.lin h 0 (k+1)::r) else q_)
 else if c=59 then be r
 else q_
def aL:List Wt->Nat->Option (List Wt)
 |[],_=>q_
 | .sign s::r,c=>if c=s then be r else q_
 | .pat d::r,c=>bN d c r
 | .lin w h k::r,c=>cM w h k c r
 | .hue::r,c=>if 49<=c/\c<=54 then be r else q_
 | .more::r,_=>be r
 | .num::r,c=>if c=49 then be (.more::r) else if c=45 then be (.fig::r) else if 48<=c/\c<=57 then be r else q_
 | .fig::r,c=>if c=49 then be (.more::r) else if 50<=c/\c<=57 then be r else q_
def aJ(st:List Wt)(c:Nat):List Wt:=match st with
 | .more::r=>if 48<=c/\c<=50 then st else r
 |_=>st
def step(st:List Wt)(c:Nat):Option (List Wt):=aL (aJ st c) c
def walk:List Wt->List Nat->Nat->Option Nat
 |st,[],k=>if st=[] then q_ else be k
 |st,c::l,k=>match step st c with
  |none=>be k
  |some st'=>walk st' l (k+1)
def da(t:x9):Option Nat:=walk [.pat 0] (cs t) 0
def Pat.Syn:Pat->Prop
 | .mot L a b c d=>Rows L/\B12 a/\B12 b/\B12 c/\B12 d
 | .over p q=>p.Syn/\q.Syn
 | .sh a b p=>B12 a/\B12 b/\p.Syn
 | .mir p=>p.Syn
 | .tur p=>p.Syn
 | .hue f g p=>(1<=f/\f<=6)/\(1<=g/\g<=6)/\p.Syn
def Pat.Wf.syn:∀ {p:Pat},p.Wf->p.Syn
 | .mot ..,h=>⟨h.1,h.2.1,h.2.2.1,h.2.2.2.1,h.2.2.2.2.1⟩
 | .over p q,h=>⟨Pat.Wf.syn h.1,Pat.Wf.syn h.2⟩
 | .sh a b p,h=>⟨h.1,h.2.1,Pat.Wf.syn h.2.2⟩
 | .mir p,h=>Pat.Wf.syn (p:=p) h
 | .tur p,h=>Pat.Wf.syn (p:=p) h
 | .hue f g p,h=>⟨h.1,h.2.1,Pat.Wf.syn h.2.2⟩
variable{l:List Nat}{st:List Wt}
def aH{st':List Wt}{c:Nat}{k:Nat}(h:step st c=be st'):walk st (c::l) k=walk st' l (k+1):=by
 rw[walk,h]
def numL(a:Int):List Nat:=cs (toString a:String)
variable{P:Int->Prop}
def rC(h:B12 a)(hP:∀ k:Fin 25,P (((k.val:Nat):Int) - 12)):P a:=by
 unfold B12 at h;have:=hP ⟨(a+12).toNat,by lia⟩;have e:(((a+12).toNat:Nat):Int) - 12=a:=by lia
 rw[e] at this;exact this
def isNumL(l:List Nat):Prop:=(∃ c,(48<=c/\c<=57)/\l=[c])\/(∃ c,(48<=c/\c<=50)/\l=[49,c])\/(∃ c,(49<=c/\c<=57)/\l=[45,c])\/∃ c,(48<=c/\c<=50)/\l=[45,49,c]
def numL_is(h:B12 a):isNumL (numL a):=by
 have key:∀ k:Fin 25,(numL (((k.val:Nat):Int) - 12))∈([[45,49,50],[45,49,49],[45,49,48],[45,57],[45,56],[45,55],[45,54],[45,53],[45,52],[45,51],[45,50],[45,49],[48],[49],[50],[51],[52],[53],[54],[55],[56],[57],[49,48],[49,49],[49,50]]:List (List Nat)):=by decide+kernel
 have h1:=rC (P:=λa=>numL a∈([[45,49,50],[45,49,49],[45,49,48],[45,57],[45,56],[45,55],[45,54],[45,53],[45,52],[45,51],[45,50],[45,49],[48],[49],[50],[51],[52],[53],[54],[55],[56],[57],[49,48],[49,49],[49,50]]:List (List Nat))) h key;revert h1;generalize numL a=l;intro h1;unfold isNumL;simp only[D2,E1,or_false] at h1;rcases h1 with e|e|e|e|e|e|e|e|e|e|e|e|e|e|e|e|e|e|e|e|e|e|e|e|e<;>subst e
 all_goals first
  |exact .inl ⟨_,by decide,rfl⟩
  |exact .inr (.inl ⟨_,by decide,rfl⟩)
  |exact .inr (.inr (.inl ⟨_,by decide,rfl⟩))
  |exact .inr (.inr (.inr ⟨_,by decide,rfl⟩))
def Ah(h:isNumL l):∃ a,B12 a/\numL a=l:=by
 have key:∀ c:Fin 58,(48<=c.val->∃ k:Fin 25,numL (((k.val:Nat):Int) - 12)=[c.val])/\(48<=c.val->c.val<=50->∃ k:Fin 25,numL (((k.val:Nat):Int) - 12)=[49,c.val])/\(49<=c.val->∃ k:Fin 25,numL (((k.val:Nat):Int) - 12)=[45,c.val])/\(48<=c.val->c.val<=50->∃ k:Fin 25,numL (((k.val:Nat):Int) - 12)=[45,49,c.val]):=by decide+kernel
 have d8:∀ k:Fin 25,B12 (((k.val:Nat):Int) - 12):=λk=>by unfold B12;have:=k.isLt;lia
 rcases h with⟨c,hc,rfl⟩|⟨c,hc,rfl⟩|⟨c,hc,rfl⟩|⟨c,hc,rfl⟩
 .obtain⟨k,e⟩:=(key ⟨c,by lia⟩).1 (by show 48<=c;lia);exact⟨_,d8 k,e⟩
 .obtain⟨k,e⟩:=(key ⟨c,by lia⟩).2.1 (by show 48<=c;lia) (by show c<=50;lia);exact⟨_,d8 k,e⟩
 .obtain⟨k,e⟩:=(key ⟨c,by lia⟩).2.2.1 (by show 49<=c;lia);exact⟨_,d8 k,e⟩
 .obtain⟨k,e⟩:=(key ⟨c,by lia⟩).2.2.2 (by show 48<=c;lia) (by show c<=50;lia);exact⟨_,d8 k,e⟩
def endS(c:Nat):Prop:=c=44\/c=59\/c=58\/c=93
def eB(h:isNumL l){c:Nat}(hc:endS c)(r:List Wt)(t:List Nat)(k:Nat):walk (.num:: .sign c::r) (l++c::t) k=walk r t (k+l.length+1):=by
 unfold endS at hc;have N3:¬ (48<=c/\c<=50):=by lia
 have d8:∀ k,walk (.sign c::r) (c::t) k=walk r t (k+1):=λk=>aH (by simp[step,aJ,aL]);have Ja:∀ k,walk (.more:: .sign c::r) (c::t) k=walk r t (k+1):=λk=>aH (by simp[step,aJ,aL,N3]);rcases h with⟨x,hx,rfl⟩|⟨x,hx,rfl⟩|⟨x,hx,rfl⟩|⟨x,hx,rfl⟩
 .by_cases e:x=49
  .subst e;show walk _ (49::c::t) k=_;rw[aH (st':= .more:: .sign c::r) (by simp[step,aJ,aL]),Ja];simp
  .show walk _ (x::c::t) k=_;rw[aH (st':= .sign c::r) (by simp[step,aJ,aL,e,hx,show¬ x=45 by lia]),d8];simp
 .show walk _ (49::x::c::t) k=_;rw[aH (st':= .more:: .sign c::r) (by simp[step,aJ,aL]),aH (st':= .sign c::r) (by simp[step,aJ,aL,hx]),d8];simp
 .show walk _ (45::x::c::t) k=_;rw[aH (st':= .fig:: .sign c::r) (by simp[step,aJ,aL])];by_cases e:x=49
  .subst e;rw[aH (st':= .more:: .sign c::r) (by simp[step,aJ,aL]),Ja];simp
  .rw[aH (st':= .sign c::r) (by simp[step,aJ,aL,e,show 50<=x/\x<=57 by lia]),d8];simp
 .show walk _ (45::49::x::c::t) k=_;rw[aH (st':= .fig:: .sign c::r) (by simp[step,aJ,aL]),aH (st':= .more:: .sign c::r) (by simp[step,aJ,aL]),aH (st':= .sign c::r) (by simp[step,aJ,aL,hx]),d8];simp
def rowsL:List (List Nat)->List Nat
 |[]=>[]
 |[x]=>x
 |x::y::r=>x++47::rowsL (y::r)
def Ai{c:Nat}(h:aI c):isSg c=true:=by
 unfold aI at h;unfold isSg;rcases h with h|h
 .subst h;rfl
 .have:(decide (49<=c) && decide (c<=54))=true:=by simp[h]
  rw[this,FX]
def isSign_of{c:Nat}(h:isSg c=true):aI c:=by
 unfold isSg at h;unfold aI;simp at h;lia
variable{r:List Wt}
def dH{w h k c:Nat}:step (.lin w h k::r) c=cM w h k c r:=by simp[step,aJ,aL]
def eE{w k:Nat}{r:List Wt}:∀ (x:List Nat) (h:Nat) (t:List Nat) (j:Nat),(∀ c∈x,aI c)->h+x.length<=(if 0<k then w else 8)->walk (.lin w h k::r) (x++t) j=walk (.lin w (h+x.length) k::r) t (j+x.length)
 |[],h,t,j,_,_=>rfl
 |c::x,h,t,j,hs,hl=>by
  rw[D0] at hl ⊢;have h1:step (.lin w h k::r) c=be (.lin w (h+1) k::r):=by
   rw[dH];unfold cM;rw[if_pos (Ai (hs c Ea)),if_pos (by lia)]
  rw[EF,aH h1,eE x (h+1) t (j+1) (λc q=>hs c (D4 _ q)) (by lia)];rw[show h+1+x.length=h+(x.length+1) by lia,show j+1+x.length=j+(x.length+1) by lia]
def rD{wd:Nat}(hw:1<=wd/\wd<=8){r:List Wt}:∀ (L:List (List Nat)) (w0 k:Nat) (t:List Nat) (j:Nat),L≠[]->(∀ x∈L,x.length=wd/\∀ c∈x,aI c)->k+L.length<=8->(0<k->w0=wd)->walk (.lin w0 0 k::r) (rowsL L++59::t) j=walk r t (j+(rowsL L).length+1)
 |[],_,_,_,_,ne,_,_,_=>absurd rfl ne
 |[x],w0,k,t,j,_,hs,hl,hk=>by
  obtain⟨h1,h2⟩:=hs x Ea;have hb:0+x.length<=(if 0<k then w0 else 8):=by split<;>lia
  have ns:isSg 59=false:=rfl;have h3:step (.lin w0 (0+x.length) k::r) 59=be r:=by
   rw[dH];unfold cM;rw[ns,if_neg D6,if_neg (by lia),if_neg (by decide),if_pos rfl]
  show walk (.lin w0 0 k::r) (x++59::t) j=walk r t (j+x.length+1);rw[eE x 0 _ j h2 hb,aH h3]
 |x::y::L,w0,k,t,j,_,hs,hl,hk=>by
  obtain⟨h1,h2⟩:=hs x Ea;rw[D0,D0] at hl;have hb:0+x.length<=(if 0<k then w0 else 8):=by split<;>lia
  have ns:isSg 47=false:=rfl;have h3:step (.lin w0 (0+x.length) k::r) 47=be (.lin (0+x.length) 0 (k+1)::r):=by
   rw[dH];unfold cM;rw[ns,if_neg D6,if_neg (by lia),if_pos rfl,if_pos (by lia)]
  show walk (.lin w0 0 k::r) ((x++47::rowsL (y::L))++59::t) j=walk r t (j+(x++47::rowsL (y::L)).length+1);rw[Ez,EF,eE x 0 _ j h2 hb,aH h3,rD hw (y::L) (0+x.length) (k+1) t _ (λz=>nomatch z) (λz q=>hs z (D4 _ q)) (by rw[D0];lia) (λ_=>by lia)];rw[D7,D0];congr 1;lia
def motL(L:List (List Nat))(a b c d:Int):List Nat:=91::(rowsL L++59::(numL a++44::(numL b++59::(numL c++44::(numL d++[93])))))
def Pat.tl:Pat->List Nat
 | .mot L a b c d=>motL (L.map cs) a b c d
 | .over p q=>40::(p.tl++124::(q.tl++[41]))
 | .sh a b p=>115::(numL a++44::(numL b++58::p.tl))
 | .mir p=>109::p.tl
 | .tur p=>116::p.tl
 | .hue f g p=>104::(numL f++(numL g++p.tl))
def rE:∀ L:List x9,cs (Str.join "/" L)=rowsL (L.map cs)
 |[]=>rfl
 |[x]=>rfl
 |x::y::L=>by
  show cs (x++"/"++Str.join "/" (y::L))=cs x++47::rowsL ((y::L).map cs);rw[bC,bC,rE (y::L),Ez];rfl
def cN:∀ p:Pat,cs p.text=p.tl
 | .mot L a b c d=>by
  show cs (cY L a b c d)=motL (L.map cs) a b c d;unfold cY motL;have e:Txt.join "/" L=Str.join "/" L:=StrLaws.glued_eq_join _ _;rw[e]
  repeat rw[bC]
  rw[rE];simp only[Ez];rfl
 | .over p q=>by
  rw[Pat.text,Pat.tl]
  repeat rw[bC]
  rw[cN p,cN q];simp only[Ez];rfl
 | .sh a b p=>by
  rw[Pat.text,Pat.tl]
  repeat rw[bC]
  rw[cN p];simp only[Ez];rfl
 | .mir p=>by
  rw[Pat.text,Pat.tl,bC,cN p];rfl
 | .tur p=>by
  rw[Pat.text,Pat.tl,bC,cN p];rfl
 | .hue f g p=>by
  rw[Pat.text,Pat.tl]
  repeat rw[bC]
  rw[cN p];simp only[Ez];rfl
def hueL(h:1<=f/\f<=6):numL f=[(48+f).toNat]:=by
 have key:∀ k:Fin 6,numL (((k.val:Nat):Int)+1)=[49+k.val]:=by decide+kernel
 have:=key ⟨(f - 1).toNat,by lia⟩;have e:(((f - 1).toNat:Nat):Int)+1=f:=by lia
 rw[e] at this;rw[this];congr 1;show 49+(f - 1).toNat=(48+f).toNat;lia
def bO{d c:Nat}:step (.pat d::r) c=bN d c r:=by simp[step,aJ,aL]
def rF(h:1<=f/\f<=6)(r:List Wt)(t:List Nat)(k:Nat):walk (.hue::r) (numL f++t) k=walk r t (k+1):=by
 rw[hueL h];show walk (.hue::r) ((48+f).toNat::t) k=_;exact aH (by simp[step,aJ,aL];lia)
def Aj(hL:Rows L)(ha:B12 a)(hb:B12 b)(hc:B12 c)(hd:B12 d)(n:Nat)(r:List Wt)(t:List Nat)(k:Nat):walk (.pat n::r) (motL (L.map cs) a b c d++t) k=walk r t (k+(motL (L.map cs) a b c d).length):=by
 obtain⟨h1,w,hw,hs⟩:=hL;have HP:∀ x∈L.map cs,x.length=w/\∀ c∈x,aI c:=λx hx=>by
  obtain⟨l,q1,q2⟩:=El.mp hx;subst q2;exact⟨by rw[bL];exact(hs l q1).1,(hs l q1).2⟩
 have i9:L.map cs≠[]:=λz=>by have:=congrArg E7 z;simp at this;subst this;simp at h1
 unfold motL;simp only[EF,Ez,GO];have d8:∀ k,walk (.sign 93::r) (93::t) k=walk r t (k+1):=λk=>aH (by simp[step,aJ,aL]);rw[aH (st':=motW r) (by rw[bO];simp[bN])];unfold motW;rw[rD hw (L.map cs) 0 0 _ _ i9 HP (by rw[DZ];lia) (λz=>absurd z (by lia))];rw[eB (numL_is ha) (.inl rfl),eB (numL_is hb) (.inr (.inl rfl)),eB (numL_is hc) (.inl rfl),eB (numL_is hd) (.inr (.inr (.inr rfl)))];congr 1;simp only[D0,D7,Fl];lia
def cG:∀ {p:Pat},p.Syn->∀ (d:Nat) (r:List Wt) (t:List Nat) (k:Nat),p.depth+d<=5->walk (.pat d::r) (p.tl++t) k=walk r t (k+p.tl.length)
 | .mot L a b c e,h,d,r,t,k,_=>Aj h.1 h.2.1 h.2.2.1 h.2.2.2.1 h.2.2.2.2 d r t k
 | .over p q,h,d,r,t,k,hd=>by
  rw[Pat.depth] at hd;have h1:step (.pat d::r) 40=be (.pat (d+1):: .sign 124:: .pat (d+1):: .sign 41::r):=by rw[bO];simp[bN,show¬ d=5 by lia]
  rw[Pat.tl];simp only[EF,Ez,GO];rw[aH h1,cG h.1 (d+1) _ _ _ (by lia),aH (st':= .pat (d+1):: .sign 41::r) (by simp[step,aJ,aL]),cG h.2 (d+1) _ _ _ (by lia),aH (st':=r) (by simp[step,aJ,aL])];congr 1;simp only[D0,D7,Fl];lia
 | .sh a b p,h,d,r,t,k,hd=>by
  rw[Pat.depth] at hd;have h1:step (.pat d::r) 115=be (.num:: .sign 44:: .num:: .sign 58:: .pat (d+1)::r):=by rw[bO];simp[bN,show¬ d=5 by lia]
  rw[Pat.tl];simp only[EF,Ez];rw[aH h1,eB (numL_is h.1) (.inl rfl),eB (numL_is h.2.1) (.inr (.inr (.inl rfl))),cG h.2.2 (d+1) _ _ _ (by lia)];congr 1;simp only[D0,D7];lia
 | .mir p,h,d,r,t,k,hd=>by
  rw[Pat.depth] at hd;have h1:step (.pat d::r) 109=be (.pat (d+1)::r):=by rw[bO];simp[bN,show¬ d=5 by lia]
  rw[Pat.tl,EF,aH h1,cG (p:=p) h (d+1) _ _ _ (by lia),D0];congr 1;lia
 | .tur p,h,d,r,t,k,hd=>by
  rw[Pat.depth] at hd;have h1:step (.pat d::r) 116=be (.pat (d+1)::r):=by rw[bO];simp[bN,show¬ d=5 by lia]
  rw[Pat.tl,EF,aH h1,cG (p:=p) h (d+1) _ _ _ (by lia),D0];congr 1;lia
 | .hue f g p,h,d,r,t,k,hd=>by
  rw[Pat.depth] at hd;have h1:step (.pat d::r) 104=be (.hue:: .hue:: .pat (d+1)::r):=by rw[bO];simp[bN,show¬ d=5 by lia]
  rw[Pat.tl];simp only[EF,Ez];rw[aH h1,rF h.1,rF h.2.1,cG h.2.2 (d+1) _ _ _ (by lia)];rw[hueL h.1,hueL h.2.1];congr 1;simp only[D0,D7,Fl];lia
def rG(h:p.Syn)(hd:p.depth<=5):da p.text=none:=by
 unfold da;rw[cN];have:=cG h 0 [] [] 0 (by lia);rw[EA] at this;rw[this];rfl
def eF{x y:x9}(h:cs x=cs y):x=y:=by
 obtain⟨a⟩:=x;obtain⟨b⟩:=y;have:a=b:=GP.mp h;rw[this]
def Pat.lineAt:Pat->Nat->Option Nat
 | .mot _ a b c d,k=>if a*d=b*c then be k else q_
 | .over p q,k=>match p.lineAt (k+1) with
  |some j=>be j
  |none=>q.lineAt (k+1+p.tl.length+1)
 | .sh a b p,k=>p.lineAt (k+1+(numL a).length+1+(numL b).length+1)
 | .mir p,k=>p.lineAt (k+1)
 | .tur p,k=>p.lineAt (k+1)
 | .hue _ _ p,k=>p.lineAt (k+3)
def Pat.line_wf:∀ {p:Pat} (k:Nat),p.Syn->p.lineAt k=q_->p.Wf
 | .mot L a b c d,k,h,e=>by
  refine⟨h.1,h.2.1,h.2.2.1,h.2.2.2.1,h.2.2.2.2,λz=>?_⟩;rw[Pat.lineAt,if_pos z] at e;cases e
 | .over p q,k,h,e=>by
  rw[Pat.lineAt] at e;cases hp:p.lineAt (k+1) with
  |some j=>rw[hp] at e;cases e
  |none=>rw[hp] at e;exact⟨Pat.line_wf _ h.1 hp,Pat.line_wf _ h.2 e⟩
 | .sh a b p,k,h,e=>⟨h.1,h.2.1,Pat.line_wf _ h.2.2 (by rw[Pat.lineAt] at e;exact e)⟩
 | .mir p,k,h,e=>Pat.line_wf (p:=p) (k+1) h (by rw[Pat.lineAt] at e;exact e)
 | .tur p,k,h,e=>Pat.line_wf (p:=p) (k+1) h (by rw[Pat.lineAt] at e;exact e)
 | .hue f g p,k,h,e=>⟨h.1,h.2.1,Pat.line_wf _ h.2.2 (by rw[Pat.lineAt] at e;exact e)⟩
def Pat.wf_line:∀ {p:Pat} (k:Nat),p.Wf->p.lineAt k=q_
 | .mot L a b c d,k,h=>by rw[Pat.lineAt,if_neg h.2.2.2.2.2]
 | .over p q,k,h=>by
  rw[Pat.lineAt,Pat.wf_line (p:=p) _ h.1];exact Pat.wf_line (p:=q) _ h.2
 | .sh a b p,k,h=>by rw[Pat.lineAt];exact Pat.wf_line (p:=p) _ h.2.2
 | .mir p,k,h=>by rw[Pat.lineAt];exact Pat.wf_line (p:=p) _ h
 | .tur p,k,h=>by rw[Pat.lineAt];exact Pat.wf_line (p:=p) _ h
 | .hue f g p,k,h=>by rw[Pat.lineAt];exact Pat.wf_line (p:=p) _ h.2.2
def Pat.syn_len:∀ {p:Pat},p.Syn->p.text.length+10<=110*2 ^ p.depth
 | .mot L a b c d,h=>by
  have:=rB h.1 h.2.1 h.2.2.1 h.2.2.2.1 h.2.2.2.2;show(cY L a b c d).length+10<=110*2 ^ 0;lia
 | .over p q,h=>by
  have h1:=Pat.syn_len h.1;have h2:=Pat.syn_len h.2;have m1:2 ^ p.depth<=2 ^ (max p.depth q.depth):=EL (by decide) (Ga _ _);have m2:2 ^ q.depth<=2 ^ (max p.depth q.depth):=EL (by decide) (Gb _ _);have l1:("(":x9).length=1:=rfl;have l2:("|":x9).length=1:=rfl;have l3:(")":x9).length=1:=rfl;rw[Pat.text,Pat.depth,Gc]
  repeat rw[av]
  lia
 | .sh a b p,h=>by
  have h1:=Pat.syn_len h.2.2;have la:=br h.1;have lb:=br h.2.1;have l1:("s":x9).length=1:=rfl;have l2:(",":x9).length=1:=rfl;have l3:(":":x9).length=1:=rfl;have:0<2 ^ p.depth:=ES (by decide);rw[Pat.text,Pat.depth,Ey]
  repeat rw[av]
  lia
 | .mir p,h=>by
  have h1:=Pat.syn_len (p:=p) h;have l1:("m":x9).length=1:=rfl;have:0<2 ^ p.depth:=ES (by decide);rw[Pat.text,Pat.depth,Ey,av];lia
 | .tur p,h=>by
  have h1:=Pat.syn_len (p:=p) h;have l1:("t":x9).length=1:=rfl;have:0<2 ^ p.depth:=ES (by decide);rw[Pat.text,Pat.depth,Ey,av];lia
 | .hue f g p,h=>by
  have h1:=Pat.syn_len h.2.2;have la:=cZ h.1;have lb:=cZ h.2.1;have l1:("h":x9).length=1:=rfl;have:0<2 ^ p.depth:=ES (by decide);rw[Pat.text,Pat.depth,Ey]
  repeat rw[av]
  lia
def Pat.syn_short(h:p.Syn)(hd:p.depth<=5):p.text.length<=3510:=by
 have h1:=Pat.syn_len h;have h2:2 ^ p.depth<=2 ^ 5:=EL (by decide) hd;lia
variable{B:Prop}
def ifT{c A:Prop}[Decidable c](h:c)(a:A):if c then A else B:=by rw[if_pos h];exact a
def ifdT{p A:Prop}[Decidable p](h:p)(a:A):if decide p=true then A else B:=by rw[if_pos (decide_eq_true h)];exact a
def ifdF{p A:Prop}[Decidable p](h:¬ p)(b:B):if decide p=true then A else B:=by rw[if_neg (by simpa using h)];exact b
def rdF(t:x9)(k:Nat):List (x9 × D):=[("text",.str t),("place",.int k)]
def RdM(a:KF)(t:x9)(k:Nat):MS:=[(a,.ins "Reading" (rdF t k))]
variable{o:MO}
def cH{a:KF}:mget [(a,o)] a=be o:=by unfold mget;rw[if_pos rfl]
def eG{a:KF}{o':MO}:mput [(a,o)] a o'=[(a,o')]:=by unfold mput;rw[if_pos rfl]
variable{t:x9}
def aP{a:KF}{k:Nat}:mget (RdM a t k) a=be (.ins "Reading" (rdF t k)):=cH
def jS{k:Nat}:(rdF t k).lookup ("text":x9)=be (.str t):=rfl
def db{k:Nat}:(rdF t k).lookup ("place":x9)=be (.int k):=by
 unfold rdF;rw[Ee,show(("place":x9)==("text":x9))=false by decide+kernel];rfl
def Ak{k:Nat}:putD ("place":x9) (.int ((k:Int)+1)) (rdF t k)=rdF t (k+1):=by
 unfold rdF putD;rw[if_neg (by decide+kernel)];unfold putD;rw[if_pos rfl];rfl
def cO{k:Nat}:(rdF t k).lookup ("may_take":x9)=none:=by
 unfold rdF;rw[Ee,show(("may_take":x9)==("text":x9))=false by decide+kernel,Ee,show(("may_take":x9)==("place":x9))=false by decide+kernel];rfl
def ce{k:Nat}:(rdF t k).lookup ("take":x9)=none:=by
 unfold rdF;rw[Ee,show(("take":x9)==("text":x9))=false by decide+kernel,Ee,show(("take":x9)==("place":x9))=false by decide+kernel];rfl
structure At(t:Str)(k:Nat)(l:List Nat):Prop where
 eq:(cs t).drop k=l
 le:k<=t.length
 sz:t.length<=100000
def At.nil{k:Nat}(h:At t k []):k=t.length:=by
 have h1:=congrArg E7 h.eq;rw[Fi,bL] at h1;have:=h.le;simp at h1;lia
def At.lt{k c:Nat}(h:At t k (c::l)):k<t.length:=by
 have h1:=congrArg E7 h.eq;rw[Fi,bL] at h1;simp at h1;lia
def At.get{k c:Nat}(h:At t k (c::l)):(cs t)[k]?=be c:=by
 have h1:=congrArg (·[0]?) h.eq;simpa using h1
def At.next{k c:Nat}(h:At t k (c::l)):At t (k+1) l:=by
 refine⟨?_,h.lt,h.sz⟩;have h1:=congrArg (F4 1) h.eq;rw[List.drop_drop] at h1;simpa using h1
def At.app{t:x9}:∀ {x l:List Nat} {k:Nat},At t k (x++l)->At t (k+x.length) l
 |[],_,_,h=>h
 |c::x,l,k,h=>by
  have h1:At t (k+1+x.length) l:=At.app (At.next h);have e:k+1+x.length=k+(c::x).length:=by rw[D0];lia
  rw[e] at h1;exact h1
variable{al:x9}
def rH{c:Nat}:(!(!(Builtin.Str.occurrences al ⟨#[c]⟩ 0 al.length 1).isEmpty))=!decide (c∈cs al):=by
 rw[StrLaws.found_one]
def mayS(al:x9):List Nat->x9|c::_=>if c∈cs al then⟨#[c]⟩ else ""|[]=>""
def mayN(al:x9):List Nat->Nat|c::_=>if c∈cs al then 1 else 0|[]=>0
def dI{c:Nat}(h:c∈cs al):mayS al (c::l)=⟨#[c]⟩:=if_pos h
def dJ{c:Nat}(h:c∈cs al):mayN al (c::l)=1:=if_pos h
def de{c:Nat}(h:c ∉ cs al):mayS al (c::l)="":=if_neg h
def df{c:Nat}(h:c ∉ cs al):mayN al (c::l)=0:=if_neg h
def Al:SiD:=λds R=>∃ t:x9,ds=[.str t]/\R (rdF t 0)
def Am:SpM:=λds M R RX=>∃ (a:KF) (t:x9) (k:Nat) (l:List Nat) (al:x9),ds=[.ptr a,.str al]/\M=RdM a t k/\At t k l/\R (.str (mayS al l)) (RdM a t (k+mayN al l))
def An:SpM:=λds M R RX=>∃ (a:KF) (t:x9) (k:Nat) (l:List Nat) (al:x9),ds=[.ptr a,.str al]/\M=RdM a t k/\At t k l/\
 (∀ c l',l=c::l'->c∈cs al->R (.str ⟨#[c]⟩) (RdM a t (k+1)))/\((∀ c l',l=c::l'->c ∉ cs al)->∀ M',RX "WrongSign" [("place",.int k)] M')
def walk_bad{k:Nat}(h1:st≠[])(h:∀ c l',l=c::l'->step st c=q_):walk st l k=be k:=by
 cases l with
 |nil=>rw[walk,if_neg h1]
 |cons c l=>rw[walk,h c l rfl]
variable{e:Nat}
def dL{k:Nat}(h:∀ l',l≠e::l'):walk (.sign e::r) l k=be k:=
 walk_bad (λz=>nomatch z) λc l' q=>by
  have:c≠e:=λz=>h l' (z ▸ q);simp[step,aJ,aL,this]
def dM{k:Nat}:walk (.sign e::r) (e::l) k=walk r l (k+1):=aH (by simp[step,aJ,aL])
def Ao{k:Nat}(h:∀ d l',l=d::l'->¬ (48<=d/\d<=50)):walk (.more:: .sign e::r) l k=walk (.sign e::r) l k:=by
 cases l with
 |nil=>simp[walk]
 |cons d l=>
  have:step (.more:: .sign e::r) d=step (.sign e::r) d:=by simp[step,aJ,h d l rfl]
  rw[walk,walk,this]
variable{pre:List Nat}
def Ap(hp:pre=[]\/pre=[45]){c:Nat}(hc:49<=c/\c<=57){x l3:List Nat}(hx:(c=49/\∃ d,(48<=d/\d<=50)/\x=[d])\/(x=[]/\(c=49->∀ d l',l3=d::l'->¬ (48<=d/\d<=50))))(k e:Nat)(r:List Wt)(hl:l=pre++c::(x++l3)):
  walk (.num:: .sign e::r) l k=walk (.sign e::r) l3 (k+(pre++c::x).length):=by
 subst hl;have fig:∀ k,walk (.fig:: .sign e::r) (c::(x++l3)) k=walk (.sign e::r) l3 (k+(c::x).length):=λk=>by
  rcases hx with⟨rfl,d,hd,rfl⟩|⟨rfl,h⟩
  .rw[aH (st':= .more:: .sign e::r) (by simp[step,aJ,aL])];show walk _ (d::l3) _=_;rw[aH (st':= .sign e::r) (by simp[step,aJ,aL,hd])];rfl
  .by_cases e1:c=49
   .subst e1;rw[aH (st':= .more:: .sign e::r) (by simp[step,aJ,aL])];show walk _ l3 _=_;rw[Ao (h rfl)];rfl
   .rw[aH (st':= .sign e::r) (by simp[step,aJ,aL,e1,show 50<=c/\c<=57 by lia])];rfl
 rcases hp with rfl|rfl
 .have same:step (.num:: .sign e::r) c=step (.fig:: .sign e::r) c:=by
   by_cases e1:c=49
   .subst e1;simp[step,aJ,aL]
   .simp[step,aJ,aL,e1,show¬ c=45 by lia,show 48<=c/\c<=57 by lia,show 50<=c/\c<=57 by lia]
  have:=fig k;rw[walk] at this;show walk _ (c::(x++l3)) k=_;rw[walk,same,this];simp
 .show walk _ (45::c::(x++l3)) k=_;rw[aH (st':= .fig:: .sign e::r) (by simp[step,aJ,aL]),fig];congr 1;simp only[D7,D0,Fl];lia
def Aq(hp:pre=[]\/pre=[45]){l1:List Nat}(hl:l=pre++l1)(h:∀ c l',l1=c::l'->¬ (49<=c/\c<=57))(h0:pre=[]->∀ c l',l1=c::l'->c≠48/\c≠45)(k:Nat)(r:List Wt):walk (.num::r) l k=be (k+pre.length):=by
 subst hl;rcases hp with rfl|rfl
 .refine walk_bad (λz=>nomatch z) λc l' q=>?_;have h1:=h c l' q;have h2:=h0 rfl c l' q;simp[step,aJ,aL,h2.2,show¬ c=49 by lia,show¬ (48<=c/\c<=57) by lia]
 .show walk _ (45::l1) k=_;rw[aH (st':= .fig::r) (by simp[step,aJ,aL])];refine walk_bad (λz=>nomatch z) λc l' q=>?_;have h1:=h c l' q;simp[step,aJ,aL,show¬ c=49 by lia,show¬ (50<=c/\c<=57) by lia]
def jT(h:B12 x):PySem.intText? ⟨(numL x).toArray⟩=be x:=
 rC (P:=λx=>PySem.intText? ⟨(numL x).toArray⟩=be x) h (by decide+kernel)
def eH(x y:List Nat):((⟨x.toArray⟩:x9)++⟨y.toArray⟩:x9)=⟨(x++y).toArray⟩:=by
 apply eF;rw[bC]
def digits19{c:Nat}:c∈cs "123456789"↔49<=c/\c<=57:=by
 have e:cs "123456789"=[49,50,51,52,53,54,55,56,57]:=rfl;rw[e];simp;lia
def digits02{c:Nat}:c∈cs "012"↔48<=c/\c<=50:=by
 have e:cs "012"=[48,49,50]:=rfl;rw[e];simp;lia
def Ar(w:List Nat)(c:Nat):Txt.endswith ⟨(w++[c]).toArray⟩ "1"=decide (c=49):=by
 unfold Txt.endswith;have e1:("1":x9).length=1:=rfl;have e2:(⟨(w++[c]).toArray⟩:x9).length=w.length+1:=by simp[Str.length]
 rw[e1,e2];have e3:decide (0+1<=w.length+1)=true:=by simp
 rw[e3,Bool.true_and,Nat.add_sub_cancel];unfold Builtin.Str.subAt;have e4:(⟨(w++[c]).toArray⟩:x9).cps.extract w.length (w.length+("1":x9).length)=#[c]:=by
  apply GP.mp;simp[Array.toList_extract,e1]
 rw[e4];have e5:("1":x9).cps=#[49]:=rfl;rw[e5];by_cases h:c=49
 .subst h;rfl
 .simp[h]
def As:SpM:=λds M R RX=>∃ (a:KF) (t:x9) (k:Nat) (l:List Nat),ds=[.ptr a]/\M=RdM a t k/\At t k l/\
 (∀ x l',B12 x->l=numL x++l'->(∀ e r,walk (.num:: .sign e::r) l k=walk (.sign e::r) l' (k+(numL x).length))->R (.int x) (RdM a t (k+(numL x).length)))/\
 (∀ j:Nat,(∀ r,walk (.num::r) l k=be j)->∀ M',RX "WrongSign" [("place",.int j)] M')
def Au:SpM:=λds M R RX=>∃ (a:KF) (t:x9) (k:Nat) (l:List Nat),ds=[.ptr a]/\M=RdM a t k/\At t k l/\
 (∀ x y l',B12 x->B12 y->l=numL x++44::(numL y++l')->(∀ e r,walk (.num:: .sign 44:: .num:: .sign e::r) l k=walk (.sign e::r) l' (k+(numL x).length+1+(numL y).length))->R (.tup [.int x,.int y]) (RdM a t (k+(numL x).length+1+(numL y).length)))/\
 (∀ j:Nat,(∀ r,walk (.num:: .sign 44:: .num::r) l k=be j)->∀ M',RX "WrongSign" [("place",.int j)] M')
def sgPre:Nat->List Nat->List Nat
 |0,_=>[]
 |_+1,[]=>[]
 |n+1,c::l=>if isSg c=true then c::sgPre n l else[]
def eI(n c:Nat)(l:List Nat):sgPre (n+1) (c::l)=if isSg c=true then c::sgPre n l else[]:=rfl
def sgPre_succ:∀ (n:Nat) (l:List Nat),(∃ c l',l=sgPre n l++c::l'/\(sgPre n l).length=n/\isSg c=true/\sgPre (n+1) l=sgPre n l++[c])\/(∃ l',l=sgPre n l++l'/\(∀ c K0,l'=c::K0->isSg c=false)/\∀ m,n<=m->sgPre m l=sgPre n l)
 |0,[]=> .inr ⟨[],rfl,(λ_ _ q=>nomatch q),λm _=>by cases m<;>rfl⟩
 |0,c::l=>by
  by_cases h:isSg c=true
  .exact .inl ⟨c,l,rfl,rfl,h,by rw[eI,if_pos h];rfl⟩
  .refine .inr ⟨c::l,rfl,λ_ _ q=>?_,λm _=>?_⟩
   .cases q;simpa using h
   .cases m with
    |zero=>rfl
    |succ m=>rw[eI,if_neg h];rfl
 |n+1,[]=> .inr ⟨[],rfl,(λ_ _ q=>nomatch q),λm _=>by cases m<;>rfl⟩
 |n+1,c::l=>by
  by_cases h:isSg c=true
  .have e:∀ m,sgPre (m+1) (c::l)=c::sgPre m l:=λm=>by rw[eI,if_pos h]
   rcases sgPre_succ n l with⟨d,l',h1,h2,h3,h4⟩|⟨l',h1,h2,h3⟩
   .refine .inl ⟨d,l',?_,by rw[e,D0,h2],h3,by rw[e,e,h4];rfl⟩;rw[e];exact congrArg (c::·) h1
   .refine .inr ⟨l',?_,h2,λm hm=>?_⟩
    .rw[e];exact congrArg (c::·) h1
    .cases m with
     |zero=>lia
     |succ m=>rw[e,e,h3 m (by lia)]
  .refine .inr ⟨c::l,?_,λ_ _ q=>?_,λm hm=>?_⟩
   .rw[eI,if_neg h];rfl
   .cases q;simpa using h
   .cases m with
    |zero=>lia
    |succ m=>rw[eI,if_neg h,eI,if_neg h]
def gD:∀ (n:Nat) (l:List Nat),(sgPre n l).length<=n
 |0,_=>DU _
 |n+1,[]=>Ej _
 |n+1,c::l=>by
  rw[sgPre];split
  .rw[D0];exact Nat.succ_le_succ (gD n l)
  .exact Ej _
def sgPre_sign:∀ (n:Nat) (l:List Nat),∀ c∈sgPre n l,aI c
 |0,_,_,h=>by cases h
 |n+1,[],_,h=>by cases h
 |n+1,c::l,d,h=>by
  rw[sgPre] at h;split at h
  .rename_i q;rcases D2.mp h with e|e
   .rw[e];exact isSign_of q
   .exact sgPre_sign n l d e
  .cases h
def sgPre_split(n:Nat)(l:List Nat):∃ l',l=sgPre n l++l'/\((sgPre n l).length=n\/∀ c K0,l'=c::K0->isSg c=false):=by
 rcases sgPre_succ n l with⟨d,l',h1,h2,h3,h4⟩|⟨l',h1,h2,h3⟩
 .exact⟨d::l',h1,.inl h2⟩
 .exact⟨l',h1,.inr h2⟩
def signs_is{c:Nat}:c∈cs ".123456"↔isSg c=true:=by
 have e:cs ".123456"=[46,49,50,51,52,53,54]:=rfl;rw[e];simp;lia
def dN(x:List Nat):(⟨x.toArray⟩:x9).length=x.length:=by simp[Str.length]
def Av:SpM:=λds M R RX=>∃ (a:KF) (t:x9) (k:Nat) (l:List Nat) (n m:Nat),ds=[.ptr a,.int n,.int m]/\M=RdM a t k/\At t k l/\n<=m/\m<=8/\
 (n<=(sgPre m l).length->R (.str ⟨(sgPre m l).toArray⟩) (RdM a t (k+(sgPre m l).length)))/\((sgPre m l).length<n->∀ M',RX "WrongSign" [("place",.int ((k+(sgPre m l).length:Nat):Int))] M')
def Aw{p a:KF}{k:Nat}(h:p≠a):mget ((p,o)::RdM a t k) a=be (.ins "Reading" (rdF t k)):=by
 unfold mget;rw[if_neg h];exact cH
variable{M:MS}
def cP{p:KF}:mget ((p,o)::M) p=be o:=by unfold mget;rw[if_pos rfl]
def rJ{p:KF}{o':MO}:mput ((p,o)::M) p o'=(p,o')::M:=by unfold mput;rw[if_pos rfl]
def jU{p:KF}:mdel ((p,o)::M) p=M:=by unfold mdel;rw[if_pos rfl]
structure RowsL(L:List (List Nat))(w:Nat):Prop where
 many:1<=L.length/\L.length<=8
 w1:1<=w
 w8:w<=8
 each:∀ x∈L,x.length=w/\∀ c∈x,aI c
def gE:∀ (L:List (List Nat)) (x:List Nat),L≠[]->rowsL (L++[x])=rowsL L++47::x
 |[],_,h=>absurd rfl h
 |[y],x,_=>rfl
 |y::z::L,x,_=>by
  show y++47::rowsL ((z::L)++[x])=(y++47::rowsL (z::L))++47::x;rw[gE (z::L) x (λq=>nomatch q)];simp
structure LinAt(w h n:Nat)(l:List Nat):Prop where
 h1:1<=h
 n1:1<=n
 one:n=1->h=8\/∀ c l',l=c::l'->isSg c=false
 more:2<=n->w=h
def Ax{w h:Nat}(H:LinAt w h n l)(hn:n<=8)(stop:n=8\/∀ l',l≠47::l')(r:List Wt)(p:Nat):walk (.lin w h (n - 1)::r) l p=walk (.sign 59::r) l p:=by
 cases l with
 |nil=>simp[walk]
 |cons c l=>
  have key:step (.lin w h (n - 1)::r) c=step (.sign 59::r) c:=by
   rw[dH];unfold cM;have N4:step (.sign 59::r) c=if c=59 then be r else none:=by simp[step,aJ,aL]
   rw[N4];have h1:=H.h1;by_cases hs:isSg c=true
   .rw[if_pos hs];have nc:¬ c=59:=by rintro rfl;cases hs
    rw[if_neg nc];refine if_neg ?_;by_cases n1:n=1
    .rcases H.one n1 with e|e
     .subst n1;simp;lia
     .rw[e c l rfl] at hs;cases hs
    .have Mt:=H.n1;have:=H.more (by lia);rw[if_pos (by lia)];lia
   .rw[if_neg hs];have g:¬ (h=0\/(0<n - 1/\h<w)):=by
     have Mt:=H.n1;rintro(z|⟨z1,z2⟩)
     .lia
     .have:=H.more (by lia);lia
    rw[if_neg g];by_cases Mu:c=47
    .subst Mu;rw[if_pos rfl,if_neg (c:=47=59) (by decide)];refine if_neg ?_;rcases stop with e|e
     .lia
     .exact absurd rfl (e l)
    .rw[if_neg Mu]
  rw[walk,walk,key]
def rK{w h:Nat}(H:LinAt w h n (47::l))(hn:n<8)(r:List Wt)(p:Nat):walk (.lin w h (n - 1)::r) (47::l) p=walk (.lin h 0 n::r) l (p+1):=by
 refine aH ?_;rw[dH];unfold cM;have h1:=H.h1;have Mt:=H.n1;have ns:isSg 47=false:=rfl;rw[ns,if_neg D6,if_neg (by
  rintro(z|⟨z1,z2⟩)
  .lia
  .have:=H.more (by lia);lia),if_pos rfl,if_pos (by lia)]
 congr 3;lia
def rL{w:Nat}{x:List Nat}(hs:∀ c∈x,aI c)(hx:x.length<w)(hw:w<=8)(hn:n=0->x=[])(hl:∀ c l',l=c::l'->isSg c=false)(r:List Wt)(p:Nat):walk (.lin w 0 n::r) (x++l) p=be (p+x.length):=by
 rw[eE x 0 l p hs (by split<;>lia)];refine walk_bad (λz=>nomatch z) λc l' q=>?_;rw[dH];unfold cM;rw[hl c l' q,if_neg D6];refine if_pos ?_;by_cases n0:n=0
 .left;rw[hn n0];rfl
 .right;exact⟨by lia,by lia⟩
def lstD(L:List (List Nat)):List D:=L.map λx=>D.str ⟨x.toArray⟩
def Ay:SpM:=λds M R RX=>∃ (a:KF) (t:x9) (k:Nat) (l:List Nat),ds=[.ptr a]/\M=RdM a t k/\At t k l/\
 (∀ (L:List (List Nat)) (w:Nat) l',RowsL L w->l=rowsL L++l'->(∀ r,walk (.lin 0 0 0::r) l k=walk (.sign 59::r) l' (k+(rowsL L).length))->R (.lst (lstD L)) (RdM a t (k+(rowsL L).length)))/\
 (∀ j:Nat,(∀ r,walk (.lin 0 0 0::r) l k=be j)->∀ M',RX "WrongSign" [("place",.int j)] M')
def hmX(w h s:Int)(i j:Int):Int:=(i - j / h*s) % w
def hRow(w h s:Int)(j:Nat):Nat->List Nat->List ((Int × Int) × Int)->List ((Int × Int) × Int)
 |_,[],kv=>kv
 |i,c::r,kv=>hRow w h s j (i+1) r (if c=46 then kv else sdD kv (hmX w h s i j) ((j:Int) % h) ((c:Int) - 48))
def hAll(w h s:Int):Nat->List (List Nat)->List ((Int × Int) × Int)->List ((Int × Int) × Int)
 |_,[],kv=>kv
 |j,x::r,kv=>hAll w h s (j+1) r (hRow w h s j 0 x kv)
def rM(kv:List ((Int × Int) × Int))(x y v:Int):(sdD kv x y v).length<=kv.length+1:=by
 unfold sdD;split
 .lia
 .rw[D7];simp
def Az{c:Nat}(h:49<=c/\c<=54):∃ i rest,Builtin.Str.occurrences ".123456" ⟨#[c]⟩ 0 (".123456":x9).length 1=i::rest/\((i:Nat):Int)=(c:Int) - 48:=by
 rcases(by lia:c=49\/c=50\/c=51\/c=52\/c=53\/c=54) with e|e|e|e|e|e<;>subst e
 .exact⟨1,[],by decide+kernel,by decide⟩
 .exact⟨2,[],by decide+kernel,by decide⟩
 .exact⟨3,[],by decide+kernel,by decide⟩
 .exact⟨4,[],by decide+kernel,by decide⟩
 .exact⟨5,[],by decide+kernel,by decide⟩
 .exact⟨6,[],by decide+kernel,by decide⟩
def AA{x:List Nat}(h:∀ c∈x,aI c):(⟨x.toArray⟩:x9).cps.all (·<128)=true:=by
 rw[<- GB,EQ];intro c hc;have:=h c hc;unfold aI at this;simp;lia
def AB{L:List (List Nat)}{j:Nat}{d:D}(h:(lstD L)[j]?=be d):∃ x,L[j]?=be x/\d= .str ⟨x.toArray⟩:=by
 unfold lstD at h;rw[D5] at h;cases e:L[j]? with
 |none=>rw[e] at h;cases h
 |some x=>rw[e] at h;cases h;exact⟨x,rfl,rfl⟩
def AC{x:List Nat}{i:Nat}{d:D}(h:(dE ⟨x.toArray⟩)[i]?=be d):∃ c,x[i]?=be c/\d= .str ⟨#[c]⟩:=by
 unfold dE at h;rw[D5] at h;cases e:x[i]? with
 |none=>simp[e] at h
 |some c=>simp[e] at h;exact⟨c,rfl,h.symm⟩
def rN{α:Type}{l:List α}{i:Nat}{x:α}(h:l[i]?=be x):l.drop i=x::l.drop (i+1):=by
 have hi:i<l.length:=(Ec.mp h).1;rw[FJ hi];congr 1;rw[Ei hi] at h;exact Option.some.inj h
def AD:SpM:=λds M R RX=>∃ (L:List (List Nat)) (wd:Nat) (w h s:Int),ds=[.lst (lstD L),.tup [.int w,.int h,.int s]]/\RowsL L wd/\0<w/\0<h/\h<1073741824/\0<=s/\s<1073741824/\R (.dti (hAll w h s 0 L [])) M
def moF(k:Nat)(sh:D)(hu:List ((Int × Int) × Int)):List (x9 × D):=[("place",.int k),("shifts",sh),("hues",.dti hu)]
def AE:SiD:=λds R=>∃ (k:Nat) (L:List (List Nat)) (wd:Nat) (a b c d:Int),ds=[.int k,.lst (lstD L),.tup [.int a,.int b],.tup [.int c,.int d]]/\RowsL L wd/\B12 a/\B12 b/\B12 c/\B12 d/\
 (a*d=b*c->R (moF k .non []))/\(¬ a*d=b*c->∀ w h s,FamOf a b c d w h s->R (moF k (.tup [.int w,.int h,.int s]) (hAll w h s 0 L [])))
def AF{v:D}:putD ("place":x9) v []=([("place",v)]:List (x9 × D)):=rfl
def rO{u v:D}:putD ("shifts":x9) v [("place",u)]=([("place",u),("shifts",v)]:List (x9 × D)):=by
 unfold putD;rw[if_neg (by decide+kernel)];rfl
def rP{t u v:D}:putD ("hues":x9) v [("place",t),("shifts",u)]=([("place",t),("shifts",u),("hues",v)]:List (x9 × D)):=by
 unfold putD;rw[if_neg (by decide+kernel)];unfold putD;rw[if_neg (by decide+kernel)];rfl
def jV{u v:D}:([("place",u),("shifts",v)]:List (x9 × D)).lookup ("shifts":x9)=be v:=by
 rw[Ee,show(("shifts":x9)==("place":x9))=false by decide+kernel];rfl
def AG:SiD:=λds R=>∃ (x y:x9) (fs gs:List (x9 × D)),ds=[.obj x fs,.obj y gs]/\R [("above",.obj x fs),("below",.obj y gs)]
def AH:SiD:=λds R=>∃ (x:x9) (fs:List (x9 × D)) (a b:Int),ds=[.obj x fs,.int a,.int b]/\R [("form",.obj x fs),("x",.int a),("y",.int b)]
def AI:SiD:=λds R=>∃ (x:x9) (fs:List (x9 × D)),ds=[.obj x fs]/\R [("form",.obj x fs)]
def AJ:SiD:=λds R=>∃ (x:x9) (fs:List (x9 × D)),ds=[.obj x fs]/\R [("form",.obj x fs)]
def AK:SiD:=λds R=>∃ (x:x9) (fs:List (x9 × D)) (a b:Int),ds=[.obj x fs,.int a,.int b]/\R [("form",.obj x fs),("old",.int a),("new",.int b)]
def FormOf:Pat->Nat->D->Prop
 | .mot L a b c d,k,v=>∃ sh hu,v= .obj "Motif" (moF k sh hu)/\(a*d=b*c->sh= .non)/\(¬ a*d=b*c->∃ w h s,FamOf a b c d w h s/\sh= .tup [.int w,.int h,.int s]/\hu=hAll w h s 0 (L.map cs) [])
 | .over p q,k,v=>∃ u u',v= .obj "Over" [("above",u),("below",u')]/\FormOf p (k+1) u/\FormOf q (k+1+p.tl.length+1) u'
 | .sh a b p,k,v=>∃ u,v= .obj "Shifted" [("form",u),("x",.int a),("y",.int b)]/\FormOf p (k+1+(numL a).length+1+(numL b).length+1) u
 | .mir p,k,v=>∃ u,v= .obj "Mirror" [("form",u)]/\FormOf p (k+1) u
 | .tur p,k,v=>∃ u,v= .obj "Turn" [("form",u)]/\FormOf p (k+1) u
 | .hue f g p,k,v=>∃ u,v= .obj "Rehue" [("form",u),("old",.int f),("new",.int g)]/\FormOf p (k+3) u
def Pat.cls:Pat->x9
 | .mot ..=>"Motif"| .over ..=>"Over"| .sh ..=>"Shifted"| .mir ..=>"Mirror"| .tur ..=>"Turn"| .hue ..=>"Rehue"
def FormOf.obj{k:Nat}{v:D}(h:FormOf p k v):∃ fs,v= .obj p.cls fs:=by
 cases p with
 |mot L a b c d=>obtain⟨sh,hu,rfl,_⟩:=h;exact⟨_,rfl⟩
 |over p q=>obtain⟨_,_,rfl,_⟩:=h;exact⟨_,rfl⟩
 |sh a b p=>obtain⟨_,rfl,_⟩:=h;exact⟨_,rfl⟩
 |mir p=>obtain⟨_,rfl,_⟩:=h;exact⟨_,rfl⟩
 |tur p=>obtain⟨_,rfl,_⟩:=h;exact⟨_,rfl⟩
 |hue f g p=>obtain⟨_,rfl,_⟩:=h;exact⟨_,rfl⟩
def AL{L:List (List Nat)}{w:Nat}(h:RowsL L w):Rows (L.map λx=>(⟨x.toArray⟩:x9))/\(L.map λx=>(⟨x.toArray⟩:x9)).map cs=L:=by
 refine⟨⟨by rw[DZ];exact h.many,w,⟨h.w1,h.w8⟩,λl hl=>?_⟩,?_⟩
 .obtain⟨x,hx,rfl⟩:=El.mp hl;obtain⟨h1,h2⟩:=h.each x hx;exact⟨by rw[dN];exact h1,h2⟩
 .rw[Fu];simp[Function.comp_def,cs]
def AM:SpM:=λds M R RX=>∃ (a:KF) (t:x9) (k:Nat) (l:List Nat),ds=[.ptr a]/\M=RdM a t k/\At t k l/\
 (∀ p l',p.Syn->p.depth=0->l=p.tl++l'->∀ v,FormOf p k v->R v (RdM a t (k+p.tl.length)))/\
 (∀ j:Nat,(∀ r,walk (.pat 5::r) l k=be j)->∀ M',RX "WrongSign" [("place",.int j)] M')
def AN{d:Nat}{k:Nat}(h:d=5\/∀ c l',l=c::l'->c ∉ cs "(smth"):walk (.pat d::r) l k=walk (.pat 5::r) l k:=by
 rcases h with rfl|h
 .rfl
 .cases l with
  |nil=>simp[walk]
  |cons c l=>
   have hc:=h c l rfl;have e:cs "(smth"=[40,115,109,116,104]:=rfl;rw[e] at hc;simp only[D2,E1,or_false,not_or] at hc;have:step (.pat d::r) c=step (.pat 5::r) c:=by
    rw[bO,bO];unfold bN;by_cases JQ:c=91
    .rw[if_pos JQ,if_pos JQ]
    .rw[if_neg JQ,if_neg JQ,if_pos rfl];split
     .rfl
     .rw[if_neg hc.1,if_neg hc.2.1,if_neg hc.2.2.2.2,if_neg (by rintro(z|z);exact hc.2.2.1 z;exact hc.2.2.2.1 z)]
   rw[walk,walk,this]
def hue_dig{c:Nat}:c∈cs "123456"↔49<=c/\c<=54:=by
 have e:cs "123456"=[49,50,51,52,53,54]:=rfl;rw[e];simp;lia
def gG{c:Nat}(h:49<=c/\c<=54):numL ((c:Int) - 48)=[c]:=by
 rw[hueL (by lia)];congr 1;lia
def jW{c:Nat}(h:49<=c/\c<=54){k:Nat}:walk (.hue::r) (c::l) k=walk r l (k+1):=aH (by simp[step,aJ,aL,h])
def rQ{k:Nat}(h:∀ c l',l=c::l'->c ∉ cs "123456"):walk (.hue::r) l k=be k:=
 walk_bad (λz=>nomatch z) λc l' q=>by
  have:=λz=>h c l' q (hue_dig.mpr z);simp only[step,aJ,aL];exact if_neg this
def dg(j:Nat):SpM:=λds M R RX=>∃ (a:KF) (t:x9) (k:Nat) (l:List Nat) (d:Nat),ds=[.ptr a,.int d]/\M=RdM a t k/\At t k l/\d+j=6/\1<=j/\
 (∀ p l',p.Syn->p.depth+d<=5->l=p.tl++l'->∀ v,FormOf p k v->R v (RdM a t (k+p.tl.length)))/\(∀ i:Nat,(∀ r,walk (.pat d::r) l k=be i)->∀ M',RX "WrongSign" [("place",.int i)] M')
variable{R:D->MS->Prop}{ds:List D}{RX:XDM}
def AO:¬ dg 0 ds M R RX:=by
 rintro⟨_,_,_,_,_,_,_,_,_,h,_⟩;exact absurd h (by decide)
def rR(j:Nat):SpM:=λds M R RX=>∃ (a:KF) (t:x9) (k:Nat) (l:List Nat) (d:Nat),ds=[.ptr a,.int d]/\M=RdM a t k/\At t k l/\d+j=6/\1<=j/\
 (∀ p q l',p.Syn->q.Syn->p.depth+d<=5->q.depth+d<=5->l=p.tl++124::(q.tl++41::l')->∀ u u',FormOf p k u->FormOf q (k+p.tl.length+1) u'->R (.obj "Over" [("above",u),("below",u')]) (RdM a t (k+p.tl.length+1+q.tl.length+1)))/\
 (∀ i:Nat,(∀ r,walk (.pat d:: .sign 124:: .pat d:: .sign 41::r) l k=be i)->∀ M',RX "WrongSign" [("place",.int i)] M')
def rS(j:Nat):SpM:=λds M R RX=>∃ (a:KF) (t:x9) (k:Nat) (l:List Nat) (d:Nat),ds=[.ptr a,.int d]/\M=RdM a t k/\At t k l/\d+j=6/\1<=j/\
 (∀ x y p l',B12 x->B12 y->p.Syn->p.depth+d<=5->l=numL x++44::(numL y++58::(p.tl++l'))->∀ u,FormOf p (k+(numL x).length+1+(numL y).length+1) u->R (.obj "Shifted" [("form",u),("x",.int x),("y",.int y)]) (RdM a t (k+(numL x).length+1+(numL y).length+1+p.tl.length)))/\
 (∀ i:Nat,(∀ r,walk (.num:: .sign 44:: .num:: .sign 58:: .pat d::r) l k=be i)->∀ M',RX "WrongSign" [("place",.int i)] M')
def rT(j:Nat):SpM:=λds M R RX=>∃ (a:KF) (t:x9) (k:Nat) (l:List Nat) (d:Nat),ds=[.ptr a,.int d]/\M=RdM a t k/\At t k l/\d+j=6/\1<=j/\
 (∀ c e p l',(49<=c/\c<=54)->(49<=e/\e<=54)->p.Syn->p.depth+d<=5->l=c::e::(p.tl++l')->∀ u,FormOf p (k+2) u->R (.obj "Rehue" [("form",u),("old",.int ((c:Int) - 48)),("new",.int ((e:Int) - 48))]) (RdM a t (k+2+p.tl.length)))/\
 (∀ i:Nat,(∀ r,walk (.hue:: .hue:: .pat d::r) l k=be i)->∀ M',RX "WrongSign" [("place",.int i)] M')
def Pat.Area(p:Pat)(N:Int):Prop:=∃ w h s,p.Fam w h s/\w*h<=N
def Pat.Fits.wide(h:p.Fits):p.Area 33554432:=by
 obtain⟨w,k,s,f,b⟩:=h;exact⟨w,k,s,f,by lia⟩
def Pat.Area.small{N:Int}(h:p.Area N){k:Int}(f:p.Fam w k s):0<w/\w<=N/\0<k/\k<=N/\0<=s/\s<w:=by
 obtain⟨w',k',s',f',hb⟩:=h;obtain⟨rfl,rfl,rfl⟩:=f.uniq f';obtain⟨h1,h2⟩:=eo f.f.w0 f.f.h0;exact⟨f.f.w0,by lia,f.f.h0,by lia,f.f.s0,f.f.sw⟩
def Pat.Area.tur{N:Int}(h:p.Area N):(Pat.tur p).Area N:=by
 obtain⟨w,k,s,f,b⟩:=h;obtain⟨w2,h2,s2,g,e⟩:=fv (s:=s) f.f.w0 f.f.h0;exact⟨_,_,_,f.tur g,by lia⟩
def Pat.Cal:Pat->Prop
 | .mot ..=>True
 | .over p q=>p.Cal/\q.Cal/\(p.Wf->q.Wf->p.Area 33554432/\q.Area 33554432)
 | .sh _ _ p=>p.Cal
 | .mir p=>p.Cal
 | .tur p=>p.Cal/\(p.Wf->p.Area 33554432)
 | .hue _ _ p=>p.Cal
def Pat.cls_mem(p:Pat):p.cls∈(["Motif","Over","Shifted","Mirror","Turn","Rehue"]:List x9):=by
 cases p<;>simp[Pat.cls]
def no_look{f g:x9}{v:D}{r:List (x9 × D)}(h:(f==g)=false)(hr:r.lookup f=q_):(((g,v)::r:List (x9 × D))).lookup f=none:=by
 rw[Ee,h];exact hr
def FormOf.objm{k:Nat}{v:D}(h:FormOf p k v):∃ fs,v= .obj p.cls fs/\fs.lookup ("family":x9)=q_/\fs.lookup ("shows":x9)=none:=by
 cases p with
 |mot L a b c d=>obtain⟨sh,hu,rfl,_⟩:=h;exact⟨_,rfl,no_look (by decide+kernel) (no_look (by decide+kernel) (no_look (by decide+kernel) rfl)),no_look (by decide+kernel) (no_look (by decide+kernel) (no_look (by decide+kernel) rfl))⟩
 |over p q=>obtain⟨_,_,rfl,_⟩:=h;exact⟨_,rfl,no_look (by decide+kernel) (no_look (by decide+kernel) rfl),no_look (by decide+kernel) (no_look (by decide+kernel) rfl)⟩
 |sh a b p=>obtain⟨_,rfl,_⟩:=h;exact⟨_,rfl,no_look (by decide+kernel) (no_look (by decide+kernel) (no_look (by decide+kernel) rfl)),no_look (by decide+kernel) (no_look (by decide+kernel) (no_look (by decide+kernel) rfl))⟩
 |mir p=>obtain⟨_,rfl,_⟩:=h;exact⟨_,rfl,no_look (by decide+kernel) rfl,no_look (by decide+kernel) rfl⟩
 |tur p=>obtain⟨_,rfl,_⟩:=h;exact⟨_,rfl,no_look (by decide+kernel) rfl,no_look (by decide+kernel) rfl⟩
 |hue f g p=>obtain⟨_,rfl,_⟩:=h;exact⟨_,rfl,no_look (by decide+kernel) (no_look (by decide+kernel) (no_look (by decide+kernel) rfl)),no_look (by decide+kernel) (no_look (by decide+kernel) (no_look (by decide+kernel) rfl))⟩
variable{hu:List ((Int × Int) × Int)}
def jX{k:Nat}{sh:D}:(moF k sh hu).lookup ("shifts":x9)=be sh:=by
 unfold moF;rw[Ee,show(("shifts":x9)==("place":x9))=false by decide+kernel];rfl
def AQ{k:Nat}{sh:D}:(moF k sh hu).lookup ("place":x9)=be (.int k):=rfl
def AR{k:Nat}{sh:D}:(moF k sh hu).lookup ("hues":x9)=be (.dti hu):=by
 unfold moF;rw[Ee,show(("hues":x9)==("place":x9))=false by decide+kernel,Ee,show(("hues":x9)==("shifts":x9))=false by decide+kernel];rfl
def eJ{f g:x9}{u v:D}{r:List (x9 × D)}(h:(g==f)=false):(((f,u)::(g,v)::r:List (x9 × D))).lookup g=be v:=by
 rw[Ee,h,Ee,beq_self_eq_true]
def jY{e f g:x9}{t u v:D}{r:List (x9 × D)}(h1:(g==e)=false)(h2:(g==f)=false):(((e,t)::(f,u)::(g,v)::r:List (x9 × D))).lookup g=be v:=by
 rw[Ee,h1];exact eJ h2
def Pat.Fits.small(h:p.Fits){k:Int}(f:p.Fam w k s):0<w/\w<=720/\0<k/\k<=720/\0<=s/\s<w:=by
 obtain⟨w',k',s',f',hb⟩:=h;obtain⟨rfl,rfl,rfl⟩:=f.uniq f';obtain⟨h1,h2⟩:=eo f.f.w0 f.f.h0;exact⟨f.f.w0,by lia,f.f.h0,by lia,f.f.s0,f.f.sw⟩
def bU(j:Nat)(x:x9):SpX:=λds R RX=>∃ (p:Pat) (k:Nat) (v:D),ds=[v]/\FormOf p k v/\p.Syn/\p.depth<j/\p.cls=x/\p.Cal/\(∀ i:Nat,p.lineAt k=be i->RX "OneLine" [("place",.int i)])/\(p.lineAt k=q_->∀ w h s,p.Fam w h s->R (.tup [.int w,.int h,.int s]))
def eK{x:x9}:¬ ofX (bU 0 x) ds M R RX:=by
 rintro⟨_,_,_,_,_,_,h,_⟩;exact absurd h (Fc _)
def lookD_app(x y v X Y:Int):∀ kv:List ((Int × Int) × Int),lookD (kv++[((x,y),v)]) X Y=match lookD kv X Y with|some u=>be u|none=>if x=X/\y=Y then be v else q_
 |[]=>rfl
 |((a,b),h)::r=>by
  show lookD (((a,b),h)::(r++[((x,y),v)])) X Y=_;unfold lookD;by_cases e:a=X/\b=Y
  .rw[if_pos e,if_pos e]
  .rw[if_neg e,if_neg e];exact lookD_app x y v X Y r
def AS(kv:List ((Int × Int) × Int))(x y v X Y:Int):lookD (sdD kv x y v) X Y=match lookD kv X Y with|some u=>be u|none=>if x=X/\y=Y then be v else none:=by
 unfold sdD;split
 .rename_i hs;cases e:lookD kv X Y with
  |some u=>rfl
  |none=>
   show q_=_;rw[if_neg];rintro⟨rfl,rfl⟩;rw[e] at hs;cases hs
 .exact lookD_app x y v X Y kv
def look_row(w h s:Int)(j:Nat)(X Y:Int):∀ (x:List Nat) (i:Nat) (kv:List ((Int × Int) × Int)),lookD (hRow w h s j i x kv) X Y=match lookD kv X Y with|some u=>be u|none=>(scanRow (λi=>decide (hmX w h s i j=X/\(j:Int) % h=Y)) i x).map λc=>(c:Int) - 48
 |[],i,kv=>by
  rw[hRow,scanRow];cases lookD kv X Y<;>rfl
 |c::r,i,kv=>by
  rw[hRow,look_row w h s j X Y r (i+1),scanRow];by_cases k_:c=46
  .rw[if_pos k_,if_neg (c:=c≠46/\_) (λz=>z.1 k_)]
  .rw[if_neg k_,AS];cases lookD kv X Y with
   |some u=>rfl
   |none=>
    by_cases e:hmX w h s i j=X/\(j:Int) % h=Y
    .rw[if_pos (c:=c≠46/\_) ⟨k_,decide_eq_true e⟩];show(match (if hmX w h s i j=X/\(j:Int) % h=Y then be ((c:Int) - 48) else q_) with|some u=>be u|none=>_)=_;rw[if_pos e];rfl
    .rw[if_neg (c:=c≠46/\_) (λz=>e (of_decide_eq_true z.2))];show(match (if hmX w h s i j=X/\(j:Int) % h=Y then be ((c:Int) - 48) else q_) with|some u=>be u|none=>_)=_;rw[if_neg e]
def rV(w h s X Y:Int):∀ (L:List x9) (j:Nat) (kv:List ((Int × Int) × Int)),lookD (hAll w h s j (L.map cs) kv) X Y=match lookD kv X Y with|some u=>be u|none=>(bw (λi j=>decide (hmX w h s i j=X/\j % h=Y)) j L).map λc=>(c:Int) - 48
 |[],j,kv=>by
  rw[EO,hAll,bw];cases lookD kv X Y<;>rfl
 |x::r,j,kv=>by
  rw[Eb,hAll,rV w h s X Y r (j+1),look_row,bw];cases lookD kv X Y with
  |some u=>rfl
  |none=>
   show(match (scanRow (λi=>decide (hmX w h s i j=X/\(j:Int) % h=Y)) 0 (cs x)).map (λc=>(c:Int) - 48) with|some u=>be u|none=>_)=_;cases scanRow (λi=>decide (hmX w h s i j=X/\(j:Int) % h=Y)) 0 (cs x)<;>rfl
def AT(F:FamOf a b c d w h s)(hn:¬ a*d=b*c)(x y i j:Int):decide (hmX w h s i j=hmX w h s x y/\j % h=y % h)=onB a b c d (x - i) (y - j):=by
 have hw:=F.1;have hh:=F.2.1;have key:(hmX w h s i j=hmX w h s x y/\j % h=y % h)↔InF w h s (x - i) (y - j):=by
  unfold hmX;constructor
  .rintro⟨e1,e2⟩;have dy:=FK y h;have dj:=FK j h;have m1:=FK (x - y / h*s) w;have m2:=FK (i - j / h*s) w;refine⟨(x - y / h*s) / w - (i - j / h*s) / w,y / h - j / h,?_,?_⟩
   .rw[FL,FL,Er ((x - y / h*s) / w) w,Er ((i - j / h*s) / w) w];lia
   .rw[FL,Er (y / h) h,Er (j / h) h];lia
  .rintro⟨m,q,ex,ey⟩;have N5:y=j+q*h:=by lia
   have L5:x=i+(m*w+q*s):=by lia
   subst L5 N5;rw[GQ,Int.add_mul_ediv_right _ _ (by lia)];refine⟨?_,rfl⟩;have e:i+(m*w+q*s) - (j / h+q)*s=i - j / h*s+m*w:=by rw[E2];lia
   rw[e,GQ]
 unfold onB;congr 1;apply propext;rw[key,F.lat];constructor
 .rintro⟨m,q,eu,ev⟩;exact qT eu ev
 .exact λz=>rz hn z
def AU{c:Nat}(h:49<=c/\c<=54):cell [0,1,2,3,4,5,6] ((c:Int) - 48)=(c:Int) - 48:=by
 rcases(by lia:c=49\/c=50\/c=51\/c=52\/c=53\/c=54) with e|e|e|e|e|e<;>subst e<;>rfl
def motif_shows(hL:Rows L)(F:FamOf a b c d w h s)(hn:¬ a*d=b*c)(x y:Int):(lookD (hAll w h s 0 (L.map cs) []) (hmX w h s x y) (y % h)).getD 0=(cb L a b c d).shows x y:=by
 rw[rV];show((bw (λi j=>decide (hmX w h s i j=hmX w h s x y/\j % h=y % h)) 0 L).map λc=>(c:Int) - 48).getD 0=_;have e:(λi j=>decide (hmX w h s i j=hmX w h s x y/\j % h=y % h))=λi j=>onB a b c d (1*x+0*y+0 - i) (0*x+1*y+0 - j):=by
  funext i j;rw[AT F hn];congr 1<;>lia
 rw[e];show _=match bw (λi j=>onB a b c d (1*x+0*y+0 - i) (0*x+1*y+0 - j)) 0 L with|some c=>cell [0,1,2,3,4,5,6] ((c:Int) - 48)|none=>0
 cases q:bw (λi j=>onB a b c d (1*x+0*y+0 - i) (0*x+1*y+0 - j)) 0 L with
 |none=>rfl
 |some c=>
  have hc:49<=c/\c<=54:=jQ (λl' q=>let ⟨_,_,_,h⟩:=hL;(h l' q).2) q;exact(AU hc).symm
def bV(j:Nat)(x:x9):SpX:=λds R RX=>∃ (p:Pat) (k:Nat) (v:D) (X Y:Int),ds=[v,.int X,.int Y]/\FormOf p k v/\p.Wf/\p.depth<j/\p.cls=x/\R (.int (p.show X Y))
def eL{x:x9}:¬ ofX (bV 0 x) ds M R RX:=by
 rintro⟨_,_,_,_,_,_,_,_,h,_⟩;exact absurd h (Fc _)
structure PatOf(p:Pat)(w h s:Int)(fs:List (Str × D)):Prop extends Pat.Fam p w h s where
 form:∃ k v,fs.lookup ("form":x9)=be v/\FormOf p k v
def bE(p:Pat)(d:D):Prop:=∃ w h s fs,d= .obj "Pattern" fs/\fs.lookup ("text":x9)=be (.str p.text)/\fs.lookup ("shifts":x9)=be (.tup [.int w,.int h,.int s])/\PatOf p w h s fs
def bo(x:Int):Prop:=-1000000000000<=x/\x<=1000000000000
def Pat.show_le(h:p.Wf)(hd:p.depth<=40)(x y:Int):0<=p.show x y/\p.show x y<=6:=by
 rw[<- Pat.show_leaves h hd];exact rg x y (Pat.leaf_ok h hd)
def bu(h:Int):Nat:=if h=0 then 46 else(48+h).toNat
def ay(p:Pat)(x y:Int)(n:Nat):Str:=⟨((DV n).map λ(k:Nat)=>bu (p.show (x+(k:Int)) y)).toArray⟩
def fw(p:Pat)(x y:Int)(n:Nat):(ay p x y n).length=n:=by simp[ay,Str.length]
def rW(h0:0<=h)(h6:h<=6):atI (cs ".123456") h=be (bu h):=by
 rcases(by lia:h=0\/h=1\/h=2\/h=3\/h=4\/h=5\/h=6) with e|e|e|e|e|e|e<;>subst e<;>decide+kernel
def range2_int{k:Nat}{x:D}(h:((DV (j - i).toNat).map λk=>D.int (i+((k:Nat):Int)))[k]?=be x):k<(j - i).toNat/\x= .int (i+(k:Int)):=by
 have hk:k<(j - i).toNat:=by simpa using(Ec.mp h).1
 refine⟨hk,?_⟩;simp[hk] at h;exact h.symm
def Pat.Fits.over_parts(hp:p.Wf)(hq:q.Wf)(h:(Pat.over p q).Fits):p.Fits/\q.Fits:=by
 obtain⟨w,k,s,f,hb⟩:=h;obtain⟨w1,k1,s1,f1⟩:=Pat.fam_ex hp;obtain⟨w2,k2,s2,f2⟩:=Pat.fam_ex hq;have l1:=(InF.le f1.f.w0 f1.f.h0 f.f.w0 f.f.h0 (λx y z=>(f1.lat x y).mpr ((f.lat x y).mp z).1)).1;have l2:=(InF.le f2.f.w0 f2.f.h0 f.f.w0 f.f.h0 (λx y z=>(f2.lat x y).mpr ((f.lat x y).mp z).2)).1;exact⟨⟨w1,k1,s1,f1,by lia⟩,⟨w2,k2,s2,f2,by lia⟩⟩
def Pat.Fits.of_sh(h:(Pat.sh a b p).Fits):p.Fits:=by
 obtain⟨w,k,s,f,hb⟩:=h;exact⟨w,k,s,⟨f.f,f.lat⟩,hb⟩
def Pat.Fits.of_hue(h:(Pat.hue a b p).Fits):p.Fits:=by
 obtain⟨w,k,s,f,hb⟩:=h;exact⟨w,k,s,⟨f.f,f.lat⟩,hb⟩
def Pat.Fits.of_mir(hp:p.Wf)(h:(Pat.mir p).Fits):p.Fits:=by
 obtain⟨w,k,s,f,hb⟩:=h;obtain⟨w1,k1,s1,f1⟩:=Pat.fam_ex hp;obtain⟨rfl,rfl,_⟩:=f.uniq f1.mir;exact⟨_,_,_,f1,hb⟩
def Pat.Fits.of_tur(hp:p.Wf)(h:(Pat.tur p).Fits):p.Fits:=by
 obtain⟨w,k,s,f,hb⟩:=h;obtain⟨w1,k1,s1,f1⟩:=Pat.fam_ex hp;obtain⟨w',k',s',f',e⟩:=fv (s:=s1) f1.f.w0 f1.f.h0;obtain⟨rfl,rfl,_⟩:=f.uniq (f1.tur f');exact⟨_,_,_,f1,by lia⟩
def Pat.cal_of:∀ {p:Pat},p.Wf->p.Fits->p.Cal
 | .mot ..,_,_=>trivial
 | .over p q,h,f=>by
  obtain⟨f1,f2⟩:=Pat.Fits.over_parts h.1 h.2 f;exact⟨Pat.cal_of h.1 f1,Pat.cal_of h.2 f2,λ_ _=>⟨f1.wide,f2.wide⟩⟩
 | .sh a b p,h,f=>Pat.cal_of (p:=p) h.2.2 f.of_sh
 | .mir p,h,f=>Pat.cal_of (p:=p) h (f.of_mir h)
 | .tur p,h,f=>⟨Pat.cal_of (p:=p) h (f.of_tur h),λ_=>Pat.Fits.wide (p:=p) (f.of_tur h)⟩
 | .hue a b p,h,f=>Pat.cal_of (p:=p) h.2.2 f.of_hue
def Pat.cal_w:∀ {p:Pat} {w h s:Int},p.Wf->p.Cal->p.Fam w h s->w<=1125899906842624
 | .mot L a b c d,w,h,s,e8,_,f=>by
  have:=(Pat.fits_mot (L:=L) e8.2.1 e8.2.2.1 e8.2.2.2.1 e8.2.2.2.2.1 e8.2.2.2.2.2).small f;lia
 | .over p q,w,h,s,e8,hc,f=>by
  obtain⟨f1,f2⟩:=hc.2.2 e8.1 e8.2;obtain⟨w1,k1,s1,g1⟩:=Pat.fam_ex e8.1;obtain⟨w2,k2,s2,g2⟩:=Pat.fam_ex e8.2;have a1:=f1.small g1;have a2:=f2.small g2;have n8:InF w h s (w1*w2) 0:=(f.lat _ _).mpr ⟨(g1.lat _ _).mp ⟨w2,0,by rw[Er];lia,by lia⟩,(g2.lat _ _).mp ⟨w1,0,by lia,by lia⟩⟩;obtain⟨i,j,e1,e2⟩:=n8;have hj:j=0:=by
   rcases Gd.mp e2.symm with z|z
   .exact z
   .have:=f.f.h0;lia
  subst hj;have hp:0<w1*w2:=Eg a1.1 a2.1;have e3:w1*w2=i*w:=by lia
  have hi:0<i:=by
   have:=f.f.w0;rcases(by lia:i<=0\/0<i) with z|z
   .have:=Fd z (show 0<=w by lia);lia
   .exact z
  have h1:=Ef (show 1<=i by lia) (show 0<=w by have:=f.f.w0;lia);have h2:=ca (a:=w1) (d:=w2) (A:=33554432) (B:=33554432) (by lia) (by lia);lia
 | .sh a b p,w,h,s,e8,hc,f=>Pat.cal_w (p:=p) e8.2.2 hc ⟨f.f,f.lat⟩
 | .mir p,w,h,s,e8,hc,f=>by
  obtain⟨w1,k1,s1,f1⟩:=Pat.fam_ex (p:=p) e8;obtain⟨rfl,_,_⟩:=f.uniq f1.mir;exact Pat.cal_w (p:=p) e8 hc f1
 | .tur p,w,h,s,e8,hc,f=>by
  have:=(hc.2 e8).tur.small f;lia
 | .hue a b p,w,h,s,e8,hc,f=>Pat.cal_w (p:=p) e8.2.2 hc ⟨f.f,f.lat⟩
def rX:∀ L:List x9,cs (Str.join "" L)=L.flatMap cs
 |[]=>rfl
 |[x]=>by simp[Str.join]
 |x::y::r=>by
  show cs (x++""++Str.join "" (y::r))=_;rw[bC,bC,rX (y::r),ra];simp
def rY(f:Nat->Nat)(n:Nat):Str.join "" ((DV n).map λi=>(⟨#[f i]⟩:x9))=⟨((DV n).map f).toArray⟩:=by
 apply eF;rw[rX,List.flatMap_map];show(DV n).flatMap (λi=>[f i])=(DV n).map f;rw[List.map_eq_flatMap]
def cQ{e:Nat}:∀ {a b x y:List Nat},e ∉ a->e ∉ b->a++e::x=b++e::y->a=b/\x=y
 |[],[],x,y,_,_,h=>by cases h;exact⟨rfl,rfl⟩
 |[],c::b,x,y,_,hb,h=>by
  cases h;exact absurd Ea hb
 |c::a,[],x,y,ha,_,h=>by
  cases h;exact absurd Ea ha
 |c::a,d::b,x,y,ha,hb,h=>by
  have h':c::(a++e::x)=d::(b++e::y):=h;injection h' with h1 h2;obtain⟨e1,e2⟩:=cQ (λz=>ha (D4 _ z)) (λz=>hb (D4 _ z)) h2;exact⟨by rw[h1,e1],e2⟩
def eM(ha:B12 a)(hb:B12 b)(h:numL a=numL b):a=b:=by
 have h1:=jT ha;rw[h,jT hb] at h1;exact(Option.some.inj h1).symm
def AV(ha:B12 a):∀ c∈numL a,c=45\/(48<=c/\c<=57):=by
 rcases numL_is ha with⟨c,hc,e⟩|⟨c,hc,e⟩|⟨c,hc,e⟩|⟨c,hc,e⟩<;>rw[e]<;>simp<;>lia
def cr(ha:B12 a)(he:endS e):e ∉ numL a:=λz=>by
 have:=AV ha e z;unfold endS at he;lia
def rowsL_chars:∀ {L:List (List Nat)},(∀ x∈L,∀ c∈x,aI c)->∀ c∈rowsL L,aI c\/c=47
 |[],_,c,h=>by cases h
 |[x],hx,c,h=> .inl (hx x Ea c h)
 |x::y::L,hx,c,h=>by
  have h':c∈x++47::rowsL (y::L):=h;rcases Et.mp h' with z|z
  .exact .inl (hx x Ea c z)
  .rcases D2.mp z with z|z
   .exact .inr z
   .exact rowsL_chars (λx q=>hx x (D4 _ q)) c z
def fz{c:Nat}(h:aI c):c≠47/\c≠59:=by unfold aI at h;lia
def rZ:∀ {L M:List (List Nat)},L≠[]->M≠[]->(∀ x∈L,∀ c∈x,aI c)->(∀ x∈M,∀ c∈x,aI c)->rowsL L=rowsL M->L=M
 |[],_,h,_,_,_,_=>absurd rfl h
 |_,[],_,h,_,_,_=>absurd rfl h
 |[x],[y],_,_,_,_,h=>by rw[show x=y from h]
 |[x],y::z::M,_,_,hx,_,h=>by
  have h':x=y++47::rowsL (z::M):=h;have:(47:Nat)∈x:=by rw[h'];simp
  exact absurd rfl (fz (hx x Ea 47 this)).1
 |x::z::L,[y],_,_,_,hy,h=>by
  have h':x++47::rowsL (z::L)=y:=h;have:(47:Nat)∈y:=by rw[<- h'];simp
  exact absurd rfl (fz (hy y Ea 47 this)).1
 |x::z::L,y::z'::M,_,_,hx,hy,h=>by
  have h':x++47::rowsL (z::L)=y++47::rowsL (z'::M):=h;obtain⟨e1,e2⟩:=cQ (λq=>(fz (hx x Ea 47 q)).1 rfl) (λq=>(fz (hy y Ea 47 q)).1 rfl) h';rw[e1,rZ (L:=z::L) (M:=z'::M) (λq=>nomatch q) (λq=>nomatch q) (λx q=>hx x (D4 _ q)) (λx q=>hy x (D4 _ q)) e2]
def se:∀ {L M:List x9},L.map cs=M.map cs->L=M
 |[],[],_=>rfl
 |[],_::_,h=>by cases h
 |_::_,[],h=>by cases h
 |x::L,y::M,h=>by
  rw[Eb,Eb] at h;injection h with h1 h2;rw[eF h1,se h2]
def AW{L':List x9}{a' b' c' d':Int}{x y:List Nat}(h:(Pat.mot L a b c d).Syn)(h':(Pat.mot L' a' b' c' d').Syn)(e:(Pat.mot L a b c d).tl++x=(Pat.mot L' a' b' c' d').tl++y):Pat.mot L a b c d=Pat.mot L' a' b' c' d'/\x=y:=by
 have e0:91::(rowsL (L.map cs)++59::(numL a++44::(numL b++59::(numL c++44::(numL d++93::x)))))=91::(rowsL (L'.map cs)++59::(numL a'++44::(numL b'++59::(numL c'++44::(numL d'++93::y))))):=by
  simpa[Pat.tl,motL] using e
 injection e0 with _ e1;have sg:∀ {L:List x9},Rows L->∀ x∈L.map cs,∀ c∈x,aI c:=λ{L} hL x hx=>by
  obtain⟨l,hl,rfl⟩:=El.mp hx;obtain⟨_,w,_,q⟩:=hL;exact(q l hl).2
 have Mw:∀ {L:List x9},Rows L->(59:Nat) ∉ rowsL (L.map cs):=λ{L} hL z=>by
  rcases rowsL_chars (sg hL) 59 z with q|q
  .exact(fz q).2 rfl
  .cases q
 have ne:∀ {L:List x9},Rows L->L.map cs≠[]:=λ{L} hL z=>by
  have h1:=hL.many.1;have h2:=congrArg E7 z;rw[DZ] at h2;simp at h2;rw[h2] at h1;simp at h1
 obtain⟨q1,e2⟩:=cQ (Mw h.1) (Mw h'.1) e1;obtain⟨q2,e3⟩:=cQ (cr h.2.1 (.inl rfl)) (cr h'.2.1 (.inl rfl)) e2;obtain⟨q3,e4⟩:=cQ (cr h.2.2.1 (.inr (.inl rfl))) (cr h'.2.2.1 (.inr (.inl rfl))) e3;obtain⟨q4,e5⟩:=cQ (cr h.2.2.2.1 (.inl rfl)) (cr h'.2.2.2.1 (.inl rfl)) e4;obtain⟨q5,e6⟩:=cQ (cr h.2.2.2.2 (.inr (.inr (.inr rfl)))) (cr h'.2.2.2.2 (.inr (.inr (.inr rfl)))) e5;rw[se (rZ (ne h.1) (ne h'.1) (sg h.1) (sg h'.1) q1),eM h.2.1 h'.2.1 q2,eM h.2.2.1 h'.2.2.1 q3,eM h.2.2.2.1 h'.2.2.2.1 q4,eM h.2.2.2.2 h'.2.2.2.2 q5];exact⟨rfl,e6⟩
def Pat.head:Pat->Nat
 | .mot ..=>91| .over ..=>40| .sh ..=>115| .mir ..=>109| .tur ..=>116| .hue ..=>104
def Pat.tl_head(p:Pat):∃ l,p.tl=p.head::l:=by cases p<;>exact⟨_,rfl⟩
def dO{x y:List Nat}(e:p.tl++x=q.tl++y):p.head=q.head:=by
 obtain⟨l1,e1⟩:=p.tl_head;obtain⟨l2,e2⟩:=q.tl_head;rw[e1,e2] at e;have e':p.head::(l1++x)=q.head::(l2++y):=e;injection e'
def sf(h:1<=f/\f<=6)(h':1<=g/\g<=6)(e:(48+f).toNat=(48+g).toNat):f=g:=by lia
def AX{x y:List Nat}(hp:p.Syn)(hq:q.Syn)(e:p.tl++x=q.tl++y):p=q/\x=y:=by
 have hh:=dO e;induction p generalizing q x y with
 |mot=>
  cases q with
  |mot=>exact AW hp hq e
  |_=>simp[Pat.head] at hh
 |over p q i1 i2=>
  cases q with
  |over p' q'=>
   have e0:40::(p.tl++124::(q.tl++41::x))=40::(p'.tl++124::(q'.tl++41::y)):=by simpa[Pat.tl] using e
   injection e0 with _ e1;obtain⟨rfl,e2⟩:=i1 hp.1 hq.1 e1 (dO e1);injection e2 with _ e3;obtain⟨rfl,e4⟩:=i2 hp.2 hq.2 e3 (dO e3);injection e4 with _ e5;exact⟨rfl,e5⟩
  |_=>simp[Pat.head] at hh
 |sh a b p i=>
  cases q with
  |sh a' b' p'=>
   have e0:115::(numL a++44::(numL b++58::(p.tl++x)))=115::(numL a'++44::(numL b'++58::(p'.tl++y))):=by simpa[Pat.tl] using e
   injection e0 with _ e1;obtain⟨q2,e3⟩:=cQ (cr hp.1 (.inl rfl)) (cr hq.1 (.inl rfl)) e1;obtain⟨q3,e4⟩:=cQ (cr hp.2.1 (.inr (.inr (.inl rfl)))) (cr hq.2.1 (.inr (.inr (.inl rfl)))) e3;obtain⟨rfl,e5⟩:=i hp.2.2 hq.2.2 e4 (dO e4);rw[eM hp.1 hq.1 q2,eM hp.2.1 hq.2.1 q3];exact⟨rfl,e5⟩
  |_=>simp[Pat.head] at hh
 |mir p i=>
  cases q with
  |mir p'=>
   have e0:109::(p.tl++x)=109::(p'.tl++y):=e;injection e0 with _ e1;obtain⟨rfl,e5⟩:=i (q:=p') hp hq e1 (dO e1);exact⟨rfl,e5⟩
  |_=>simp[Pat.head] at hh
 |tur p i=>
  cases q with
  |tur p'=>
   have e0:116::(p.tl++x)=116::(p'.tl++y):=e;injection e0 with _ e1;obtain⟨rfl,e5⟩:=i (q:=p') hp hq e1 (dO e1);exact⟨rfl,e5⟩
  |_=>simp[Pat.head] at hh
 |hue f g p i=>
  cases q with
  |hue f' g' p'=>
   have e0:104::(numL f++(numL g++(p.tl++x)))=104::(numL f'++(numL g'++(p'.tl++y))):=by simpa[Pat.tl] using e
   rw[hueL hp.1,hueL hp.2.1,hueL hq.1,hueL hq.2.1] at e0;have e1:104::(48+f).toNat::(48+g).toNat::(p.tl++x)=104::(48+f').toNat::(48+g').toNat::(p'.tl++y):=e0;injection e1 with _ e2;injection e2 with e3 e4;injection e4 with e5 e6;obtain⟨rfl,e7⟩:=i hp.2.2 hq.2.2 e6 (dO e6);rw[sf hp.1 hq.1 e3,sf hp.2.1 hq.2.1 e5];exact⟨rfl,e7⟩
  |_=>simp[Pat.head] at hh
def AY:SiD:=λds R=>∃ (t:x9) (w h s:Int) (x:x9) (fs:List (x9 × D)),ds=[.str t,.tup [.int w,.int h,.int s],.obj x fs]/\R [("text",.str t),("shifts",.tup [.int w,.int h,.int s]),("form",.obj x fs)]
def AZ:SiD:=λds R=>∃ i:Int,ds=[.int i]/\R [("place",.int i)]
def A1:SiD:=λds R=>∃ i:Int,ds=[.int i]/\R [("place",.int i)]
def sj:SpX:=λds R RX=>(∃ (t:x9) (k:Nat),ds=[.str t]/\t.length<=100000/\da t=be k/\RX "WrongSign" [("place",.int k)])\/
 ∃ p:Pat,ds=[.str p.text]/\p.Syn/\p.depth<=5/\p.Cal/\(∀ k:Nat,p.lineAt 0=be k->RX "OneLine" [("place",.int k)])/\(p.lineAt 0=q_->¬ p.Fits->RX "TooGreat" [])/\(p.lineAt 0=q_->p.Fits->∀ d,bE p d->R d)
def so{R:D->Prop}(ok:p.Ok)(h:∀ d,bE p d->R d):jF sj [.str p.text] R:=
 .inr ⟨p,rfl,ok.wf.syn,ok.deep,Pat.cal_of ok.wf ok.fits,(λk e=>by rw[Pat.wf_line 0 ok.wf] at e;cases e),λ_ z=>z ok.fits,λ_ _=>h⟩
def A2:SpX:=λds R RX=>∃ x y:Int,ds=[.int x,.int y]/\(bo x/\bo y->R .non)/\(¬ (bo x/\bo y)->RX "TooFar" [])
def sq:SpX:=λds R RX=>∃ (p:Pat) (d:D) (x y:Int),ds=[d,.int x,.int y]/\bE p d/\p.Ok/\(bo x/\bo y->R (.int (p.show x y)))/\(¬ (bo x/\bo y)->RX "TooFar" [])
def A3{d:D}{R:D->Prop}(hd:bE p d)(ok:p.Ok)(hx:bo x)(hy:bo y)(h:R (.int (p.show x y))):jF sq [d,.int x,.int y] R:=
 ⟨p,d,x,y,rfl,hd,ok,λ_=>h,λz=>z ⟨hx,hy⟩⟩
def A5:SpD:=λds R=>∃ (p:Pat) (d:D) (x y:Int) (n:Nat),ds=[d,.int x,.int y,.int n]/\bE p d/\p.Ok/\n<=1000/\bo x/\bo (x+n - 1)/\bo y/\R (.str (ay p x y n))
def A6{n:Int}:x.fmod n=0↔n∣x:=⟨Int.dvd_of_fmod_eq_zero,F7⟩
def A7(a b c d u v i j:Int):onB a b c d (u+(i*a+j*c)) (v+(i*b+j*d))=onB a b c d u v:=by
 unfold onB;have e1:(u+(i*a+j*c))*d - (v+(i*b+j*d))*c=(u*d - v*c)+(a*d - b*c)*i:=by grind
 have e2:a*(v+(i*b+j*d)) - b*(u+(i*a+j*c))=(a*v - b*u)+(a*d - b*c)*j:=by grind
 rw[e1,e2];simp only[A6];have h1:(a*d - b*c∣u*d - v*c+(a*d - b*c)*i)↔a*d - b*c∣u*d - v*c:=GR (GS _ _);have h2:(a*d - b*c∣a*v - b*u+(a*d - b*c)*j)↔a*d - b*c∣a*v - b*u:=GR (GS _ _);simp only[h1,h2]
def Pat.Keeps(p:Pat)(X Y:Int):Prop:=∀ x y,p.show (x+X) (y+Y)=p.show x y
def Pat.lat_keeps:∀ {p:Pat} {X Y:Int},p.Lat X Y->p.Keeps X Y
 | .mot L a b c d,_,_,⟨i,j,rfl,rfl⟩,x,y=>by
  have e:∀ u v:Int,onB a b c d (1*(x+(i*a+j*c))+0*(y+(i*b+j*d))+0 - u) (0*(x+(i*a+j*c))+1*(y+(i*b+j*d))+0 - v)=onB a b c d (1*x+0*y+0 - u) (0*x+1*y+0 - v):=λu v=>by
   rw[<- A7 a b c d (1*x+0*y+0 - u) (0*x+1*y+0 - v) i j];congr 1<;>lia
  show Leaf.shows _ _ _=Leaf.shows _ _ _;unfold Leaf.shows Leaf.hit;simp only[cb,e]
 | .over p q,X,Y,h,x,y=>by
  simp only[Pat.show];rw[Pat.lat_keeps h.1 x y,Pat.lat_keeps h.2 x y]
 | .sh a b p,X,Y,h,x,y=>by
  have:=Pat.lat_keeps (p:=p) h (x - a) (y - b);simp only[Pat.show];rw[<- this];congr 1<;>lia
 | .mir p,X,Y,h,x,y=>by
  have:=Pat.lat_keeps (p:=p) h (-x) y;simp only[Pat.show];rw[<- this];congr 1;lia
 | .tur p,X,Y,h,x,y=>by
  have:=Pat.lat_keeps (p:=p) h y (-x);simp only[Pat.show];rw[<- this];congr 1;lia
 | .hue f g p,X,Y,h,x,y=>by
  simp only[Pat.show];rw[Pat.lat_keeps (p:=p) h x y]
namespace Pat.Keeps
variable {p:Pat}{X Y U V:Int}
def zero:p.Keeps 0 0:=λx y=>by rw[FM,FM]
def add(h:p.Keeps X Y)(k:p.Keeps U V):p.Keeps (X+U) (Y+V):=λx y=>by
 rw[<- GT,<- GT,k,h]
def neg(h:p.Keeps X Y):p.Keeps (-X) (-Y):=λx y=>by
 have:=h (x+-X) (y+-Y);rw[<- this];congr 1<;>lia
def sub(h:p.Keeps X Y)(k:p.Keeps U V):p.Keeps (X - U) (Y - V):=by
 have:=h.add k.neg;rwa [<- GU,<- GU] at this
def nat(h:p.Keeps X Y):∀ n:Nat,p.Keeps ((n:Int)*X) ((n:Int)*Y)
 |0=>by simpa using zero
 |n+1=>by
  have:=(nat h n).add h;have e:∀ z:Int,((n+1:Nat):Int)*z=(n:Int)*z+z:=λz=>by rw[GV,E2];simp
  rw[e,e];exact this
def mul(h:p.Keeps X Y)(n:Int):p.Keeps (n*X) (n*Y):=by
 rcases Int.le_total 0 n with q|q
 .have:=h.nat n.toNat;rwa [Ev q] at this
 .have:=(h.nat (-n).toNat).neg;rw[Ev (by lia)] at this;simpa[ER] using this
end Pat.Keeps
def InF.keeps(a:p.Keeps w 0)(b:p.Keeps s h)(q:InF w h s x y):p.Keeps x y:=by
 obtain⟨i,j,rfl,rfl⟩:=q;have:=(a.mul i).add (b.mul j);rwa [FN,Ge] at this
def InF.one(w h s:Int):InF w h s w 0:=⟨1,0,by lia,by lia⟩
def InF.two(w h s:Int):InF w h s s h:=⟨0,1,by lia,by lia⟩
def Pat.Fam.keeps(f:p.Fam w h s)(q:InF w h s x y):p.Keeps x y:=Pat.lat_keeps ((f.lat x y).mp q)
structure Pat.Kfam(p:Pat)(w h s:Int):Prop where
 f:Fam0 w h s
 keeps:∀ {x y},InF w h s x y->p.Keeps x y
def Pat.Fam.k(F:p.Fam w h s):p.Kfam w h s:=⟨F.f,F.keeps⟩
structure Pat.Least(p:Pat)(w h s:Int):Prop where
 f:Fam0 w h s
 lat:∀ x y,InF w h s x y↔p.Keeps x y
def Pat.Least.uniq(a:p.Least w h s)(b:p.Least w' h' s'):w=w'/\h=h'/\s=s':=
 InF.uniq a.f.w0 a.f.h0 a.f.s0 a.f.sw b.f.w0 b.f.h0 b.f.s0 b.f.sw λx y=>(a.lat x y).trans (b.lat x y).symm
def A8{P:Nat->Prop}(h:∃ n,P n):∃ n,P n/\∀ m,P m->n<=m:=by
 obtain⟨n,hn⟩:=h;induction n using Nat.strongRecOn with
 |ind n ih=>
  by_cases q:∃ m,m<n/\P m
  .obtain⟨m,hm,pm⟩:=q;exact ih m hm pm
  .exact⟨n,hn,λm pm=>Fj λz=>q ⟨m,z,pm⟩⟩
def sr(hw:0<w)(h:P w):∃ n:Int,0<n/\P n/\∀ m,0<m->P m->n<=m:=by
 obtain⟨n,⟨a,b⟩,c⟩:=A8 (P:=λn=>0<n/\P (n:Int)) ⟨w.toNat,by lia,by rw[Ev (by lia)];exact h⟩;exact⟨n,by lia,b,λm hm pm=>by have:=c m.toNat ⟨by lia,by rw[Ev (by lia)];exact pm⟩;lia⟩
def ss{n:Int}(hn:0<n)(pn:P n)(l:∀ m,0<m->P m->n<=m)(cl:∀ x q,P x->P (x - q*n))(hx:P x):n∣x:=by
 have e:=EK x n;have a:=Es x (by lia:n≠0);have b:=Em x hn;have c:=cl x (x / n) hx;have d:x - x / n*n=x % n:=by rw[e,Er]
 rw[d] at c;by_cases z:x % n=0
 .exact Int.dvd_of_emod_eq_zero z
 .have:=l _ (by lia) c;lia
def Pat.least_ex(F:p.Kfam w h s):∃ w' h' s',p.Least w' h' s'/\w'∣w/\h'∣h/\w'*h'<=w*h/\w'<=w/\h'<=h:=by
 obtain⟨m,m0,mk,ml⟩:=sr (P:=λx=>p.Keeps x 0) F.f.w0 (F.keeps (InF.one w h s));have md:∀ {x},p.Keeps x 0->m∣x:=λ{x} q=>ss (P:=λx=>p.Keeps x 0) m0 mk ml (λx q hx=>by
  have:=hx.sub (mk.mul q);rwa [FN,Fv] at this) q
 obtain⟨k,k0,⟨t,kk⟩,kl⟩:=sr (P:=λy=>∃ x,p.Keeps x y) F.f.h0 ⟨s,F.keeps (InF.two w h s)⟩;have kd:∀ {x y},p.Keeps x y->k∣y:=λ{x y} q=>ss (P:=λy=>∃ x,p.Keeps x y) k0 ⟨t,kk⟩ kl (λy q ⟨x,hx⟩=>⟨x - q*t,hx.sub (kk.mul q)⟩) ⟨x,q⟩;have e:=EK t m;have sk:p.Keeps (t % m) k:=by
  have:=kk.sub (mk.mul (t / m));rw[FN,Fv] at this;rw[e,Er];exact this
 have L:p.Least m k (t % m):=by
  refine⟨⟨m0,k0,Es t (by lia),Em t m0⟩,λx y=>⟨λq=>q.keeps mk sk,λq=>?_⟩⟩;obtain⟨j,rfl⟩:=kd q;have:=q.sub (sk.mul j);rw[Er k j,Int.sub_self] at this;obtain⟨i,hi⟩:=md this;exact⟨i,j,by rw[Er i m,<- hi];lia,Er _ _⟩
 obtain⟨a,b,c⟩:=InF.le m0 k0 F.f.w0 F.f.h0 (λx y q=>(L.lat x y).mpr (F.keeps q));exact⟨m,k,_,L,md (F.keeps (InF.one w h s)),kd (F.keeps (InF.two w h s)),a,b,c⟩
def jZ(hw:0<w)(hh:0<h)(x y:Int):InF w h s (x - hmX w h s x y) (y - y % h):=by
 have e1:=EK y h;have e2:=EK (x - y / h*s) w;refine⟨(x - y / h*s) / w,y / h,?_,by rw[e1,Er];lia⟩;unfold hmX;rw[e2,Er w];lia
def Pat.show_home(hw:0<w)(hh:0<h)(k:∀ x y,InF w h s x y->p.Keeps x y)(x y:Int):p.show (hmX w h s x y) (y % h)=p.show x y:=by
 have:=k _ _ (jZ (s:=s) hw hh x y) (hmX w h s x y) (y % h);rw[<- this];congr 1<;>lia
def A9(f:Nat->Nat){w c:Nat}(h:c<w):((DV w).map f).drop c++((DV w).map f).take c=(DV w).map λk=>f ((c+k) % w):=by
 apply FC;intro i;by_cases h1:i<w - c
 .rw[EH (by simp;exact h1),List.getElem?_drop,D5,D5,Ex (by lia),Ex (by lia)];simp[GW (show c+i<w by lia)]
 .rw[EW (by simp;lia)];simp only[Fi,DZ,Eu];by_cases h2:i<w
  .rw[Gm (by lia),D5,D5,Ex (by lia),Ex (by lia)];have e:(c+i) % w=i - (w - c):=by
    rw[show c+i=(i - (w - c))+w by lia,Nat.add_mod_right,GW (by lia)]
   simp[e]
  .rw[EC (by simp;lia),EC (by simp;lia)]
def fA(l:List Nat):cs (⟨l.toArray⟩:x9)=l:=by simp
def Ba(ht:cs t=l)(c0:0<=c)(cl:c<l.length):Txt.slice t (be c) q_++Txt.slice t q_ (be c)=(⟨(l.drop c.toNat++l.take c.toNat).toArray⟩:x9):=by
 have hl:t.length=l.length:=by rw[<- ht,bL]
 apply eF;rw[bC,slice_cps,slice_cps,fA,fA,fA,show t.cps.toList=l from ht,hl];have e1:HT.sIx l.length 0 (be c)=c.toNat:=by show(if c<0 then _ else min c.toNat l.length)=_;rw[if_neg (by lia)];lia
 have e2:HT.sIx l.length l.length q_=l.length:=rfl;have e3:HT.sIx l.length 0 q_=0:=rfl;have e4:HT.sIx l.length l.length (be c)=c.toNat:=by show(if c<0 then _ else min c.toNat l.length)=_;rw[if_neg (by lia)];lia
 rw[e1,e2,e3,e4,List.drop_zero,GD (by simp)];rfl
def cf(p:Pat)(x y:Int)(n:Nat):cs (ay p x y n)=(DV n).map λ(k:Nat)=>bu (p.show (x+(k:Int)) y):=fA _
def su(hw:0<w)(hh:0<h)(k:∀ x y,InF w h s x y->p.Keeps x y)(x y:Int):
  Txt.slice (ay p 0 (y % h) w.toNat) (be (hmX w h s x y)) q_++Txt.slice (ay p 0 (y % h) w.toNat) q_ (be (hmX w h s x y))=ay p x y w.toNat:=by
 have c0:0<=hmX w h s x y:=Es _ (by lia);have c1:hmX w h s x y<w:=Em _ hw;rw[Ba (cf p 0 (y % h) w.toNat) c0 (by simp;lia),A9 _ (by lia)];unfold ay;congr 2;apply FE;intro i _;have e:=Pat.show_home hw hh k (x+(i:Int)) y;rw[<- e];congr 2;have q:hmX w h s (x+(i:Int)) y=(hmX w h s x y+i) % w:=by
  unfold hmX;rw[Int.emod_add_emod];congr 1;lia
 rw[q,Ge,Int.natCast_emod,GV,Ev c0,Ev (by lia)]
def bc(p:Pat)(w h:Int):D:= .lst ((DV h.toNat).map λ(y:Nat)=>D.str (ay p 0 (y:Int) w.toNat))
def Bb:SpD:=λds R=>∃ (p:Pat) (d:D),ds=[d]/\bE p d/\p.Ok/\∀ w h s,p.Fam w h s->w*h<=720->w<=720->h<=720->R (bc p w h)
def Bc:SpD:=λds R=>∃ (p:Pat) (w h s x y:Int),ds=[.tup [.int w,.int h,.int s],bc p w h,.int x,.int y]/\p.Fam w h s/\w<=720/\h<=720/\R (.str (ay p x y w.toNat))
def sv(a0:0<=a)(a6:a<=6)(b0:0<=b)(b6:b<=6)(e:bu a=bu b):a=b:=by
 unfold bu at e;split at e<;>split at e<;>lia
def Bd(hp:p.Ok)(hq:q.Ok)(e:ay p x y n=ay q u v n){k:Nat}(hk:k<n):p.show (x+k) y=q.show (u+k) v:=by
 have e2:cs (ay p x y n)=cs (ay q u v n):=by rw[e]
 rw[cf,cf] at e2;have e3:=congrArg (λl=>l[k]?) e2;simp[hk] at e3;have a:=Pat.show_le hp.wf (by have:=hp.deep;lia) (x+k) y;have b:=Pat.show_le hq.wf (by have:=hq.deep;lia) (u+k) v;exact sv a.1 a.2 b.1 b.2 e3
def rowText_eq(e:∀ k:Nat,k<n->p.show (x+k) y=q.show (u+k) v):ay p x y n=ay q u v n:=by
 apply eF;rw[cf,cf];exact FE λk hk=>by rw[e k (by simpa using hk)]
def gH(ok:p.Ok)(F:p.Kfam w h s)(x y:Int):(∀ j:Nat,j<h.toNat->ay p x (y+j) w.toNat=ay p 0 j w.toNat)↔p.Keeps x y:=by
 have hw:=F.f.w0;have hh:=F.f.h0;constructor
 .intro e a b;have c0:0<=hmX w h s a b:=Es _ (by lia);have c1:hmX w h s a b<w:=Em _ hw;have d0:0<=b % h:=Es _ (by lia);have d1:b % h<h:=Em _ hh;have k:=F.keeps (jZ (s:=s) hw hh a b);have q:=Bd ok ok (e (b % h).toNat (by lia)) (k:=(hmX w h s a b).toNat) (by lia);rw[Ev c0,Ev d0] at q;have q1:=k (x+hmX w h s a b) (y+b % h);have q2:=k (0+hmX w h s a b) (b % h);rw[show x+hmX w h s a b+(a - hmX w h s a b)=a+x by lia,show y+b % h+(b - b % h)=b+y by lia] at q1;rw[show 0+hmX w h s a b+(a - hmX w h s a b)=a by lia,show b % h+(b - b % h)=b by lia] at q2;rw[q1,q2,q]
 .intro k j _;exact rowText_eq λi _=>by
   have:=k (0+i) j;rw[<- this];congr 1<;>lia
def Be:SpD:=λds R=>∃ n:Int,ds=[.int n]/\0<n/\n<=1000/\∀ ns:List Int,ns.length<=1000->(∀ m,m∈ns↔1<=m/\m<=n/\n % m=0)->R (.lst (ns.map D.int))
def Bf:SpD:=λds R=>∃ (p:Pat) (w h s x y:Int),ds=[.tup [.int w,.int h,.int s],bc p w h,.int x,.int y]/\p.Ok/\p.Fam w h s/\w<=720/\h<=720/\∀ b,(b=true↔p.Keeps x y)->R (.bl b)
structure Pat.LeastW(p:Pat)(w m:Int):Prop where
 lo:1<=m
 hi:m<=w
 md:w % m=0
 k:p.Keeps m 0
 l:∀ d,1<=d->d<=w->w % d=0->p.Keeps d 0->m<=d
def Pat.LeastW.eq{m:Int}(F:p.Fam w h s)(L:p.Least w' h' s')(a:p.LeastW w m):m=w':=by
 have w0:=L.f.w0;have k:p.Keeps w' 0:=(L.lat _ _).mp (InF.one _ _ _);obtain⟨i,j,e1,e2⟩:=(L.lat m 0).mpr a.k;have h0:=L.f.h0;have j0:j=0:=by
  rcases Ff j 0 with q|q|q
  .have:=FO q h0;lia
  .exact q
  .have:=Eg q h0;lia
 subst j0;rw[GX,FM] at e1;have lo:=a.lo;have i0:0<i:=by
  rcases Ff i 0 with q|q|q
  .have:=FO q w0;lia
  .subst q;lia
  .exact q
 have h1:w'<=m:=by
  rw[e1];have:=Ef (show 1<=i by lia) (show 0<=w' by lia);lia
 obtain⟨i2,j2,f1,f2⟩:=(L.lat w 0).mpr (F.keeps (InF.one w h s));have N6:j2=0:=by
  rcases Ff j2 0 with q|q|q
  .have:=FO q h0;lia
  .exact q
  .have:=Eg q h0;lia
 subst N6;have h2:=a.l w' (by lia) (by have:=a.hi;lia) (by rw[f1,GX,FM];exact FH _ _) k;lia
def Bg:SpD:=λds R=>∃ (p:Pat) (w h s:Int),ds=[.tup [.int w,.int h,.int s],bc p w h]/\p.Ok/\p.Fam w h s/\w<=720/\h<=720/\∀ m,p.LeastW w m->R (.int m)
def Bh:SpD:=λds R=>∃ (p:Pat) (w h s m y:Int),ds=[.tup [.int w,.int h,.int s],bc p w h,.int m,.int y]/\p.Ok/\p.Fam w h s/\w<=720/\h<=720/\0<=m/\m<=720/\(∀ t,0<=t->t<m->p.Keeps t y->(∀ u,0<=u->u<t->¬ p.Keeps u y)->R (.int t))/\((∀ t,0<=t->t<m->¬ p.Keeps t y)->R .non)
def Bi(h0:0<h)(e:h=j*h):j=1:=by
 have:(j - 1)*h=0:=by rw[FL,<- e];lia
 rcases Gd.mp this with q|q<;>lia
def small_mul(w0:0<w)(a: -w<i*w)(b:i*w<w):i=0:=by
 rcases Ff i 0 with q|q|q
 .have:=Ef (show i<=-1 by lia) (show 0<=w by lia);lia
 .exact q
 .have:=Ef (show 1<=i by lia) (show 0<=w by lia);lia
def Pat.Least.slant{t:Int}(L:p.Least w h s)(a:0<=t)(b:t<w)(k:p.Keeps t h):t=s:=by
 obtain⟨i,j,e1,e2⟩:=(L.lat t h).mpr k;have j1:=Bi L.f.h0 e2;subst j1;have s0:=L.f.s0;have sw:=L.f.sw;have:=small_mul (i:=i) L.f.w0 (by lia) (by lia);subst this;lia
def Pat.Least.row(L:p.Least w h s)(k:p.Keeps x y):p.Keeps (x % w) y:=by
 have e:=EK x w;have:=k.sub (((L.lat _ _).mp (InF.one w h s)).mul (x / w));rw[FN,Fv] at this;rw[e,Er];exact this
def Pat.Least.down(L:p.Least w h s)(k:p.Keeps x y)(y0:0<y):h<=y/\y % h=0:=by
 obtain⟨i,j,e1,e2⟩:=(L.lat x y).mpr k;have h0:=L.f.h0;have j0:0<j:=by
  rcases Ff j 0 with q|q|q
  .have:=FO q h0;lia
  .subst q;lia
  .exact q
 have:=Ef (show 1<=j by lia) (show 0<=h by lia);exact⟨by lia,by rw[e2];exact FH _ _⟩
def Bj:SpD:=λds R=>∃ (p:Pat) (d:D),ds=[d]/\bE p d/\p.Ok/\∀ w h s,p.Least w h s->w*h<=720->w<=720->h<=720->R (.tup [.int w,.int h,.int s])
def dh(p:Pat)(w h s:Int):D:= .tup [.int w,.int h,.int s,.tup ((DV h.toNat).map λ(y:Nat)=>D.str (ay p 0 (y:Int) w.toNat))]
def Bk:SpD:=λds R=>∃ (p:Pat) (d:D),ds=[d]/\bE p d/\p.Ok/\∀ w h s,p.Least w h s->w*h<=720->w<=720->h<=720->R (dh p w h s)
def Bl:SpD:=λds R=>∃ xs:List Int,ds=[.tup (xs.map D.int),.tup (xs.map D.int)]/\xs.length<=1000/\R (.bl true)
def Pat.Least.le(F:p.Fam w h s)(L:p.Least w' h' s'):w'*h'<=w*h:=(InF.le L.f.w0 L.f.h0 F.f.w0 F.f.h0 (λx y q=>(L.lat x y).mpr (F.keeps q))).1
def Bm(p:Pat)(x y:Int)(n:Nat):Txt.join "" ((DV n).map λ(i:Nat)=>(⟨#[bu (p.show (x+(i:Int)) y)]⟩:x9))=ay p x y n:=(StrLaws.glued_eq_join _ _).trans (rY (λi=>bu (p.show (x+(i:Int)) y)) n)
def Bn(f:Nat->Nat)(n:Nat):(((DV n).map λ(i:Nat)=>(⟨#[f i]⟩:x9)).map (·.length)).sum=n:=by
 rw[jP (w:=1) (λl hl=>by obtain⟨i,_,rfl⟩:=El.mp hl;rfl),DZ,Eu,Nat.mul_one]
def sy(f:Nat->x9)(n:Nat):((DV n).map λ(i:Nat)=>D.str (f i))=((DV n).map f).map D.str:=by rw[Fu];rfl
def Bo:SpD:=λds R=>∃ (p:Pat) (w h s:Int),ds=[.lst (p.leaves.map Leaf.D),.tup [.int w,.int h,.int s]]/\p.Wf/\p.depth<=5/\0<w/\w<=720/\0<h/\h<=720/\R (bc p w h)
def Bp:SpD:=λds R=>∃ (p:Pat) (w h s x y:Int),ds=[bc p w h,.tup [.int w,.int h,.int s],.int x,.int y]/\p.Ok/\p.Kfam w h s/\w<=720/\h<=720/\∀ b,(b=true↔p.Keeps x y)->R (.bl b)
def Pat.Least.first(L:p.Least w h s)(k:p.Keeps x y)(y0:0<=y)(yh:y<h)(x0:0<=x)(xw:x<w):x=0/\y=0:=by
 obtain⟨i,j,e1,e2⟩:=(L.lat x y).mpr k;have h0:=L.f.h0;have j0:=small_mul (i:=j) h0 (by lia) (by lia);subst j0;have i0:=small_mul (i:=i) L.f.w0 (by lia) (by lia);subst i0;lia
def Bq:SpD:=λds R=>∃ (p:Pat) (w h s:Int),ds=[bc p w h,.tup [.int w,.int h,.int s]]/\p.Ok/\p.Kfam w h s/\w<=720/\h<=720/\∀ w' h' s',p.Least w' h' s'->w'*h'<=w*h->w'<=w->h'<=h->R (.tup [.int w',.int h',.int s'])
def sA(X Y:Int):(Pat.mir p).Keeps X Y↔p.Keeps (-X) Y:=by
 constructor<;>intro h x y
 .have:=h (-x) y;simp only[Pat.show,FP,GY] at this;exact this
 .have:=h (-x) y;simp only[Pat.show,FP];exact this
def sB(X Y:Int):(Pat.tur p).Keeps X Y↔p.Keeps Y (-X):=by
 constructor<;>intro h x y
 .have:=h (-y) x;simp only[Pat.show,FP,GY] at this;exact this
 .have:=h y (-x);simp only[Pat.show,FP];exact this
def sC(a b X Y:Int):(Pat.sh a b p).Keeps X Y↔p.Keeps X Y:=by
 constructor<;>intro h x y
 .have:=h (x+a) (y+b);simp only[Pat.show] at this;rw[show x+a+X - a=x+X by lia,show y+b+Y - b=y+Y by lia,show x+a - a=x by lia,show y+b - b=y by lia] at this;exact this
 .have:=h (x - a) (y - b);simp only[Pat.show];rw[show x+X - a=x - a+X by lia,show y+Y - b=y - b+Y by lia];exact this
def Pat.Least.mir(k:p.Least w h s):(Pat.mir p).Least w h (-s % w):=by
 refine⟨⟨k.f.w0,k.f.h0,cE k.f.w0,cF k.f.w0⟩,λx y=>?_⟩;rw[sA,<- k.lat];have e:=EK (-s) w;generalize -s % w=r at e;generalize -s / w=t at e;constructor
 .rintro⟨i,j,rfl,rfl⟩;exact⟨j*t - i,j,by rw[e];grind,rfl⟩
 .rintro⟨i,j,ex,rfl⟩;exact⟨j*t - i,j,by rw[e];grind,rfl⟩
def Pat.Least.tur(k:p.Least w h s)(f:FamOf 0 w (-h) s w' h' s'):(Pat.tur p).Least w' h' s':=by
 refine⟨⟨f.1,f.2.1,f.2.2.1,f.2.2.2.1⟩,λx y=>?_⟩;rw[sB,<- k.lat,f.lat];constructor
 .rintro⟨i,j,rfl,rfl⟩;exact⟨i,j,by grind,by grind⟩
 .rintro⟨i,j,ex,ey⟩;exact⟨i,j,by grind,by grind⟩
def Pat.Least.sh(a b:Int)(k:p.Least w h s):(Pat.sh a b p).Least w h s:=⟨k.f,λx y=>by rw[sC,k.lat]⟩
structure Mv(p q:Pat)(b0 b1 b2 b3:Int):Prop where
 keeps:∀ X Y,q.Keeps X Y↔p.Keeps (b0*X+b1*Y) (b2*X+b3*Y)
 leaf:∀ l ls,p.leaves=l::ls->∃ l' ls',q.leaves=l'::ls'/\l'.w0=l.w0*b0+l.w1*b2/\l'.w1=l.w0*b1+l.w1*b3/\l'.w2=l.w2*b0+l.w3*b2/\l'.w3=l.w2*b1+l.w3*b3
 area:∀ w h s,p.Least w h s->∃ w' h' s',q.Least w' h' s'/\w'*h'=w*h
def Mv.refl(p:Pat):Mv p p 1 0 0 1:=⟨λX Y=>by simp,λl ls e=>⟨l,ls,e,by simp,by simp,by simp,by simp⟩,λw h s L=>⟨w,h,s,L,rfl⟩⟩
variable{b0 b1 b2 b3:Int}
def Mv.mir(m:Mv p q b0 b1 b2 b3):Mv p (.mir q) (-b0) b1 (-b2) b3:=by
 refine⟨λX Y=>?_,λl ls e=>?_,λw h s L=>?_⟩
 .rw[sA,m.keeps,EZ,EZ,ER,ER]
 .obtain⟨l',ls',e',h0,h1,h2,h3⟩:=m.leaf l ls e;refine⟨_,_,by rw[Pat.leaves,e',Eb],?_,?_,?_,?_⟩<;>simp only[Leaf.by,h0,h1,h2,h3]<;>grind
 .obtain⟨w',h',s',L',e⟩:=m.area w h s L;exact⟨_,_,_,L'.mir,e⟩
def Mv.tur(m:Mv p q b0 b1 b2 b3):Mv p (.tur q) (-b1) b0 (-b3) b2:=by
 refine⟨λX Y=>?_,λl ls e=>?_,λw h s L=>?_⟩
 .rw[sB,m.keeps,EZ,EZ,ER,ER,FQ (b0*Y),FQ (b2*Y)]
 .obtain⟨l',ls',e',h0,h1,h2,h3⟩:=m.leaf l ls e;refine⟨_,_,by rw[Pat.leaves,e',Eb],?_,?_,?_,?_⟩<;>simp only[Leaf.by,h0,h1,h2,h3]<;>grind
 .obtain⟨w',h',s',L',e⟩:=m.area w h s L;obtain⟨w2,h2,s2,f,e2⟩:=fv (s:=s') L'.f.w0 L'.f.h0;exact⟨_,_,_,L'.tur f,by lia⟩
def Mv.sh(a b:Int)(m:Mv p q b0 b1 b2 b3):Mv p (.sh a b q) b0 b1 b2 b3:=by
 refine⟨λX Y=>?_,λl ls e=>?_,λw h s L=>?_⟩
 .rw[sC,m.keeps]
 .obtain⟨l',ls',e',h0,h1,h2,h3⟩:=m.leaf l ls e;refine⟨_,_,by rw[Pat.leaves,e',Eb],?_,?_,?_,?_⟩<;>simp only[Leaf.by,h0,h1,h2,h3]<;>grind
 .obtain⟨w',h',s',L',e⟩:=m.area w h s L;exact⟨_,_,_,L'.sh a b,e⟩
def Br{k:Int}(a:0<=k)(b:k<h):atI ((DV h.toNat).map λ(y:Nat)=>D.str (ay p 0 (y:Int) w.toNat)) k=be (.str (ay p 0 k w.toNat)):=by
 have e:k=((k.toNat:Nat):Int):=by lia
 rw[e];exact cv (by rw[D5,Ex (by lia)];simp)
def sE(a:0<=i)(b:i<w):atI (cs (ay p 0 j w.toNat)) i=be (bu (p.show i j)):=by
 have e:i=((i.toNat:Nat):Int):=by lia
 rw[e];exact cv (by rw[cf,D5,Ex (by lia)];simp)
structure Side(a w:Int)(A t:Nat):Prop where
 n:bo a
 A4:A<=4000000000000
 t1:t<=1000
 e:bo (a+A*w+t - 1)
def Side.of{A t:Nat}(n:bo a)(w0:0<w)(hA:(A:Int)<=(1000000000000 - a+1) / w)(h:(t<=720/\(t:Int)<=1000000000000 - a+1 - A*w/\¬ (a=-1000000000000/\A=0))\/(a=-1000000000000/\A=0/\1<=t/\t<=720)):Side a w A t:=by
 have h1:=Ef hA (show 0<=w by omega);have h2:=Int.ediv_mul_le (1000000000000 - a+1) (show w≠0 by omega);have h3:(A:Int)<=A*w:=by
  have:=GK (show 1<=w by omega) (show 0<=(A:Int) by omega);omega
 unfold bo at n;rcases h with⟨t7,ht,ne⟩|⟨e1,rfl,t0,t7⟩
 .refine⟨n,by omega,by omega,?_,by omega⟩;by_cases z:A=0
  .subst z;simp at ne ⊢;omega
  .omega
 .refine⟨n,by omega,by omega,?_,?_⟩<;>simp<;>omega
end My
end
section
namespace My
local macro_rules | `(tactic| k_memK) => `(tactic| exact⟨rfl, rfl, rfl, by decide +kernel, rfl, by decide +kernel, by decide +kernel⟩)
local macro_rules | `(tactic| k_places) => `(tactic| try simp only[En, Eo, My.aX])
open PySem PySem.Spec PyProof.Rows L2
def top(i:Nat):Stmt:=PySem.Challenge.pw_motiffield_k45_whole_least_again.main.body.getD i (.Pass ⟨0,0,0,0⟩)
abbrev ke:Pb:=top 56
abbrev kg:List Str:=["_law_script","_law_k"]
def Bs:FnScope ["_law_script","_law_k"] kg (ah ke):=by k_memK
abbrev kh:Pb:=top 59
abbrev ki:List Str:=["_law_script","_law_k","_law_many"]
def sc__law_draws:FnScope ["_law_script","_law_k","_law_many","_law_left","_law_drawn","_law_turn","_law_seed"] ki (ah kh):=by k_memK
abbrev kj:Pb:=top 61
abbrev km:List Str:=["_law_draws_here"]
def sc__law_lines:FnScope ["_law_draws_here","_law_wide","_law_tall","_law_signs","_law_lines_here","_law_j","_law_line","_law_i","_law_place","_law_value"] km (ah kj):=by k_memK
abbrev ko:Pb:=top 60
abbrev kq:List Str:=["_law_lines_here","_law_one","_law_two"]
def sc__law_motif_text:FnScope ["_law_lines_here","_law_one","_law_two","_law_tail"] kq (ah ko):=by k_memK
abbrev gI:Pb:=top 62
abbrev kr:List Str:=["_law_part","_law_draw"]
def sc__law_wrapped:FnScope ["_law_part","_law_draw","_law_across","_law_down","_law_old","_law_new","_law_shift","_law_head","_law_ways","_law_by","_law_leaves","_law_leaf","_law_a","_law_b","_law_c","_law_d","_law_e","_law_f","_law_way","_law_hues"] kr (ah gI):=by k_memK
abbrev ku:Pb:=top 70
abbrev kx:List Str:=["_law_script","_law_k"]
def sc__law_own_motif:FnScope ["_law_script","_law_k","_law_draws_here","_law_lines_here","_law_one","_law_two","_law_leaf","_law_part"] kx (ah ku):=by k_memK
abbrev ky:Pb:=top 67
abbrev kz:List Str:=["_law_lines_here","_law_three","_law_x","_law_y"]
def sc__law_keeps:FnScope ["_law_lines_here","_law_three","_law_x","_law_y","_law_j","_law_other","_law_begin"] kz (ah ky):=by k_memK
abbrev kA:Pb:=top 68
abbrev kB:List Str:=["_law_lines_here","_law_three"]
def sc__law_least:FnScope ["_law_lines_here","_law_three","_law_wide","_law_high","_law_lean"] kB (ah kA):=by k_memK
abbrev kC:Pb:=top 63
abbrev kD:List Str:=["_law_one","_law_two","_law_u","_law_v"]
def sc__law_on:FnScope ["_law_one","_law_two","_law_u","_law_v","_law_size"] kD (ah kC):=by k_memK
abbrev kE:Pb:=top 64
abbrev kF:List Str:=["_law_leaf","_law_x","_law_y"]
def sc__law_leaf_shows:FnScope ["_law_leaf","_law_x","_law_y","_law_way","_law_u","_law_v","_law_j","_law_i"] kF (ah kE):=by k_memK
abbrev kG:Pb:=top 65
abbrev kH:List Str:=["_law_leaves","_law_x","_law_y"]
def sc__law_shows:FnScope ["_law_leaves","_law_x","_law_y","_law_leaf","_law_hue"] kH (ah kG):=by k_memK
abbrev gJ:Pb:=top 66
abbrev kI:List Str:=["_law_leaves","_law_three"]
def sc__law_table:FnScope ["_law_leaves","_law_three","_law_lines_here","_law_y"] kI (ah gJ):=by k_memK
abbrev kJ:Pb:=bf (top 2) 0
abbrev kK:List Str:=["self","place"]
def Bt:FnScope ["self","place"] kK (ah kJ):=by k_memK
abbrev kL:Pb:=bf (top 44) 1
abbrev kM:List Str:=["self","allowed"]
def Bu:FnScope ["self","allowed"] kM (ah kL):=by k_memK
abbrev kN:Pb:=bf (top 44) 2
abbrev kO:List Str:=["self","allowed"]
def sc_Reading_take:FnScope ["self","allowed","sign"] kO (ah kN):=by k_memK
abbrev kP:Pb:=top 47
abbrev kQ:List Str:=["reading","least","most"]
def sc_line_from:FnScope ["reading","least","most","line","column"] kQ (ah kP):=by k_memK
abbrev kR:Pb:=top 48
abbrev kS:List Str:=["reading"]
def sc_lines_from:FnScope ["reading","lines","width"] kS (ah kR):=by k_memK
abbrev kT:Pb:=top 45
abbrev kU:List Str:=["reading"]
def sc_number_from:FnScope ["reading","written"] kU (ah kT):=by k_memK
abbrev kW:Pb:=top 46
abbrev kX:List Str:=["reading"]
def sc_shift_from:FnScope ["reading","x"] kX (ah kW):=by k_memK
abbrev kY:Pb:=top 7
abbrev kZ:List Str:=["first","second"]
def sc_levelled:FnScope ["first","second","times","rest"] kZ (ah kY):=by k_memK
abbrev lf:Pb:=top 9
abbrev ll:List Str:=["first","second"]
def sc_spread:FnScope ["first","second","pair","width"] ll (ah lf):=by k_memK
abbrev lm:Pb:=top 10
abbrev lp:List Str:=["family","x","y"]
def sc_home:FnScope ["family","x","y","width","height","slant"] lp (ah lm):=by k_memK
abbrev lr:Pb:=top 16
abbrev lu:List Str:=["lines","family"]
def sc_hues_by_home:FnScope ["lines","family","hues","row","line","column","sign"] lu (ah lr):=by k_memK
abbrev lv:Pb:=bf (top 17) 0
abbrev ly:List Str:=["self","place","lines","first","second"]
def Bv:FnScope ["self","place","lines","first","second"] ly (ah lv):=by k_memK
abbrev lz:Pb:=top 49
abbrev lC:List Str:=["reading"]
def sc_motif_from:FnScope ["reading","place","lines","first","second"] lC (ah lz):=by k_memK
abbrev lD:Pb:=bf (top 20) 0
abbrev lF:List Str:=["self","form"]
def Bw:FnScope ["self","form"] lF (ah lD):=by k_memK
abbrev lG:Pb:=bf (top 21) 0
abbrev lH:List Str:=["self","form"]
def By:FnScope ["self","form"] lH (ah lG):=by k_memK
abbrev lJ:Pb:=bf (top 18) 0
abbrev lK:List Str:=["self","above","below"]
def Bz:FnScope ["self","above","below"] lK (ah lJ):=by k_memK
abbrev lL:Pb:=bf (top 19) 0
abbrev lM:List Str:=["self","form","x","y"]
def BA:FnScope ["self","form","x","y"] lM (ah lL):=by k_memK
abbrev lN:Pb:=bf (top 22) 0
abbrev lP:List Str:=["self","form","old","new"]
def BB:FnScope ["self","form","old","new"] lP (ah lN):=by k_memK
abbrev gK:Pb:=top 50
abbrev fB:List Str:=["reading","around"]
def sc_over_from:FnScope ["reading","around","above","below"] fB (ah gK):=by k_memK
abbrev gL:Pb:=top 51
abbrev fC:List Str:=["reading","around"]
def sc_shifted_from:FnScope ["reading","around","shift"] fC (ah gL):=by k_memK
abbrev gM:Pb:=top 52
abbrev fD:List Str:=["reading","around"]
def sc_rehue_from:FnScope ["reading","around","old","new"] fD (ah gM):=by k_memK
abbrev gN:Pb:=top 53
abbrev cI:List Str:=["reading","around"]
def sc_form_from:FnScope ["reading","around","sign"] cI (ah gN):=by k_memK
abbrev lQ:Pb:=bf (top 44) 0
abbrev lR:List Str:=["self","text"]
def BC:FnScope ["self","text"] lR (ah lQ):=by k_memK
abbrev lU:Pb:=bf (top 43) 0
abbrev lV:List Str:=["self","text","shifts","form"]
def BD:FnScope ["self","text","shifts","form"] lV (ah lU):=by k_memK
abbrev lW:Pb:=bf (top 3) 0
abbrev lY:List Str:=["self","place"]
def BE:FnScope ["self","place"] lY (ah lW):=by k_memK
abbrev lZ:Pb:=top 8
abbrev ma:List Str:=["one","two"]
def sc_measure:FnScope ["one","two","last"] ma (ah lZ):=by k_memK
abbrev me:Pb:=top 11
abbrev mf:List Str:=["one","two"]
def sc_met:FnScope ["one","two","common","width","rise","start","gap","climbs","steps"] mf (ah me):=by k_memK
abbrev mh:Pb:=top 12
abbrev mi:List Str:=["family"]
def BF:FnScope ["family"] mi (ah mh):=by k_memK
abbrev mj:Pb:=top 13
abbrev mn:List Str:=["family"]
def BG:FnScope ["family"] mn (ah mj):=by k_memK
abbrev gO:Pb:=bf (top 17) 1
abbrev cA:List Str:=["self"]
def BH:FnScope ["self"] cA (ah gO):=by k_memK
abbrev gP:Pb:=bf (top 18) 1
abbrev gQ:List Str:=["self"]
def sc_Over_family:FnScope ["self","first"] gQ (ah gP):=by k_memK
abbrev gR:Pb:=bf (top 19) 1
abbrev gS:List Str:=["self"]
def BI:FnScope ["self"] gS (ah gR):=by k_memK
abbrev gT:Pb:=bf (top 20) 1
abbrev gU:List Str:=["self"]
def BJ:FnScope ["self"] gU (ah gT):=by k_memK
abbrev gW:Pb:=bf (top 21) 1
abbrev gX:List Str:=["self"]
def BK:FnScope ["self"] gX (ah gW):=by k_memK
abbrev gY:Pb:=bf (top 22) 1
abbrev gZ:List Str:=["self"]
def BL:FnScope ["self"] gZ (ah gY):=by k_memK
abbrev mo:Pb:=top 54
abbrev mq:List Str:=["text"]
def sc_read:FnScope ["text","reading","form","family"] mq (ah mo):=by k_memK
abbrev mv:Pb:=top 57
abbrev mw:List Str:=["_law_found"]
def BM:FnScope ["_law_found"] mw (ah mv):=by k_memK
abbrev mx:Pb:=top 58
abbrev mz:List Str:=["_law_found","_law_due"]
def sc__law_numbers:FnScope ["_law_found","_law_due","_law_k"] mz (ah mx):=by k_memK
abbrev mB:Pb:=top 72
abbrev mC:List Str:=["_law_found","_law_three","_law_lines_here"]
def sc__law_is_form:FnScope ["_law_found","_law_three","_law_lines_here","_law_y"] mC (ah mB):=by k_memK
abbrev mD:Pb:=top 27
abbrev mF:List Str:=["x","y"]
def BN:FnScope ["x","y"] mF (ah mD):=by k_memK
abbrev hU:Pb:=bf (top 17) 2
abbrev cB:List Str:=["self","x","y"]
def BO:FnScope ["self","x","y"] cB (ah hU):=by k_memK
abbrev hV:Pb:=bf (top 18) 2
abbrev hZ:List Str:=["self","x","y"]
def sc_Over_shows:FnScope ["self","x","y","hue"] hZ (ah hV):=by k_memK
abbrev ia:Pb:=bf (top 19) 2
abbrev ib:List Str:=["self","x","y"]
def BP:FnScope ["self","x","y"] ib (ah ia):=by k_memK
abbrev ic:Pb:=bf (top 20) 2
abbrev ie:List Str:=["self","x","y"]
def BQ:FnScope ["self","x","y"] ie (ah ic):=by k_memK
abbrev ig:Pb:=bf (top 21) 2
abbrev ii:List Str:=["self","x","y"]
def BR:FnScope ["self","x","y"] ii (ah ig):=by k_memK
abbrev ij:Pb:=bf (top 22) 2
abbrev ik:List Str:=["self","x","y"]
def sc_Rehue_shows:FnScope ["self","x","y","hue"] ik (ah ij):=by k_memK
abbrev mG:Pb:=top 28
abbrev mH:List Str:=["pattern","x","y"]
def BS:FnScope ["pattern","x","y"] mH (ah mG):=by k_memK
abbrev il:Pb:=top 29
abbrev mI:List Str:=["pattern","x","y","many"]
def BT:FnScope ["pattern","x","y","many"] mI (ah il):=by k_memK
abbrev im:Pb:=top 30
abbrev mJ:List Str:=["pattern"]
def BU:FnScope ["pattern"] mJ (ah im):=by k_memK
abbrev io:Pb:=top 33
abbrev mK:List Str:=["number"]
def BV:FnScope ["number"] mK (ah io):=by k_memK
abbrev mL:Pb:=top 31
abbrev mM:List Str:=["family","rows","x","y"]
def sc_round_row:FnScope ["family","rows","x","y","cell","row"] mM (ah mL):=by k_memK
abbrev mN:Pb:=top 34
abbrev mO:List Str:=["family","rows","x","y"]
def sc_changes_nothing:FnScope ["family","rows","x","y","step","row"] mO (ah mN):=by k_memK
abbrev ir:Pb:=top 35
abbrev mQ:List Str:=["family","rows"]
def BW:FnScope ["family","rows"] mQ (ah ir):=by k_memK
abbrev mR:Pb:=top 36
abbrev mU:List Str:=["family","rows","width","height"]
def sc_slant_at:FnScope ["family","rows","width","height","slant"] mU (ah mR):=by k_memK
abbrev iu:Pb:=top 37
abbrev mV:List Str:=["pattern"]
def sc_least_shifts:FnScope ["pattern","family","rows","width","height"] mV (ah iu):=by k_memK
abbrev iv:Pb:=top 38
abbrev mW:List Str:=["pattern"]
def sc_least_form:FnScope ["pattern","family","rows"] mW (ah iv):=by k_memK
abbrev iy:Pb:=top 71
abbrev mY:List Str:=["_law_three","_law_lines_here"]
def sc__law_again:FnScope ["_law_three","_law_lines_here","_law_text","_law_j","_law_i","_law_block","_law_own"] mY (ah iy):=by k_memK
abbrev mZ:Pb:=top 40
abbrev ng:List Str:=["one","two"]
def BX:FnScope ["one","two"] ng (ah mZ):=by k_memK
abbrev nh:Pb:=top 69
abbrev nj:List Str:=["_law_value"]
def BY:FnScope ["_law_value"] nj (ah nh):=by k_memK
abbrev iA:Pb:=top 73
abbrev nn:List Str:=["_law_script"]
def sc_law:FnScope ["_law_script","_law_part","_law_k","_law_other","_law_three","_law_lines_here","_law_one","_law_two","_law_x","_law_y","_law_found"] nn (ah iA):=by k_memK
def iB(x:List Nat){l:List (List Nat)}(h:l≠[]):rowsL (x::l)=x++47::rowsL l:=by
 cases l with
 |nil=>exact absurd rfl h
 |cons y r=>rfl
variable{w i:Nat}
def DQ{c:Nat}(hi:i<w):∀ (L:List (List Nat)) (j:Nat) (h:j<L.length),(∀ x∈L,x.length=w)->rowsL (L.set j (L[j].set i c))=(rowsL L).set (j*(w+1)+i) c:=by
 intro L;induction L with
 |nil=>intro j h;exact absurd h (Fc j)
 |cons x L ih=>
  intro j h hw;have xw:=hw x Ea;by_cases e:L=[]
  .subst e;have:j=0:=by simp at h;lia
   subst this;simp[rowsL]
  .cases j with
   |zero=>
    show rowsL (x.set i c::L)=_;rw[iB _ e,iB _ e,Nat.zero_mul,Fg,List.set_append_left _ _ (by lia)]
   |succ j=>
    have h':j<L.length:=GH h;show rowsL (x::L.set j (L[j].set i c))=_;rw[iB _ (λz=>e (by have:=congrArg E7 z;simpa using this)),iB _ e,ih j h' (λy hy=>hw y (D4 _ hy))];rw[List.set_append_right _ _ (by rw[xw,FI];lia),xw,show(j+1)*(w+1)+i - w=(j*(w+1)+i)+1 by rw[FI];lia];rfl
structure Pat.Re(p:Pat)(A B:List Nat)(l:Leaf)(ls:List Leaf):Prop where
 leaves:p.leaves=l::ls
 no:91 ∉ A
 tl:p.tl=A++91::(rowsL (l.rows.map cs)++B)
 rows:Rows l.rows
 re:∀ L':List x9,Rows L'->∃ q:Pat,q.leaves={l with rows:=L'}::ls/\q.tl=A++91::(rowsL (L'.map cs)++B)/\q.depth=p.depth/\(∀ x y,q.Lat x y↔p.Lat x y)/\q.Wf
def sF:∀ l1 l2:List x9,eqFs (l1.map D.str) (l2.map D.str)=decide (l1=l2)
 |[],[]=>rfl
 |[],_::_=>rfl
 |_::_,[]=>rfl
 |x::l1,y::l2=>by
  rw[Eb,Eb,eqFs,sF l1 l2];show(x==y && decide (l1=l2))=decide (x::l1=y::l2);rw[E5];simp
def sG(l:List x9):(l.map D.str).all bj=true:=by
 rw[FY];exact EQ.mpr λx _=>rfl
def cu(p:Pat)(w h:Int):List Str:=(DV h.toNat).map λ(y:Nat)=>ay p 0 (y:Int) w.toNat
def sH(p:Pat)(w h s:Int):dh p w h s= .tup [.int w,.int h,.int s,.tup ((cu p w h).map D.str)]:=by
 unfold dh cu;rw[sy]
variable{p q:Pat}{h s:Int}
def BZ(Jb:p.Ok)(B_:q.Ok){w w' h' s':Int}(L:p.Least w h s)(L':q.Least w' h' s'):((eq2s [.int w,.int h,.int s,.tup ((cu p w h).map D.str)] [.int w',.int h',.int s',.tup ((cu q w' h').map D.str)]).all id=true)↔∀ x y,p.show x y=q.show x y:=by
 have e:(eq2s [D.int w,.int h,.int s,.tup ((cu p w h).map D.str)] [.int w',.int h',.int s',.tup ((cu q w' h').map D.str)]).all id=((w==w') && ((h==h') && ((s==s') && (eqFs ((cu p w h).map D.str) ((cu q w' h').map D.str) && true)))):=rfl;rw[e,sF];simp only[Ek,beq_iff_eq,decide_eq_true_eq,FF];constructor
 .rintro⟨rfl,rfl,rfl,er⟩ x y;have w0:=L.f.w0;have h0:=L.f.h0;rw[<- Pat.show_home w0 h0 (λ_ _ k=>(L.lat _ _).mp k) x y,<- Pat.show_home w0 h0 (λ_ _ k=>(L'.lat _ _).mp k) x y];have a0:=cE (a:=x - y / h*s) w0;have a1:=cF (a:=x - y / h*s) w0;have b0:=cE (a:=y) h0;have b1:=cF (a:=y) h0;have K1:hmX w h s x y<w:=a1;have K2:0<=hmX w h s x y:=a0;generalize hmX w h s x y=i at K2 K1;generalize y % h=j at b0 b1;have r1:(cu p w h)[j.toNat]?=(cu q w h)[j.toNat]?:=by rw[er]
  unfold cu at r1;rw[D5,D5,Ex (by omega),FD,FD,Option.some.injEq,Ev b0] at r1;have g1:=sE (p:=p) (w:=w) (i:=i) (j:=j) K2 K1;have g2:=sE (p:=q) (w:=w) (i:=i) (j:=j) K2 K1;rw[r1,g2] at g1;have p1:=Pat.show_le Jb.wf (by have:=Jb.deep;omega) i j;have p2:=Pat.show_le B_.wf (by have:=B_.deep;omega) i j;exact(sv p2.1 p2.2 p1.1 p1.2 (Option.some.inj g1)).symm
 .intro hs;have kk:∀ X Y,q.Keeps X Y↔p.Keeps X Y:=λX Y=>by
   unfold Pat.Keeps;simp only[hs]
  obtain⟨rfl,rfl,rfl⟩:=L.uniq ⟨L'.f,λx y=>(L'.lat x y).trans (kk x y)⟩;refine⟨rfl,rfl,rfl,?_⟩;unfold cu ay;simp only[hs]
def sI{f:Int->Bool}{U:Int}:∀ (l:List Nat) (i0:Nat),(∀ i:Nat,i0<=i->i<i0+l.length->f (i:Int)=decide ((i:Int)=U))->scanRow f i0 l=(if 0<=U - i0 then l[(U - i0).toNat]? else q_).bind λc=>if c=46 then q_ else be c:=by
 intro l;induction l with
 |nil=>intro i0 _;unfold scanRow;split<;>rfl
 |cons c l ih=>
  intro i0 h;have h0:=h i0 (DU _) (by simp);have ih:=ih (i0+1) λi h1 h2=>h i (by lia) (by simp;lia);unfold scanRow;by_cases e:(i0:Int)=U
  .rw[decide_eq_true e] at h0;rw[if_pos (show 0<=U - (i0:Int) by lia),show(U - (i0:Int)).toNat=0 by lia];by_cases k_:c=46
   .rw[if_neg (λz=>z.1 k_),ih,if_neg (by lia)];simp[k_]
   .rw[if_pos ⟨k_,h0⟩];simp[k_]
  .rw[decide_eq_false e] at h0;rw[if_neg (λz=>by rw[h0] at z;exact nomatch z.2),ih];by_cases q:0<=U - (i0:Int)
   .rw[if_pos q,if_pos (by lia),show(U - (i0:Int)).toNat=(U - ((i0+1:Nat):Int)).toNat+1 by lia];rfl
   .rw[if_neg q,if_neg (by lia)]
def B0{f:Int->Int->Bool}{U V:Int}:∀ (L:List x9) (j0:Nat),(∀ (j:Nat) (l:x9),L[j]?=be l->∀ i:Nat,i<(cs l).length->f (i:Int) ((j0+j:Nat):Int)=decide ((i:Int)=U/\((j0+j:Nat):Int)=V))->
  bw f j0 L=(if 0<=V - j0 then L[(V - j0).toNat]? else q_).bind λl=>(if 0<=U then(cs l)[U.toNat]? else q_).bind λc=>if c=46 then q_ else be c:=by
 intro L;induction L with
 |nil=>intro j0 _;unfold bw;split<;>rfl
 |cons l L ih=>
  intro j0 h;have h0:=h 0 l rfl;have ih:=ih (j0+1) λj l' hj i hi=>by
   have:=h (j+1) l' hj i hi;rw[show j0+(j+1)=j0+1+j by lia] at this;exact this
  unfold bw;by_cases e:(j0:Int)=V
  .have r:=sI (f:=λi=>f i (j0:Int)) (U:=U) (cs l) 0 λi _ hi=>by
    have:=h0 i (by lia);rw[GZ] at this;show f i (j0:Int)=_;rw[this];simp[e]
   rw[if_pos (show 0<=V - (j0:Int) by lia),show(V - (j0:Int)).toNat=0 by lia];simp only[G0,Fv] at r;rw[if_neg (show¬ 0<=V - ((j0+1:Nat):Int) by lia)] at ih;rw[r,ih];show _=G1 ((if 0<=U then(cs l)[U.toNat]? else q_)) _;generalize (if 0<=U then(cs l)[U.toNat]? else q_).bind (λc=>if c=46 then q_ else be c)=X;cases X<;>rfl
  .have r:=sI (f:=λi=>f i (j0:Int)) (U:=-1) (cs l) 0 λi _ hi=>by
    have:=h0 i (by lia);rw[GZ] at this;show f i (j0:Int)=_;rw[this,decide_eq_false (λz=>e z.2),decide_eq_false (by lia)]
   rw[r,if_neg (by lia),ih];show G1 _ _=_;by_cases q:0<=V - (j0:Int)
   .rw[if_pos q,if_pos (by lia),show(V - (j0:Int)).toNat=(V - ((j0+1:Nat):Int)).toNat+1 by lia];rfl
   .rw[if_neg q,if_neg (by lia)]
def B1{w:Int}(f:Fam0 w h s)(u v:Int):onB w 0 s h u v=true↔InF w h s u v:=by
 unfold onB;rw[decide_eq_true_eq];have w0:=f.w0;have h0:=f.h0;have hn:¬ w*h=0*s:=by
  have:=Eg w0 h0;lia
 constructor
 .intro z;obtain⟨i,j,e1,e2⟩:=rz hn z;exact⟨i,j,e1,by lia⟩
 .rintro⟨i,j,e1,e2⟩;exact qT e1 (by lia)
def B2{w u v u' v':Int}(f:Fam0 w h s)(u0:0<=u/\u<w)(v0:0<=v/\v<h)(OX:0<=u'/\u'<w)(OY:0<=v'/\v'<h)(q:InF w h s (u - u') (v - v')):u=u'/\v=v':=by
 obtain⟨i,j,e1,e2⟩:=q;have j0:=small_mul (i:=j) f.h0 (by lia) (by lia);subst j0;have i0:=small_mul (i:=i) f.w0 (by lia) (by lia);subst i0;lia
variable{x y:Int}
def InF.add{w x' y':Int}(a:InF w h s x y)(b:InF w h s x' y'):InF w h s (x+x') (y+y'):=by
 obtain⟨i,j,e1,e2⟩:=a;obtain⟨k,l,e3,e4⟩:=b;exact⟨i+k,j+l,by rw[E2,E2];lia,by rw[E2];lia⟩
def InF.mul{w:Int}(a:InF w h s x y)(n:Int):InF w h s (n*x) (n*y):=by
 obtain⟨i,j,e1,e2⟩:=a;exact⟨n*i,n*j,by rw[e1,Int.mul_add,Gf,Gf],by rw[e2,Gf]⟩
def InF.sub{w x' y':Int}(a:InF w h s x y)(b:InF w h s x' y'):InF w h s (x - x') (y - y'):=by
 have:=a.add (b.mul (-1));rw[show x+-1*x'=x - x' by lia,show y+-1*y'=y - y' by lia] at this;exact this
def bW(p:Pat)(w h i j:Nat):List Str:=(DV (min 8 (h - j))).map λ(y:Nat)=>ay p (i:Int) ((j+y:Nat):Int) (min 8 (w - i))
def blk(p:Pat)(w h s i j:Nat):Pat:= .mot (bW p w h i j) w 0 s h
def blkS(p:Pat)(w h s i j:Nat):Pat:=if 0<i+j then .sh i j (blk p w h s i j) else blk p w h s i j
def B3{n:Int}(h0:0<=n)(h6:n<=6):(if bu n=46 then q_ else be (bu n))=if n=0 then q_ else be (48+n).toNat:=by
 unfold bu;by_cases e:n=0
 .rw[if_pos e,if_pos rfl,if_pos e]
 .rw[if_neg e,if_neg e,if_neg (by lia)]
variable{j:Nat}
def B4{h s:Nat}(K:p.Kfam w h s)(wf:p.Wf)(dp:p.depth<=40)(hi:i<w)(hj:j<h)(x y:Int):
  (blk p w h s i j).show (x - i) (y - j)=if((i:Int)<=hmX w h s x y/\hmX w h s x y<i+8)/\((j:Int)<=y % h/\y % h<j+8) then p.show x y else 0:=by
 have f:=K.f;have hh:=jZ (s:=(s:Int)) f.w0 f.h0 x y;have sh:=Pat.show_home (p:=p) (s:=(s:Int)) f.w0 f.h0 (λ_ _ q=>K.keeps q) x y;have u0:0<=hmX w h s x y/\hmX w h s x y<w:=⟨Es _ (by lia),Em _ f.w0⟩;have v0:0<=y % (h:Int)/\y % (h:Int)<h:=⟨Es _ (by lia),Em _ f.h0⟩;generalize hmX (w:Int) h s x y=u at*;generalize y % (h:Int)=v at*;have b6:=Pat.show_le wf dp u v;have rl:(bW p w h i j).length=min 8 (h - j):=by unfold bW;rw[DZ,Eu]
 have Mx:∀ k:Nat,k<min 8 (h - j)->(bW p w h i j)[k]?=be (ay p (i:Int) ((j+k:Nat):Int) (min 8 (w - i))):=λk hk=>by
  unfold bW;rw[D5,Ex hk];rfl
 have sc:=B0 (f:=λi' j'=>onB w 0 s h (1*(x - i)+0*(y - j)+0 - i') (0*(x - i)+1*(y - j)+0 - j')) (U:=u - i) (V:=v - j) (bW p w h i j) 0 λk l hk c hc=>by
  have N7:k<min 8 (h - j):=by rw[<- rl];exact(Ec.mp hk).1
  rw[Mx k N7] at hk;cases hk;rw[cf,DZ,Eu] at hc;rw[Fg];apply E5.mpr;rw[decide_eq_true_eq];show onB w 0 s h _ _=true↔_;rw[B1 f];constructor
  .intro q;have q2:=q.sub hh;have:=B2 (u:=u) (v:=v) (u':=i+c) (v':=j+k) f u0 v0 (by lia) (by lia) (by
    have e1:1*(x - (i:Int))+0*(y - (j:Int))+0 - (c:Int) - (x - u)=u - (i+c):=by lia
    have e2:0*(x - (i:Int))+1*(y - (j:Int))+0 - (k:Int) - (y - v)=v - (j+k):=by lia
    rw[e1,e2] at q2;exact q2)
   lia
  .rintro⟨e1,e2⟩;have e3:1*(x - (i:Int))+0*(y - (j:Int))+0 - (c:Int)=x - u:=by lia
   have e4:0*(x - (i:Int))+1*(y - (j:Int))+0 - (k:Int)=y - v:=by lia
   rw[e3,e4];exact hh
 show Leaf.shows (cb (bW p w h i j) w 0 s h) _ _=_;unfold Leaf.shows Leaf.hit;simp only[cb];simp only[G0,Fv] at sc;rw[sc];by_cases hv:0<=v - (j:Int)/\v - j<8
 .rw[if_pos hv.1,Mx (v - j).toNat (by lia)];rw[Fk,show((j+(v - j).toNat:Nat):Int)=v by lia,cf];by_cases hu:0<=u - (i:Int)/\u - i<8
  .rw[if_pos hu.1,D5,Ex (by lia),if_pos (by lia)];rw[FD,Fk,show(i:Int)+((u - (i:Int)).toNat:Nat)=u by lia,B3 b6.1 b6.2,<- sh];by_cases e:p.show u v=0
   .rw[if_pos e,e]
   .rw[if_neg e];show cell [0,1,2,3,4,5,6] (((48+p.show u v).toNat:Int) - 48)=_;rw[show((48+p.show u v).toNat:Int) - 48=p.show u v by lia];rcases(by lia:p.show u v=1\/p.show u v=2\/p.show u v=3\/p.show u v=4\/p.show u v=5\/p.show u v=6) with e|e|e|e|e|e<;>rw[e]<;>rfl
  .rw[if_neg (show¬ (((i:Int)<=u/\u<i+8)/\((j:Int)<=v/\v<j+8)) by lia)];by_cases q:0<=u - (i:Int)
   .rw[if_pos q,EC (by rw[DZ,Eu];lia)];rfl
   .rw[if_neg q];rfl
 .rw[if_neg (show¬ (((i:Int)<=u/\u<i+8)/\((j:Int)<=v/\v<j+8)) by lia)];by_cases q:0<=v - (j:Int)
  .rw[if_pos q,EC (by rw[rl];lia)];rfl
  .rw[if_neg q];rfl
def Cov(p:Pat)(w h s:Int)(S:Int->Int->Prop)(q:Pat):Prop:=∀ x y,(S (hmX w h s x y) (y % h)->q.show x y=p.show x y)/\(¬ S (hmX w h s x y) (y % h)->q.show x y=0)
variable{S T:Int->Int->Prop}
def Cov.over{a b:Pat}{w:Int}(ha:Cov p w h s S a)(hb:Cov p w h s T b):Cov p w h s (λu v=>S u v\/T u v) (.over a b):=by
 intro x y;have a1:=ha x y;have b1:=hb x y;show(_->(if a.show x y≠0 then a.show x y else b.show x y)=_)/\(_->(if a.show x y≠0 then a.show x y else b.show x y)=_);by_cases hS:S (hmX w h s x y) (y % h)<;>by_cases hT:T (hmX w h s x y) (y % h)
 .rw[a1.1 hS,b1.1 hT];exact⟨λ_=>by split<;>rfl,λz=>absurd (.inl hS) z⟩
 .rw[a1.1 hS,b1.2 hT];exact⟨λ_=>by split<;>simp_all,λz=>absurd (.inl hS) z⟩
 .rw[a1.2 hS,b1.1 hT];exact⟨λ_=>by simp,λz=>absurd (.inr hT) z⟩
 .rw[a1.2 hS,b1.2 hT];exact⟨λz=>absurd z (λz=>z.elim hS hT),λ_=>by simp⟩
def B5{h s:Nat}(K:p.Kfam w h s)(wf:p.Wf)(dp:p.depth<=40)(hi:i<w)(hj:j<h):Cov p w h s (λu v=>((i:Int)<=u/\u<i+8)/\((j:Int)<=v/\v<j+8)) (blkS p w h s i j):=by
 intro x y;have b:=B4 K wf dp hi hj x y;have e:(blkS p w h s i j).show x y=(blk p w h s i j).show (x - i) (y - j):=by
  unfold blkS;split
  .rfl
  .rw[show i=0 by lia,show j=0 by lia];simp
 rw[e,b];exact⟨λz=>if_pos z,λz=>if_neg z⟩
def B6{h s:Nat}(K:p.Kfam w h s)(wf:p.Wf)(dp:p.depth<=40)(hw:w<=12)(hh:h<=12)(hi:i<w)(hj:j<h):(blkS p w h s i j).Wf/\(blkS p w h s i j).depth<=1/\(blk p w h s i j).Wf/\(blkS p w h s i j).Fam w h s:=by
 have f:=K.f;have s0:=f.s0;have sw:=f.sw;have rows:Rows (bW p w h i j):=by
  refine Rows.of (t:=min 8 (h - j)) (w:=min 8 (w - i)) (by lia) (by lia) (by unfold bW;simp) (by lia) (by lia) λl hl=>?_;unfold bW at hl;obtain⟨k,_,rfl⟩:=El.mp hl;refine⟨fw ..,λc hc=>?_⟩;rw[cf] at hc;obtain⟨m,_,rfl⟩:=El.mp hc;have b6:=Pat.show_le wf dp ((i:Int)+(m:Int)) ((j+k:Nat):Int);unfold aI bu;split<;>lia
 have JR:(blk p w h s i j).Wf:=⟨rows,by unfold B12;lia,by unfold B12;lia,by unfold B12;lia,by unfold B12;lia,by have:=Eg f.w0 f.h0;lia⟩;have Jc:(blk p w h s i j).Fam w h s:=⟨f,λx y=>⟨λ⟨a,b,e1,e2⟩=>⟨a,b,e1,by lia⟩,λ⟨a,b,e1,e2⟩=>⟨a,b,e1,by lia⟩⟩⟩;unfold blkS;split
 .exact⟨⟨by unfold B12;lia,by unfold B12;lia,JR⟩,by simp[Pat.depth,blk],JR,Jc.sh _ _⟩
 .exact⟨JR,by simp[Pat.depth,blk],JR,Jc⟩
def P12(p:Pat):Prop:=p.Lat 12 0/\p.Lat (-12) 0/\p.Lat 0 12/\p.Lat 0 (-12)
def sJ(k:Int):∃ n a:Int,atI [D.int 1,D.int 2,D.int 3,D.int 4,D.int 6,D.int 12] (k % 6)=be (.int a)/\1<=a/\a<=12/\n*a=12:=by
 rcases(by lia:k % 6=0\/k % 6=1\/k % 6=2\/k % 6=3\/k % 6=4\/k % 6=5) with e|e|e|e|e|e<;>rw[e]
 .exact⟨12,1,rfl,by decide,by decide,by decide⟩
 .exact⟨6,2,rfl,by decide,by decide,by decide⟩
 .exact⟨4,3,rfl,by decide,by decide,by decide⟩
 .exact⟨3,4,rfl,by decide,by decide,by decide⟩
 .exact⟨2,6,rfl,by decide,by decide,by decide⟩
 .exact⟨1,12,rfl,by decide,by decide,by decide⟩
def B7{L:List x9}{a b m n:Int}(ha:m*a=12)(hb:n*b=12):P12 (.mot L a 0 0 b):=
 ⟨⟨m,0,by lia,by lia⟩,⟨-m,0,by rw[ER];lia,by lia⟩,⟨0,n,by lia,by lia⟩,⟨0,-n,by lia,by rw[ER];lia⟩⟩
def B8(h:P12 p):P12 (.mir p):=⟨h.2.1,h.1,h.2.2.1,h.2.2.2⟩
def B9(h:P12 p):P12 (.tur p):=⟨h.2.2.2,h.2.2.1,h.1,h.2.1⟩
def Ca(h:P12 p)(k:P12 q):P12 (.over p q):=⟨⟨h.1,k.1⟩,⟨h.2.1,k.2.1⟩,⟨h.2.2.1,k.2.2.1⟩,⟨h.2.2.2,k.2.2.2⟩⟩
def Cb(h:P12 p):p.Kfam 12 12 0:=⟨⟨by decide,by decide,by decide,by decide⟩,λq=>q.keeps (Pat.lat_keeps h.1) (Pat.lat_keeps h.2.2.1)⟩
def Cc(wf:p.Wf)(h:P12 p):p.Fits:=by
 obtain⟨w,k,s,F⟩:=Pat.fam_ex wf;refine⟨w,k,s,F,?_⟩;have l:=(InF.le F.f.w0 F.f.h0 (w':=12) (h':=12) (s':=0) (by decide) (by decide) (λx y q=>by
  obtain⟨i,j,e1,e2⟩:=q;have a:=((F.lat 12 0).mpr h.1).mul i;have b:=((F.lat 0 12).mpr h.2.2.1).mul j;have c:=a.add b;rw[show i*12+j*0=x by lia,show i*0+j*12=y by lia] at c;exact c)).1
 lia
variable{n:Nat}
def sK{α:Type}(f:Nat->α)(hj:j<=n):(((DV n).map f).drop j).take (min (j+8) n - j)=(DV (min 8 (n - j))).map λk=>f (j+k):=by
 apply List.ext_getElem
 .simp;lia
 .intro i h1 h2;simp
def sIx_at{d:Nat}(h:i<=n):HT.sIx n d (be (i:Int))=i:=by
 show(if(i:Int)<0 then((i:Int)+n).toNat else min ((i:Int)).toNat n)=i;rw[if_neg (by lia)];lia
def sL{d:Nat}:HT.sIx n d (be ((i:Int)+8))=min (i+8) n:=by
 show(if(i:Int)+8<0 then((i:Int)+8+n).toNat else min ((i:Int)+8).toNat n)=_;rw[if_neg (by lia)];lia
def sM{J:Nat}{v:D}(h:((DV n).map λk=>D.int (0+((k:Nat):Int)*8))[J]?=be v):J<n/\v= .int ((8*J:Nat):Int):=by
 have hJ:J<n:=by simpa using(Ec.mp h).1
 rw[D5,Ex hJ] at h;refine⟨hJ,(Option.some.inj h).symm.trans ?_⟩;show D.int _=D.int _;congr 1;lia
def Cd(p:Pat){h:Nat}(hj:j<=h):cutD ((DV ((h:Int)).toNat).map λ(y:Nat)=>D.str (ay p 0 (y:Int) ((w:Int)).toNat)) (be (j:Int)) (be ((j:Int)+8))=(DV (min 8 (h - j))).map λ(y:Nat)=>D.str (ay p 0 ((j+y:Nat):Int) w):=by
 unfold cutD;rw[FR,FR,DZ,Eu,sIx_at hj,sL,sK _ hj]
def Ce(p:Pat)(y:Int)(hi:i<=w):Txt.slice (ay p 0 y w) (be (i:Int)) (be ((i:Int)+8))=ay p i y (min 8 (w - i)):=by
 rw[slice_cps,fw,sIx_at hi,sL];apply eF;rw[cf,fA];show(((cs (ay p 0 y w)).drop i).take _)=_;rw[cf,sK _ hi];apply FE;intro k _;congr 2;lia
def up8(h1:1<=w)(h2:w<=12):∃ n:Nat,upOk 0 (w:Int) 8 n/\1<=n/\n<=2/\8*n<w+8/\w<=8*n:=by
 rcases(by lia:w=1\/w=2\/w=3\/w=4\/w=5\/w=6\/w=7\/w=8\/w=9\/w=10\/w=11\/w=12) with e|e|e|e|e|e|e|e|e|e|e|e<;>subst e
 all_goals first|exact⟨1,⟨by decide,by decide+kernel,by decide+kernel,by decide+kernel⟩,by decide,by decide,by decide,by decide⟩|exact⟨2,⟨by decide,by decide+kernel,by decide+kernel,by decide+kernel⟩,by decide,by decide,by decide,by decide⟩
def Cov.congr{w:Int}(w0:0<w)(h0:0<h)(e:∀ u v,0<=u->u<w->0<=v->v<h->(S u v↔T u v))(c:Cov p w h s S q):Cov p w h s T q:=λx y=>by
 have:=e (hmX w h s x y) (y % h) (Es _ (by lia)) (Em _ w0) (Es _ (by lia)) (Em _ h0);have c:=c x y;rw[this] at c;exact c
def Ag(p:Pat)(w h s:Nat)(n:Nat)(S:Int->Int->Prop)(t:x9):Prop:=
 (n=0/\t=""/\∀ u v,0<=u->0<=v->¬ S u v)\/(1<=n/\∃ q:Pat,t=q.text/\q.Wf/\q.depth<=n/\q.Fam w h s/\Cov p w h s S q)
def Ag.congr{h s:Nat}{t:x9}(w0:0<w)(h0:0<h)(e:∀ u v:Int,0<=u->u<w->0<=v->v<h->(S u v↔T u v))(n0:1<=n)(a:Ag p w h s n S t):Ag p w h s n T t:=by
 rcases a with⟨rfl,_⟩|⟨n1,q,e1,e2,e3,e4,e5⟩
 .exact absurd n0 (by decide)
 .exact .inr ⟨n1,q,e1,e2,e3,e4,e5.congr (by lia) (by lia) e⟩
def AgS(J I:Nat)(u v:Int):Prop:=v<8*J\/(v<8*J+8/\u<8*I)
def Cf:q.text≠"":=λz=>by
 have:=cN q;rw[z] at this;obtain⟨l,e⟩:=q.tl_head;rw[e] at this;exact nomatch this
def PD(p:Pat)(n:Int):My.D:= .lst [.str p.text,.int n,.lst (p.leaves.map Leaf.D)]
def Cg(e:∀ x y,q.show x y=p.show x y)(w h s:Int):dh q w h s=dh p w h s:=by
 have r:∀ x y n,ay q x y n=ay p x y n:=λx y n=>by
  unfold ay;simp only[e]
 unfold dh;simp only[r]
section
variable {V:Bx}
abbrev iC(V:Bx):Prop:=V.D 1 "_law_at" kg zx
def Ch(T:V.T "_law_at" ke kg)(uB:V.m "len"):iC V:=by
 refine Tx.okDW T Bs (λds R h=>?_) (λf cdv A outer s H E J hr=>⟨_,((ai (bn (fb (aa 1) (cj uB (ac (aa 0) ae))) (aq (aA (af (aa 0) (aa 1)))) aV)
   (aq (aA ad)))),λds R h=>?_⟩)
 .obtain⟨ns,k,rfl,_⟩:=h;rfl
 .obtain⟨ns,k,rfl,hk,hR⟩:=h;refine ite2 (λc=>?_) (λc=>?_)
  .have c':=of_decide_eq_true c;rw[DZ] at c';exact⟨_,qX hk c',hR⟩
  .have c':=of_decide_eq_false (Fh.mpr c);rw[DZ] at c';rw[zw (by lia)] at hR;exact hR
abbrev nq(V:Bx):Prop:=V.D 2 "_law_draws" ki zH
def Ci(T:V.T "_law_draws" kh ki)(uA:V.m "range")(uW:iC V):nq V:=by
 refine Tx.okDW T sc__law_draws (λds R h=>?_) (λf cdv A outer s H E J hr=>⟨_,((ai (am 3 sc__law_draws.nd (ax uW hr (ac (aa 0) (ac (aa 1) ae))))
   (ai (fY 4 sc__law_draws.nd ae)
   (ai (bn (bH (aG (ax uW hr (ac (aa 0) (ac (ao (aa 1) ad) ae))) ad) ad) (ai (bY 5 PassesOwn.never rfl sc__law_draws.nd uA (aa 2) (ai (fj 4 (aG (aa 3) ad))
     (aq (am 3 sc__law_draws.nd (bv (aa 3) ad)))))
    (fg 4 (aq (aA (aa 4))))) aV)
   (ai (am 6 sc__law_draws.nd (aG (ao (aa 3) ad) ad))
   (ai (bY 5 PassesOwn.never rfl sc__law_draws.nd uA (aa 2) (ai (am 6 sc__law_draws.nd (aG (ao (ao (aE (aa 6) ad) (ax uW hr (ac (aa 0) (ac (ao (ao (aa 1) ad) (aG (aa 5) ad)) ae)))) (aa 5)) ad))
    (aq (fj 4 (aG (aG (aE (aa 6) ad) ad) ad)))))
   (fg 4 (aq (aA (aa 4)))))))))),λds R h=>?_⟩)
 .obtain⟨_,_,_,rfl,_⟩:=h;rfl
 .obtain⟨ns,k,n,rfl,hk,hn,hR⟩:=h;refine⟨λd=>∃ v:Int,d= .int v,⟨ns,k,rfl,hk,_,rfl⟩,?_⟩;rintro _ ⟨left,rfl⟩;k_places;refine⟨by simp,?_⟩;refine⟨ns,k+1,rfl,by lia,by decide,ite2 (λ_=>?_) (λ_=>?_)⟩
  .refine⟨⟨by lia,by lia⟩,λi z=>∃ (xs:List Int) (l:Int) (o p:Option D),z=[be (.rol (ns.map D.int)),be (.int k),be (.int n),be (.int l),be (.own (xs.map D.int)),o,p]/\xs.length=i/\Drawn xs,⟨[],left,_,_,rfl,rfl,(λx hx=>by cases hx)⟩,?_,?_⟩
   .rintro i x z hi ⟨xs,l,o,p,rfl,hl,hd⟩;k_places;have td:i<n:=by simpa using(Ec.mp hi).1
    refine⟨by decide,by simp;lia,?_⟩;refine⟨λd=>∃ v:Int,d= .int v,⟨⟨by decide,by decide⟩,_,rfl⟩,?_⟩;rintro _ ⟨l',rfl⟩;k_places;rw[qY];exact⟨_,l',_,_,rfl,by simp[hl],qZ hd (cE (by decide)) (cF (by decide))⟩
   .rintro z ⟨xs,l,o,p,rfl,hl,hd⟩;k_places;exact hR xs (by simpa using hl) hd
  .refine⟨λd=>∃ v:Int,d= .int v/\0<=v/\v<2147483647,⟨by decide,_,rfl,cE (by decide),cF (by decide)⟩,?_⟩;rintro _ ⟨K3,rfl,s1,s2⟩;k_places;refine⟨⟨by lia,by lia⟩,λi z=>∃ (xs:List Int) (sd:Int) (o:Option D),z=[be (.rol (ns.map D.int)),be (.int k),be (.int n),be (.int left),be (.own (xs.map D.int)),o,be (.int sd)]/\xs.length=i/\Drawn xs/\0<=sd/\sd<2147483647,⟨[],K3,_,rfl,rfl,(λx hx=>by cases hx),s1,s2⟩,?_,?_⟩
   .rintro i x z hi ⟨xs,sd,o,rfl,hl,hd,s1,s2⟩;k_places;have td:i<n:=by simpa using(Ec.mp hi).1
    have ex:x= .int (i:Int):=by simp[td] at hi;exact hi.symm
    subst ex;refine⟨λd=>∃ v:Int,d= .int v/\0<=v/\v<2147483647,⟨.inr ⟨by decide,by decide⟩,by decide,ns,_,rfl,by lia,by decide,_,rfl,cE (by decide),cF (by decide)⟩,?_⟩;rintro _ ⟨N8,rfl,t1,t2⟩;k_places;refine⟨.inr ⟨by decide,by decide⟩,by decide,by decide,by simp;lia,?_⟩;rw[qY];exact⟨_,N8,_,rfl,by simp[hl],qZ hd (cE (by decide)) (cF (by decide)),t1,t2⟩
   .rintro z ⟨xs,sd,o,rfl,hl,hd,_⟩;k_places;exact hR xs (by simpa using hl) hd
abbrev nt(V:Bx):Prop:=V.D 1 "_law_lines" km zR
def Cj(T:V.T "_law_lines" kj km)(uA:V.m "range")(uB:V.m "len"):nt V:=by
 refine Tx.okDW T sc__law_lines (λds R h=>?_) (λf cdv A outer s H E J hr=>⟨_,((ai (am 1 sc__law_lines.nd (ao ad (aG (af (aa 0) ad) ad)))
   (ai (am 2 sc__law_lines.nd (ao ad (aG (af (aa 0) ad) ad)))
   (ai (dA (bH (aG (af (aa 0) ad) ad) ad) (ai (am 1 sc__law_lines.nd (ao ad (aG (af (aa 0) ad) ad)))
    (aq (am 2 sc__law_lines.nd (ao ad (aG (af (aa 0) ad) ad))))) aV)
   (ai (am 3 sc__law_lines.nd (af (bR (ac aw (ac aw (ac aw (ac aw ae))))) (aG (af (aa 0) ad) ad)))
   (ai (fY 4 sc__law_lines.nd ae)
   (ai (bY 5 PassesOwn.never rfl sc__law_lines.nd uA (aa 2) (ai (am 6 sc__law_lines.nd aw)
    (ai (bY 7 PassesOwn.never rfl sc__law_lines.nd uA (aa 1) (ai (am 8 sc__law_lines.nd (ao (aE (aa 5) (aa 1)) (aa 7)))
     (ai (am 9 sc__law_lines.nd (aG (bv (af (aa 0) (ao ad (bv (aa 8) ad))) (af (bR (ac ad (ac ad ae))) (aG (aa 8) ad))) ad))
     (aq (am 6 sc__law_lines.nd (ao (aa 6) (af (aa 3) (aG (aa 9) (cj uB (ac (aa 3) ae))))))))))
    (aq (fj 4 (aa 6))))))
   (fg 4 (aq (aA (aa 4))))))))))),λds R h=>?_⟩)
 .obtain⟨_,rfl,_⟩:=h;rfl
 .obtain⟨xs,rfl,hl,hd,hR⟩:=h;have u9:∀ k:Nat,k<40->atI (xs.map D.int) (k:Int)=be (.int (cell xs k)):=λk hk=>et (by lia) (by simpa using(by lia:k<xs.length));have a0:atI (xs.map D.int) 0=be (.int (cell xs 0)):=u9 0 (by decide);have a1:atI (xs.map D.int) 1=be (.int (cell xs 1)):=u9 1 (by decide);have a2:atI (xs.map D.int) 2=be (.int (cell xs 2)):=u9 2 (by decide);have a3:atI (xs.map D.int) 3=be (.int (cell xs 3)):=u9 3 (by decide);clear hl;refine⟨λd=>∃ v:Int,d= .int v/\1<=v/\v<=8,⟨_,a0,by decide,_,rfl,by lia⟩,?_⟩;rintro _ ⟨w0,rfl,N9⟩;k_places;refine⟨λd=>∃ v:Int,d= .int v/\1<=v/\v<=8,⟨_,a1,by decide,_,rfl,by lia⟩,?_⟩;rintro _ ⟨t0,rfl,OZ⟩;k_places;refine⟨λz=>∃ w t:Nat,z=[be (.lst (xs.map D.int)),be (.int w),be (.int t),q_,q_,q_,q_,q_,q_,q_]/\(1<=w/\w<=8)/\(1<=t/\t<=8),⟨_,a2,by decide,ite2 (λ_=>?_) (λ_=>?_)⟩,?_⟩
  .refine⟨λd=>∃ v:Nat,d= .int v/\1<=v/\v<=8,⟨_,a0,by decide,(1+cell xs 0 % 8).toNat,by rw[Ev (by lia)],by lia⟩,?_⟩;rintro _ ⟨w,rfl,hw⟩;k_places;refine⟨λd=>∃ v:Nat,d= .int v/\1<=v/\v<=8,⟨_,a1,by decide,(1+cell xs 1 % 8).toNat,by rw[Ev (by lia)],by lia⟩,?_⟩;rintro _ ⟨t,rfl,ht⟩;k_places;exact⟨w,t,rfl,hw,ht⟩
  .obtain⟨w,rfl⟩:∃ w:Nat,w0=(w:Int):=⟨w0.toNat,by lia⟩;obtain⟨t,rfl⟩:∃ t:Nat,t0=(t:Int):=⟨t0.toNat,by lia⟩;exact⟨w,t,rfl,by lia,by lia⟩
  rintro _ ⟨w,t,rfl,hw,ht⟩;k_places;obtain⟨sg,es,hs⟩:=zN (cell xs 3);refine⟨λd=>d= .str sg,⟨by simp,_,a3,by decide,_,es,rfl⟩,?_⟩;rintro _ rfl;k_places;refine⟨by simp,?_⟩;refine⟨⟨by lia,by lia⟩,λk z=>∃ (L:List x9) (o1 o2 o3 o4 o5:Option D),z=[be (.lst (xs.map D.int)),be (.int w),be (.int t),be (.str sg),be (.own (L.map D.str)),o1,o2,o3,o4,o5]/\L.length=k/\∀ l∈L,l.length=w/\∀ c∈cs l,aI c,⟨[],_,_,_,_,_,rfl,rfl,(λx hx=>by cases hx)⟩,?_,?_⟩
  .rintro j x z hj ⟨L,o1,o2,o3,o4,o5,rfl,hL,n8⟩;k_places;have HU:j<t:=by simpa using(Ec.mp hj).1
   have ex:x= .int (j:Int):=by simp[HU] at hj;exact hj.symm
   subst ex;refine⟨λd=>d= .str "",rfl,?_⟩;rintro _ rfl;k_places;refine⟨⟨by lia,by lia⟩,λi z=>∃ (ln:x9) (o3 o4 o5:Option D),z=[be (.lst (xs.map D.int)),be (.int w),be (.int t),be (.str sg),be (.own (L.map D.str)),be (.int j),be (.str ln),o3,o4,o5]/\ln.length=i/\∀ c∈cs ln,aI c,⟨_,_,_,_,rfl,rfl,(λc hc=>by rw[ra] at hc;cases hc)⟩,?_,?_⟩
   .rintro i y z hi ⟨ln,o3,o4,o5,rfl,JS,K4⟩;k_places;have td:i<w:=by simpa using(Ec.mp hi).1
    have ey:y= .int (i:Int):=by simp[td] at hi;exact hi.symm
    subst ey;have pb:=ca (a:=(j:Int)) (d:=(w:Int)) (A:=7) (B:=8) (by lia) (by lia);have pn:0<=(j:Int)*(w:Int):=Int.mul_nonneg (by lia) (by lia);refine⟨λd=>∃ p:Nat,d= .int p/\p<=63,⟨.inl ⟨by lia,by lia⟩,((j:Int)*w+i).toNat,by rw[Ev (by lia)],by lia⟩,?_⟩;rintro _ ⟨p,rfl,hp⟩;k_places;obtain⟨m,em,hm⟩:=zO (p:Int);have ap:=u9 (8+p / 2) (by lia);have ec:((8+p / 2:Nat):Int)=8+(p:Int) / 2:=by lia
    rw[ec] at ap;refine⟨λd=>∃ v:Int,d= .int v,⟨⟨by decide,by decide⟩,_,ap,by simp,by decide,_,em,⟨by lia,by lia⟩,by decide,_,rfl⟩,?_⟩;rintro _ ⟨v,rfl⟩;k_places;obtain⟨c,⟨h1,h2⟩,h3⟩:=zI hs v;refine⟨λd=>∃ x:x9,d= .str x/\x.length=i+1/\∀ c∈cs x,aI c,⟨h1,by have:=hs.1;lia,c,⟨h1,h2⟩,?_,_,rfl,zP JS K4 h3⟩,?_⟩
    .rw[JS];show i+1<=1000000;lia
    rintro _ ⟨x,rfl,g1,g2⟩;k_places;exact⟨x,_,_,_,rfl,g1,g2⟩
   .rintro z ⟨ln,o3,o4,o5,rfl,JS,K4⟩;k_places;have K5:ln.length=w:=by simpa using JS
    refine⟨by simp[hL];lia,?_⟩;rw[zQ];refine⟨_,_,_,_,_,_,rfl,by simp[hL],λl hl=>?_⟩;rcases Et.mp hl with q|q
    .exact n8 l q
    .rw[DY.mp q];exact⟨K5,K4⟩
  .rintro z ⟨L,o1,o2,o3,o4,o5,rfl,hL,n8⟩;k_places;exact hR L (Rows.of ht.1 ht.2 (by simpa using hL) hw.1 hw.2 n8)
abbrev iD(V:Bx):Prop:=V.D 1 "_law_motif_text" kq zS
def Ck(T:V.T "_law_motif_text" ko kq)(uK:V.m "str"):iD V:=by
 refine Tx.okDW T sc__law_motif_text (λds R h=>?_) (λf cdv A outer s H E J hr=>⟨_,((ai (am 3 sc__law_motif_text.nd (ao (ao (ao (ao (ao (ao (ao aw (cD uK (ac (af (aa 1) ad) ae))) aw) (cD uK (ac (af (aa 1) ad) ae))) aw) (cD uK (ac (af (aa 2) ad) ae))) aw) (cD uK (ac (af (aa 2) ad) ae))))
   (aq (aA (ao (ao (ao aw (jw (aa 0))) (aa 3)) aw))))),λds R h=>?_⟩)
 .obtain⟨_,_,_,_,_,rfl,_⟩:=h;rfl
 .obtain⟨L,a,b,c,d,rfl,hL,ha,hb,hc,hd,hR⟩:=h;have la:=br ha;have lb:=br hb;have lc:=br hc;have ld:=br hd;have l1:(";":x9).length=1:=rfl;have l2:(",":x9).length=1:=rfl;have l3:("[":x9).length=1:=rfl;have l4:("]":x9).length=1:=rfl;have ls:=rb hL;have lj:=StrLaws.join_length_le "/" L;unfold B12 at ha hb hc hd;refine⟨λx=>x= .str ((((((((";":x9)++(toString a:String))++",")++(toString b:String))++";")++(toString c:String))++",")++(toString d:String)),⟨_,rfl,by lia,?_,?_,_,rfl,by lia,?_,?_,_,rfl,by lia,?_,?_,_,rfl,by lia,?_,rfl⟩,?_⟩
  .lia
  .rw[av];lia
  .rw[av,av];lia
  .rw[av,av,av];lia
  .rw[av,av,av,av];lia
  .rw[av,av,av,av,av];lia
  .rw[av,av,av,av,av,av];lia
  rintro _ rfl;k_places;have lg:(Txt.join "/" L).length<=72:=by
   have e:Txt.join "/" L=Str.join "/" L:=StrLaws.glued_eq_join _ _;rw[e];exact D9 lj ls
  refine⟨L,gC L,by lia,?_,?_,?_,hR⟩
  .lia
  .repeat rw[av]
   lia
  .repeat rw[av]
   lia
abbrev nu(V:Bx):Prop:=V.D 1 "_law_wrapped" kr Ae
def Cl(T:V.T "_law_wrapped" gI kr)(uK:V.m "str")(K6:V.m "list")(uL:V.m "int"):nu V:=by
 refine Tx.okDW T sc__law_wrapped (λds R h=>?_) (λf cdv A outer s H E J hr=>⟨_,((ai (bn (wK (af (aa 0) ad) ad) (aq (aA (aa 0))) aV)
   (ai (am 2 sc__law_wrapped.nd (bA (aG (bv (aa 1) ad) ad) ad))
   (ai (am 3 sc__law_wrapped.nd (bA (aG (bv (aa 1) ad) ad) ad))
   (ai (am 4 sc__law_wrapped.nd (ao ad (aG (bv (aa 1) ad) ad)))
   (ai (am 5 sc__law_wrapped.nd (ao ad (aG (bv (aa 1) ad) ad)))
   (ai (am 6 sc__law_wrapped.nd (ao (ao (ao (ao aw (cD uK (ac (aa 2) ae))) aw) (cD uK (ac (aa 3) ae))) aw))
   (ai (am 7 sc__law_wrapped.nd (af (bR (ac aw (ac aw (ac (aa 6) (ac (ao (ao aw (cD uK (ac (aa 4) ae))) (cD uK (ac (aa 5) ae))) ae))))) (aG (aa 1) ad)))
   (ai (am 8 sc__law_wrapped.nd (bR (ac (aR (ac (cw ad) (ac ad (ac ad (ac ad (ac ad (ac ad ae))))))) (ac (aR (ac ad (ac ad (ac (cw ad) (ac ad (ac ad (ac ad ae))))))) ae))))
   (ai (am 8 sc__law_wrapped.nd (ao (aa 8) (bR (ac (aR (ac ad (ac ad (ac ad (ac ad (ac (cw (aa 2)) (ac (cw (aa 3)) ae))))))) (ac (aR (ac ad (ac ad (ac ad (ac ad (ac ad (ac ad ae))))))) ae)))))
   (ai (am 9 sc__law_wrapped.nd (af (aa 8) (aG (aa 1) ad)))
   (ai (fY 10 sc__law_wrapped.nd ae)
   (ai (pR 11 PassesOwn.never rfl sc__law_wrapped.nd (af (aa 0) ad) (ai (wX rfl (af (aa 11) ad) (dg_cons 12 sc__law_wrapped.nd (dg_cons 13 sc__law_wrapped.nd (dg_cons 14 sc__law_wrapped.nd (dg_cons 15 sc__law_wrapped.nd (dg_cons 16 sc__law_wrapped.nd (dg_cons 17 sc__law_wrapped.nd fZ)))))))
    (ai (am 18 sc__law_wrapped.nd (aR (ac (ao (aE (aa 12) (af (aa 9) ad)) (aE (aa 13) (af (aa 9) ad))) (ac (ao (aE (aa 12) (af (aa 9) ad)) (aE (aa 13) (af (aa 9) ad))) ae))))
    (ai (am 18 sc__law_wrapped.nd (ao (aa 18) (aR (ac (ao (aE (aa 14) (af (aa 9) ad)) (aE (aa 15) (af (aa 9) ad))) (ac (ao (aE (aa 14) (af (aa 9) ad)) (aE (aa 15) (af (aa 9) ad))) ae)))))
    (ai (am 16 sc__law_wrapped.nd (ao (ao (aa 16) (aE (aa 12) (af (aa 9) ad))) (aE (aa 13) (af (aa 9) ad))))
    (ai (am 17 sc__law_wrapped.nd (ao (ao (aa 17) (aE (aa 14) (af (aa 9) ad))) (aE (aa 15) (af (aa 9) ad))))
    (ai (am 19 sc__law_wrapped.nd (xc K6 (ac (af (aa 11) ad) ae)))
    (ai (dA (bH (aG (aa 1) ad) ad) (aq (qd 19 rfl (compScope (by change cx _ (ah gI) ["_law_part","_law_draw","_law_across","_law_down","_law_old","_law_new","_law_shift","_law_head","_law_ways","_law_by","_law_leaves","_law_leaf","_law_a","_law_b","_law_c","_law_d","_law_e","_law_f","_law_way","_law_hues"] _=true;decide+kernel)) sc__law_wrapped.nd (af (aa 11) ad) (λcl s0 H0 fp=>(af (bR (ac (aa 20) (ac (aa 5) ae))) (jv uL (ac (jp (aa 20) (aa 4)) ae)))))) aV)
    (aq (fj 10 (aR (ac (af (aa 11) ad) (ac (af (aa 11) ad) (ac (af (aa 11) ad) (ac (ao (aa 18) (aR (ac (aa 16) (ac (aa 17) ae)))) (ac (aa 19) ae))))))))))))))))
   (fg 10 (aq (aA (bR (ac (ao (aa 7) (af (aa 0) ad)) (ac (ao (af (aa 0) ad) ad) (ac (aa 10) ae)))))))))))))))))))),λds R h=>?_⟩)
 .obtain⟨_,_,rfl,_⟩:=h;rfl
 .obtain⟨p,draw,rfl,wf,hd,ht,hW⟩:=h;refine⟨_,rfl,ite2 (λc=>?_) (λc=>?_)⟩
  .have c':=of_decide_eq_true c;exact hW.1 (by lia)
  have c':=of_decide_eq_false (Fh.mpr c);have j8:p.depth<5:=by lia
  refine⟨λd=>∃ v:Int,d= .int v/\B12 v,⟨⟨by decide,by decide⟩,by decide,_,rfl,by unfold B12;lia⟩,?_⟩;rintro _ ⟨A,rfl,hA⟩;simp only[En,Eo,aX];refine⟨λd=>∃ v:Int,d= .int v/\B12 v,⟨⟨by decide,by decide⟩,by decide,_,rfl,by unfold B12;lia⟩,?_⟩;rintro _ ⟨B,rfl,hB⟩;simp only[En,Eo,aX];refine⟨λd=>∃ v:Int,d= .int v/\1<=v/\v<=6,⟨⟨by decide,by decide⟩,by decide,_,rfl,by lia⟩,?_⟩;rintro _ ⟨d5,rfl,ho⟩;simp only[En,Eo,aX];refine⟨λd=>∃ v:Int,d= .int v/\1<=v/\v<=6,⟨⟨by decide,by decide⟩,by decide,_,rfl,by lia⟩,?_⟩;rintro _ ⟨new,rfl,hn⟩;simp only[En,Eo,aX];have l1:("s":x9).length=1:=rfl;have l2:(",":x9).length=1:=rfl;have l3:(":":x9).length=1:=rfl;have l4:("h":x9).length=1:=rfl;have lA:=br hA;have lB:=br hB;have lo:=cZ ho;have ln:=cZ hn;obtain⟨hs,b0,b1,b2,b3,b4,b5,e1,e2,hb,hl,hR⟩:=Ac hW j8 (k:=0) hA hB ho hn (by lia);unfold B12 at hA hB;refine⟨λx=>x= .str ((((("s":x9)++(toString A:String))++",")++(toString B:String))++":"),⟨by lia,?_,?_,by lia,?_,?_,rfl⟩,?_⟩
  .lia
  .rw[av];lia
  .rw[av,av];lia
  .rw[av,av,av];lia
  rintro _ rfl;simp only[En,Eo,aX];refine⟨λx=>x= .str hs,⟨by lia,?_,by lia,?_,by simp,by decide,_,e1,rfl⟩,?_⟩
  .lia
  .rw[av];lia
  rintro _ rfl;simp only[En,Eo,aX];refine⟨λx=>x= .lst [D.tup [.int (-1),.int 0,.int 0,.int 1,.int 0,.int 0],D.tup [.int 0,.int 1,.int (-1),.int 0,.int 0,.int 0]],⟨by simp,by simp,by simp,rfl⟩,?_⟩;rintro _ rfl;simp only[En,Eo,aX];refine⟨λx=>x= .lst ([D.tup [.int (-1),.int 0,.int 0,.int 1,.int 0,.int 0],D.tup [.int 0,.int 1,.int (-1),.int 0,.int 0,.int 0]]++[D.tup [.int 1,.int 0,.int 0,.int 1,.int (-A),.int (-B)],D.tup [.int 1,.int 0,.int 0,.int 1,.int 0,.int 0]]),⟨by simp,by simp,by simp,by simp,rfl⟩,?_⟩;rintro _ rfl;simp only[En,Eo,aX];refine⟨λx=>x= .tup [.int b0,.int b1,.int b2,.int b3,.int b4,.int b5],⟨by decide,_,e2,rfl⟩,?_⟩;rintro _ rfl;simp only[En,Eo,aX];refine⟨by simp,?_⟩;generalize D.str ((((("s":x9)++(toString A:String))++",")++(toString B:String))++":")=sD;generalize D.lst ([D.tup [.int (-1),.int 0,.int 0,.int 1,.int 0,.int 0],D.tup [.int 0,.int 1,.int (-1),.int 0,.int 0,.int 0]]++[D.tup [.int 1,.int 0,.int 0,.int 1,.int (-A),.int (-B)],D.tup [.int 1,.int 0,.int 0,.int 1,.int 0,.int 0]])=wD;clear e1 e2 hW lA lB lo ln l1 l2 l3 l4 hA hB c';refine⟨_,rfl,λk z=>∃ K7 K8 K9 K' K_ La Lb Ld HV:Option D,z=[be p.D,be (.int draw),be (.int A),be (.int B),be (.int d5),be (.int new),be sD,be (.str hs),be wD,be (.tup [.int b0,.int b1,.int b2,.int b3,.int b4,.int b5]),be (.own (((p.leaves.take k).map (Leaf.T (decide (draw % 4=3)) d5 new b0 b1 b2 b3 b4 b5)).map Leaf.D)),K7,K8,K9,K',K_,La,Lb,Ld,HV],⟨_,_,_,_,_,_,_,_,_,rfl⟩,?_,?_⟩
  .rintro k v z hk ⟨K7,K8,K9,K',K_,La,Lb,Ld,HV,rfl⟩;k_places;rw[D5] at hk;have s9:k<p.leaves.length:=by
    rcases Fq k p.leaves.length with q|q
    .exact q
    .rw[EC q] at hk;cases hk
   have Le:p.leaves[k]?=be p.leaves[k]:=Ei s9;rw[Le] at hk;cases hk;obtain⟨gd,nr⟩:=Pat.leaf_good wf p.leaves[k] (EJ s9);have a_:(p.leaves.take k).length<=1000:=by rw[FA];have:=Pat.leaves_32 hd;lia
   generalize p.leaves[k]=l at Le gd nr;obtain⟨r0,r1,r2,r3⟩:=nr.unit;obtain⟨q0,q1,q2,q3,q4,q5⟩:=hb;refine⟨_,rfl,rfl,?_⟩;simp only[En,Eo,aX];refine⟨λx=>x= .tup [.int (l.w0*b0+l.w1*b2),.int (l.w0*b1+l.w1*b3)],⟨_,rfl,.inr (n64 q0),_,rfl,.inr (n64 q2),_,rfl,.inr (n64 q1),_,rfl,.inr (n64 q3),by simp,rfl⟩,?_⟩;rintro _ rfl;simp only[En,Eo,aX];refine⟨λx=>x= .tup [.int (l.w0*b0+l.w1*b2),.int (l.w0*b1+l.w1*b3),.int (l.w2*b0+l.w3*b2),.int (l.w2*b1+l.w3*b3)],⟨_,rfl,.inr (n64 q0),_,rfl,.inr (n64 q2),_,rfl,.inr (n64 q1),_,rfl,.inr (n64 q3),by simp,by simp,rfl⟩,?_⟩;rintro _ rfl;simp only[En,Eo,aX];refine⟨λx=>x= .int (l.w4+l.w0*b4+l.w1*b5),⟨_,rfl,.inr (n64 q4),_,rfl,.inr (n64 q5),rfl⟩,?_⟩;rintro _ rfl;simp only[En,Eo,aX];refine⟨λx=>x= .int (l.w5+l.w2*b4+l.w3*b5),⟨_,rfl,.inr (n64 q4),_,rfl,.inr (n64 q5),rfl⟩,?_⟩;rintro _ rfl;simp only[En,Eo,aX];refine⟨λx=>x= .lst (l.hues.map D.int),⟨_,rfl,rfl⟩,?_⟩;rintro _ rfl;simp only[En,Eo,aX];refine⟨λz=>∃ HV:List Int,HV=(Leaf.T (decide (draw % 4=3)) d5 new b0 b1 b2 b3 b4 b5 l).hues/\z=[be p.D,be (.int draw),be (.int A),be (.int B),be (.int d5),be (.int new),be sD,be (.str hs),be wD,be (.tup [.int b0,.int b1,.int b2,.int b3,.int b4,.int b5]),be (.own (((p.leaves.take k).map (Leaf.T (decide (draw % 4=3)) d5 new b0 b1 b2 b3 b4 b5)).map Leaf.D)),be l.D,be (.int l.w0),be (.int l.w1),be (.int l.w2),be (.int l.w3),be (.int (l.w4+l.w0*b4+l.w1*b5)),be (.int (l.w5+l.w2*b4+l.w3*b5)),be (.tup [.int (l.w0*b0+l.w1*b2),.int (l.w0*b1+l.w1*b3),.int (l.w2*b0+l.w3*b2),.int (l.w2*b1+l.w3*b3)]),be (.lst (HV.map D.int))],⟨by decide,ite2 (λc=>?_) (λc=>?_)⟩,?_⟩
   .have c3:=of_decide_eq_true c;refine⟨λx=>x= .lst ((l.hues.map (bD d5 new)).map D.int),⟨_,rfl,by rw[DZ,gd.many];decide,λk ys=>ys=((l.hues.take k).map (bD d5 new)).map D.int,rfl,?_,?_⟩,?_⟩
    .rintro k' x ys hx hl rfl;rw[D5] at hx;cases e:l.hues[k']? with
     |none=>rw[e] at hx;cases hx
     |some hu=>
      rw[e] at hx;cases hx;refine⟨by simp,_,Ad hu d5 new,?_⟩;dsimp only;rw[rq e];simp
    .rintro ys hl rfl;rw[DZ,G2]
    .rintro _ rfl;k_places;exact⟨_,by simp[Leaf.T,c3,Leaf.dye,Leaf.by],rfl⟩
   .have c3:=of_decide_eq_false (Fh.mpr c);exact⟨_,by simp[Leaf.T,c3,Leaf.by],rfl⟩
   rintro _ ⟨hu,N_,rfl⟩;k_places;refine⟨_,rfl,_,rfl,_,rfl,by simp,by simp,by simp,by rw[DZ,DZ];lia,?_⟩;have eT:(D.tup [.lst (l.rows.map D.str),.tup [.int l.a,.int l.b],.tup [.int l.c,.int l.d],.tup ([.int (l.w0*b0+l.w1*b2),.int (l.w0*b1+l.w1*b3),.int (l.w2*b0+l.w3*b2),.int (l.w2*b1+l.w3*b3)]++[.int (l.w4+l.w0*b4+l.w1*b5),.int (l.w5+l.w2*b4+l.w3*b5)]),.lst (hu.map D.int)])=(Leaf.T (decide (draw % 4=3)) d5 new b0 b1 b2 b3 b4 b5 l).D:=by
    rw[N_];by_cases c3:draw % 4=3
    .simp[Leaf.T,c3,Leaf.D,Leaf.dye,Leaf.by]
    .simp[Leaf.T,c3,Leaf.D,Leaf.by]
   have e9:((p.leaves.take (k+1)).map (Leaf.T (decide (draw % 4=3)) d5 new b0 b1 b2 b3 b4 b5)).map Leaf.D=((p.leaves.take k).map (Leaf.T (decide (draw % 4=3)) d5 new b0 b1 b2 b3 b4 b5)).map Leaf.D++[(Leaf.T (decide (draw % 4=3)) d5 new b0 b1 b2 b3 b4 b5 l).D]:=by
    rw[rq Le,Ew,Ew,Eb,Eb,EO,EO]
   rw[e9,<- eT];exact⟨_,_,_,_,_,_,_,_,_,rfl⟩
  .rintro z ⟨K7,K8,K9,K',K_,La,Lb,Ld,HV,rfl⟩;k_places;rw[DZ,G2];refine⟨_,rfl,by lia,_,rfl,by simp,hR⟩
def Cm:SpD:=λds R=>∃ (ns:List Int) (k:Int),ds=[.rol (ns.map D.int),.int k]/\0<=k/\∀ p:Pat,p.Wf->p.depth<=1->P12 p->R p.D
abbrev nv(V:Bx):Prop:=V.D 3 "_law_own_motif" kx Cm
def Cn(T:V.T "_law_own_motif" ku kx)(Lf:nq V)(Lg:nt V)(HW:iD V)(Lh:nu V):nv V:=by
 refine Tx.okDW T sc__law_own_motif (λds R h=>?_) (λf cdv A outer s H E J hr=>⟨_,((ai (am 2 sc__law_own_motif.nd (ax Lf hr (ac (aa 0) (ac (aa 1) (ac ad ae)))))
   (ai (am 3 sc__law_own_motif.nd (ax Lg hr (ac (aa 2) ae)))
   (ai (am 4 sc__law_own_motif.nd (aR (ac (af (bR (ac ad (ac ad (ac ad (ac ad (ac ad (ac ad ae))))))) (aG (af (aa 2) ad) ad)) (ac ad ae))))
   (ai (am 5 sc__law_own_motif.nd (aR (ac ad (ac (af (bR (ac ad (ac ad (ac ad (ac ad (ac ad (ac ad ae))))))) (aG (af (aa 2) ad) ad)) ae))))
   (ai (am 6 sc__law_own_motif.nd (aR (ac (aa 3) (ac (aa 4) (ac (aa 5) (ac (aR (ac ad (ac ad (ac ad (ac ad (ac ad (ac ad ae))))))) (ac (bR (ac ad (ac ad (ac ad (ac ad (ac ad (ac ad (ac ad ae)))))))) ae)))))))
   (ai (am 7 sc__law_own_motif.nd (bR (ac (ax HW hr (ac (aa 3) (ac (aa 4) (ac (aa 5) ae)))) (ac ad (ac (bR (ac (aa 6) ae)) ae)))))
   (ai (dA (bH (aG (af (aa 2) ad) ad) ad) (aq (am 7 sc__law_own_motif.nd (ax Lh hr (ac (aa 7) (ac (aG (af (aa 2) ad) ad) ae))))) aV)
   (aq (aA (aa 7))))))))))),λds R h=>?_⟩)
 .obtain⟨_,_,rfl,_⟩:=h;rfl
 .obtain⟨ns,k,rfl,k0,hR⟩:=h;refine⟨λx=>∃ xs:List Int,x= .lst (xs.map D.int)/\xs.length=40/\Drawn xs,⟨ns,k,40,rfl,k0,by decide,λxs h1 h2=>⟨xs,rfl,h1,h2⟩⟩,?_⟩;rintro _ ⟨xs,rfl,xl,xd⟩;k_places;have a4:=et (xs:=xs) (k:=4) (by decide) (show 4<xs.length by lia);have a5:=et (xs:=xs) (k:=5) (by decide) (show 5<xs.length by lia);have a6:=et (xs:=xs) (k:=6) (by decide) (show 6<xs.length by lia);have a7:=et (xs:=xs) (k:=7) (by decide) (show 7<xs.length by lia);refine⟨λx=>∃ L:List x9,x= .lst (L.map D.str)/\Rows L,⟨xs,rfl,by lia,xd,λL hL=>⟨L,rfl,hL⟩⟩,?_⟩;rintro _ ⟨L,rfl,rows⟩;k_places;obtain⟨m,a,e1,a1,a2,hm⟩:=sJ (cell xs 4);obtain⟨n,b,e2,b1,b2,hn⟩:=sJ (cell xs 5);refine⟨λx=>x= .tup [.int a,.int 0],⟨by show(6:Nat)<=1000;decide,_,a4,by decide,_,e1,by show(2:Nat)<=1000;decide,rfl⟩,?_⟩;rintro _ rfl;k_places;refine⟨λx=>x= .tup [.int 0,.int b],⟨by show(6:Nat)<=1000;decide,_,a5,by decide,_,e2,by show(2:Nat)<=1000;decide,rfl⟩,?_⟩;rintro _ rfl;k_places;refine⟨λx=>x=(cb L a 0 0 b).D,⟨by show(6:Nat)<=1000;decide,by show(7:Nat)<=1000;decide,by show(5:Nat)<=1000;decide,rfl⟩,?_⟩;rintro _ rfl;k_places;have ha:B12 a:=by unfold B12;lia
  have hb:B12 b:=by unfold B12;lia
  have h0:B12 0:=by unfold B12;lia
  have wf:(Pat.mot L a 0 0 b).Wf:=⟨rows,ha,h0,h0,hb,by have:=Eg (show 0<a by lia) (show 0<b by lia);lia⟩;have pm:P12 (.mot L a 0 0 b):=B7 hm hn;refine⟨λx=>x=(Pat.mot L a 0 0 b).D,⟨L,a,0,0,b,rfl,rows,ha,h0,h0,hb,by show(1:Nat)<=1000;decide,by show(3:Nat)<=1000;decide,rfl⟩,?_⟩;rintro _ rfl;k_places;refine⟨λz=>∃ p:Pat,z=[be (.rol (ns.map D.int)),be (.int k),be (.lst (xs.map D.int)),be (.lst (L.map D.str)),be (.tup [.int a,.int 0]),be (.tup [.int 0,.int b]),be (cb L a 0 0 b).D,be p.D]/\p.Wf/\p.depth<=1/\P12 p,⟨_,a6,by decide,ite2 (λ_=>?_) λ_=>⟨_,rfl,wf,by simp[Pat.depth],pm⟩⟩,?_⟩
  .have tl:=Pat.text_short wf (by simp[Pat.depth]);refine⟨λx=>∃ p:Pat,x=p.D/\p.Wf/\p.depth<=1/\P12 p,⟨_,a7,by decide,_,_,rfl,wf,by simp[Pat.depth],by lia,?_⟩,?_⟩
   .refine⟨λz=>by simp[Pat.depth] at z,λ_=>⟨⟨_,rfl,wf,by simp[Pat.depth],B8 pm⟩,⟨_,rfl,wf,by simp[Pat.depth],B9 pm⟩,λc d hc hd=>⟨_,rfl,⟨hc,hd,wf⟩,by simp[Pat.depth],pm⟩,λ_ f g hf hg=>⟨_,rfl,⟨hf,hg,wf⟩,by simp[Pat.depth],pm⟩⟩⟩
   rintro _ ⟨p,rfl,h1,h2,h3⟩;k_places;exact⟨p,rfl,h1,h2,h3⟩
  rintro _ ⟨p,rfl,h1,h2,h3⟩;k_places;exact hR p h1 h2 h3
abbrev nw(V:Bx):Prop:=V.D 1 "_law_keeps" kz Bp
def Co(T:V.T "_law_keeps" ky kz)(uA:V.m "range"):nw V:=by
 refine Tx.okDW T sc__law_keeps (λds R h=>?_) (λf cdv A outer s H E J hr=>⟨_,((ai (bY 4 PassesOwn.never rfl sc__law_keeps.nd uA (af (aa 1) ad) (ai (am 5 sc__law_keeps.nd (af (aa 0) (aG (ao (aa 4) (aa 3)) (af (aa 1) ad))))
    (ai (am 6 sc__law_keeps.nd (aG (bA (aa 2) (aE (bv (ao (aa 4) (aa 3)) (af (aa 1) ad)) (af (aa 1) ad))) (af (aa 1) ad)))
    (aq (bn (bX (ao (dD (aa 5) (cL (aa 6)) fo) (dD (aa 5) fo (cL (aa 6)))) (af (aa 0) (aa 4))) (aq (aA bx)) aV)))))
   (aq (aA bx)))),λds R h=>?_⟩)
 .obtain⟨_,_,_,_,_,_,rfl,_⟩:=h;rfl
 .obtain⟨p,w,h,s,x,y,rfl,ok,F,w7,h7,hR⟩:=h;have f:=F.f;have u_:∀ k:Int,0<=k->k<h->atI ((DV h.toNat).map λ(y:Nat)=>D.str (ay p 0 (y:Int) w.toNat)) k=be (.str (ay p 0 k w.toNat)):=λk a b=>by
   have e:k=((k.toNat:Nat):Int):=by lia
   rw[e];exact cv (by rw[D5,Ex (by lia)];simp)
  refine⟨_,rfl,⟨by have:=f.h0;lia,by lia⟩,λk z=>∃ o1 o2 o3,z=[be (bc p w h),be (.tup [.int w,.int h,.int s]),be (.int x),be (.int y),o1,o2,o3]/\∀ j:Nat,j<k->ay p x (y+j) w.toNat=ay p 0 j w.toNat,⟨_,_,_,rfl,λj hj=>absurd hj (Fc j)⟩,?_,?_⟩
  .rintro k v z hk ⟨o1,o2,o3,rfl,hj⟩;k_places;obtain⟨n9,rfl⟩:=bT hk;have m0:=Es (y+(k:Int)) (show h≠0 by have:=f.h0;lia);have m1:=Em (y+(k:Int)) f.h0;refine⟨λd=>d= .str (ay p 0 ((y+k) % h) w.toNat),⟨_,rfl,f.h0,_,by rw[FQ];exact u_ _ m0 m1,rfl⟩,?_⟩;rintro _ rfl;k_places;refine⟨λd=>d= .int (hmX w h s x (y+k)),⟨_,rfl,⟨f.h0,by lia⟩,_,rfl,.inr ⟨by have:=f.s0;lia,by have:=f.sw;lia⟩,_,rfl,f.w0,by rw[FQ (k:Int) y];rfl⟩,?_⟩;rintro _ rfl;k_places;have l:=fw p 0 ((y+k) % h) w.toNat;have e:=su f.w0 f.h0 (λ_ _ q=>F.keeps q) x (y+k);refine⟨by lia,by lia,?_,?_⟩
   .rw[<- bL,<- bL,<- D7,<- bC,e,cf];simp;lia
   rw[e];refine⟨_,u_ k (by lia) (by lia),ite2 (λc=>?_) (λc=>?_)⟩
   .refine hR false ?_;have c':¬ ay p x (y+k) w.toNat=ay p 0 k w.toNat:=λz=>by simp[z] at c
    rw[<- gH ok F];exact⟨(λz=>nomatch z),λz=>absurd (z k (by lia)) c'⟩
   .have c':ay p x (y+k) w.toNat=ay p 0 k w.toNat:=by simpa using c
    refine⟨_,_,_,rfl,λj Oa=>?_⟩;by_cases e:j=k
    .subst e;exact c'
    .exact hj j (by lia)
  .rintro z ⟨o1,o2,o3,rfl,hj⟩;k_places;rw[bM] at hj;exact hR true ⟨λ_=>(gH ok F x y).mp hj,λ_=>rfl⟩
abbrev ny(V:Bx):Prop:=V.D 2 "_law_least" kB Bq
def Cp(T:V.T "_law_least" kA kB)(JT:nw V):ny V:=by
  refine Tx.okDW T sc__law_least (λds R h=>?_) (λf cdv A outer s H E J hr=>⟨_,((ai (am 2 sc__law_least.nd ad)
      (ai (ju PassesOwn.never (ck (bB (ax JT hr (ac (aa 0) (ac (aa 1) (ac (aa 2) (ac ad ae))))))) (aq (am 2 sc__law_least.nd (ao (aa 2) ad))))
      (ai (am 3 sc__law_least.nd ad)
      (ai (am 4 sc__law_least.nd ad)
      (ai (ju PassesOwn.never (ck (bB (ax JT hr (ac (aa 0) (ac (aa 1) (ac (aa 4) (ac (aa 3) ae))))))) (ai (am 4 sc__law_least.nd (ao (aa 4) ad))
        (aq (dA (bH (aa 4) (aa 2)) (ai (am 4 sc__law_least.nd ad)
         (aq (am 3 sc__law_least.nd (ao (aa 3) ad)))) aV))))
      (aq (aA (aR (ac (aa 2) (ac (aa 3) (ac (aa 4) ae)))))))))))),λds R h=>?_⟩)
  . obtain⟨_,_,_,_,rfl,_⟩:=h;rfl
  . obtain⟨p,w,h,s,rfl,ok,F,w7,h7,hR⟩:=h;obtain⟨w',h',s',L,d1,d2,Li,Mz,HE⟩:=Pat.least_ex F;have w0:=L.f.w0;have h0:=L.f.h0;have kw:p.Keeps w' 0:=(L.lat _ _).mp (InF.one _ _ _);have ks:p.Keeps s' h':=(L.lat _ _).mp (InF.two _ _ _);refine⟨λd=>d= .int 1,rfl,?_⟩;rintro _ rfl;k_places;refine⟨λm z=>∃ x:Int,z=[be (bc p w h),be (.tup [.int w,.int h,.int s]),be (.int x),q_,q_]/\1<=x/\x<=w'/\m=(w' - x).toNat,⟨_,1,rfl,by lia,by lia,rfl⟩,?_⟩;rintro m z ⟨x,rfl,x1,xw,hm⟩;k_places;refine⟨p,w,h,s,x,0,rfl,ok,F,w7,h7,λb hb=>?_⟩;cases b with
    |false=>
      have nk:¬ p.Keeps x 0:=λz=>nomatch hb.mpr z;have:x≠w':=λz=>nk (z ▸ kw);refine⟨λd=>d= .int (x+1),rfl,?_⟩;rintro _ rfl;k_places;exact⟨(w' - (x+1)).toNat,by lia,x+1,rfl,by lia,by lia,rfl⟩
    |true=>
      have k:=hb.mp rfl;obtain⟨i,j,e1,e2⟩:=(L.lat x 0).mpr k;have j0:j=0:=small_mul (i:=j) h0 (by lia) (by lia);subst j0;have ex:x=w':=by
        rcases Ff i 1 with q|q|q
        . have:=Ef (show i<=0 by lia) (show 0<=w' by lia);lia
        . subst q;lia
        . have:=Ef (show 2<=i by lia) (show 0<=w' by lia);lia
      subst ex;refine⟨λd=>d= .int 1,rfl,?_⟩;rintro _ rfl;k_places;refine⟨λd=>d= .int 0,rfl,?_⟩;rintro _ rfl;k_places;have Lj:∀ a b:Int,a<b->a*x+x<=b*x:=λa b q=>by
        have:=Ef (show a+1<=b by lia) (show 0<=x by lia);rw[E2] at this;lia
      refine⟨λm z=>∃ y l:Int,z=[be (bc p w h),be (.tup [.int w,.int h,.int s]),be (.int x),be (.int y),be (.int l)]/\1<=y/\y<=h'/\0<=l/\l<x/\(y=h'->l<=s')/\m=(h'*x - y*x+(x - l)).toNat,⟨_,1,0,rfl,by lia,by lia,by lia,w0,λ_=>L.f.s0,rfl⟩,?_⟩;rintro m z ⟨y,l,rfl,y1,yh,l0,lx,MB,hm⟩;k_places;have my:y*x<=h'*x:=Ef yh (by lia);refine⟨p,w,h,s,l,y,rfl,ok,F,w7,h7,λb hb=>?_⟩;cases b with
      |false=>
        have nk:¬ p.Keeps l y:=λz=>nomatch hb.mpr z;have ne:y=h'->l≠s':=λq z=>nk (q ▸ z ▸ ks);have sw:=L.f.sw;refine⟨λd=>d= .int (l+1),rfl,?_⟩;rintro _ rfl;k_places;refine⟨λz=>∃ y' l':Int,z=[be (bc p w h),be (.tup [.int w,.int h,.int s]),be (.int x),be (.int y'),be (.int l')]/\1<=y'/\y'<=h'/\0<=l'/\l'<x/\(y'=h'->l'<=s')/\(h'*x - y'*x+(x - l')).toNat<m,ite2 (λc=>?_) (λc=>?_),?_⟩
        . have c':=of_decide_eq_true c;have yl:y<h':=by
            rcases Int.lt_or_eq_of_le yh with q|q
            . exact q
            . have:=MB q;have:=ne q;lia
          have:=Lj y h' yl;refine⟨λd=>d= .int 0,rfl,?_⟩;rintro _ rfl;k_places;refine⟨λd=>d= .int (y+1),rfl,?_⟩;rintro _ rfl;k_places;refine⟨y+1,0,rfl,by lia,by lia,by lia,w0,λ_=>L.f.s0,?_⟩;rw[E2,Int.one_mul];lia
        . have c':¬ (l+1=x):=λz=>c (decide_eq_true z);exact⟨y,l+1,rfl,y1,yh,by lia,by lia,λq=>by have:=MB q;have:=ne q;lia,by lia⟩
        . rintro _ ⟨y',l',rfl,a1,a2,a3,a4,a5,a6⟩;k_places;exact⟨_,a6,y',l',rfl,a1,a2,a3,a4,a5,rfl⟩
      |true=>
        have k:=hb.mp rfl;have ey:y=h':=by have:=(L.down k (by lia)).1;lia
        subst ey;have el:=L.slant l0 lx k;subst el;exact⟨by show(3:Nat)<=1000;decide,hR x y l L Li Mz HE⟩
abbrev nz(V:Bx):Prop:=V.D 1 "_law_on" kD zz
def Cq(T:V.T "_law_on" kC kD):nz V:=by
 refine Tx.okDW T sc__law_on (λds R h=>?_) (λf cdv A outer s H E J hr=>⟨_,((ai (am 4 sc__law_on.nd (bA (aE (af (aa 0) ad) (af (aa 1) ad)) (aE (af (aa 0) ad) (af (aa 1) ad))))
   (aq (aA (pP (jp (pH (bA (aE (aa 2) (af (aa 1) ad)) (aE (aa 3) (af (aa 1) ad))) (aa 4)) ad) (pO (jp (pH (bA (aE (af (aa 0) ad) (aa 3)) (aE (af (aa 0) ad) (aa 2))) (aa 4)) ad))))))),λds R h=>?_⟩)
 .obtain⟨a,b,c,d,u,v,rfl,_⟩:=h;rfl
 .obtain⟨a,b,c,d,u,v,rfl,ha,hb,hc,hd,hn,hR⟩:=h;have HX:∀ {x:Int},x.natAbs<1073741824->-(2 ^ 64)<x/\x<2 ^ 64:=λh=>n64 (Nat.le_of_lt_succ h);refine⟨λx=>x= .int (a*d - b*c),⟨_,rfl,_,rfl,.inl (HX ha),_,rfl,_,rfl,.inl (HX hb),rfl⟩,?_⟩;rintro _ rfl;k_places;refine⟨_,rfl,.inr (HX hd),_,rfl,.inr (HX hc),by omega,ite2 (λe=>?_) (λe=>?_)⟩
  .have e':=of_decide_eq_true e;refine⟨_,rfl,.inl (HX ha),_,rfl,.inl (HX hb),by omega,?_⟩;have q:decide ((a*v - b*u).fmod (a*d - b*c)=0)=decide ((u*d - v*c).fmod (a*d - b*c)=0/\(a*v - b*u).fmod (a*d - b*c)=0):=by simp[e']
   have g:R (.bl (decide ((a*v - b*u).fmod (a*d - b*c)=0))):=by rw[q];exact hR
   exact g
  .have e':=of_decide_eq_false (Fh.mpr e);have q:decide ((u*d - v*c).fmod (a*d - b*c)=0/\(a*v - b*u).fmod (a*d - b*c)=0)=false:=by simp[e']
   rw[q] at hR;exact hR
abbrev nA(V:Bx):Prop:=V.D 2 "_law_leaf_shows" kF zU
def Cr(T:V.T "_law_leaf_shows" kE kF)(uA:V.m "range")(uB:V.m "len")(uL:V.m "int")(Lk:nz V):nA V:=by
 refine Tx.okDW T sc__law_leaf_shows (λds R h=>?_) (λf cdv A outer s H E J hr=>⟨_,((ai (am 3 sc__law_leaf_shows.nd (af (aa 0) ad))
   (ai (am 4 sc__law_leaf_shows.nd (ao (ao (aE (af (aa 3) ad) (aa 1)) (aE (af (aa 3) ad) (aa 2))) (af (aa 3) ad)))
   (ai (am 5 sc__law_leaf_shows.nd (ao (ao (aE (af (aa 3) ad) (aa 1)) (aE (af (aa 3) ad) (aa 2))) (af (aa 3) ad)))
   (ai (bY 6 PassesOwn.never rfl sc__law_leaf_shows.nd uA (cj uB (ac (af (aa 0) ad) ae)) (aq (bY 7 PassesOwn.never rfl sc__law_leaf_shows.nd uA (cj uB (ac (af (af (aa 0) ad) (aa 6)) ae)) (aq (bn (cV (wN (bX (af (af (af (aa 0) ad) (aa 6)) (aa 7)) aw) (wM (bB (ax Lk hr (ac (af (aa 0) ad) (ac (af (aa 0) ad) (ac (bA (aa 4) (aa 7)) (ac (bA (aa 5) (aa 6)) ae))))))))) (aq (aA (af (af (aa 0) ad) (jv uL (ac (af (af (af (aa 0) ad) (aa 6)) (aa 7)) ae))))) aV)))))
   (aq (aA ad))))))),λds R h=>?_⟩)
 .obtain⟨_,_,_,rfl,_⟩:=h;rfl
 .obtain⟨l,x,y,rfl,ok,hR⟩:=h;obtain⟨hm,wd,Ob,n8⟩:=id ok.rows;refine⟨λd=>d= .tup [.int l.w0,.int l.w1,.int l.w2,.int l.w3,.int l.w4,.int l.w5],⟨_,rfl,rfl⟩,?_⟩;rintro _ rfl;k_places;refine⟨λd=>d= .int (l.w0*x+l.w1*y+l.w4),⟨_,rfl,.inl (n64 ok.w0),_,rfl,.inl (n64 ok.w1),_,rfl,rfl⟩,?_⟩;rintro _ rfl;k_places;refine⟨λd=>d= .int (l.w2*x+l.w3*y+l.w5),⟨_,rfl,.inl (n64 ok.w2),_,rfl,.inl (n64 ok.w3),_,rfl,rfl⟩,?_⟩;rintro _ rfl;k_places;have Ha:R (.int (match l.hit x y with|some c=>cell l.hues ((c:Int) - 48)|none=>0)):=hR;unfold Leaf.hit at Ha;generalize l.w0*x+l.w1*y+l.w4=U at Ha ⊢;generalize l.w2*x+l.w3*y+l.w5=V at Ha ⊢;generalize ef:(λi j=>onB l.a l.b l.c l.d (U - i) (V - j))=f at Ha;have e0:∀ i j,f i j=onB l.a l.b l.c l.d (U - i) (V - j):=λi j=>by rw[<- ef]
  have a_:((l.rows.map D.str).length:Int).toNat=l.rows.length:=by simp
  refine⟨_,rfl,⟨by lia,by simp;lia⟩,λk z=>∃ o1 o2:Option D,z=[be l.D,be (.int x),be (.int y),be (.tup [.int l.w0,.int l.w1,.int l.w2,.int l.w3,.int l.w4,.int l.w5]),be (.int U),be (.int V),o1,o2]/\bw f 0 l.rows=bw f k (l.rows.drop k),⟨_,_,rfl,rfl⟩,?_,?_⟩
  .rintro j v z hj ⟨o1,o2,rfl,hs⟩;k_places;obtain⟨HU,rfl⟩:=bT hj;rw[a_] at HU;have Jd:l.rows[j]?=be l.rows[j]:=Ei HU;have v4:l.rows.drop j=l.rows[j]::l.rows.drop (j+1):=FJ HU;obtain⟨n6,u8⟩:=n8 l.rows[j] (EJ HU);generalize l.rows[j]=row at Jd v4 n6 u8;have HF:=at_str Jd;have i8:=bL row;refine⟨_,rfl,_,HF,by lia,⟨by lia,by lia⟩,λi z=>∃ o2:Option D,z=[be l.D,be (.int x),be (.int y),be (.tup [.int l.w0,.int l.w1,.int l.w2,.int l.w3,.int l.w4,.int l.w5]),be (.int U),be (.int V),be (.int j),o2]/\scanRow (λi=>f i j) 0 (cs row)=scanRow (λi=>f i j) i ((cs row).drop i),⟨_,rfl,rfl⟩,?_,?_⟩
   .rintro i v z hi ⟨o2,rfl,HY⟩;k_places;obtain⟨td,rfl⟩:=bT hi;have Ll:i<(cs row).length:=by lia
    have C_:(cs row).drop i=(cs row)[i]::(cs row).drop (i+1):=FJ Ll;have Je:=u8 (cs row)[i] (EJ Ll);have Lm:atI (cs row) (i:Int)=be (cs row)[i]:=cv (Ei Ll);generalize (cs row)[i]=c at C_ Je Lm;refine⟨_,rfl,_,HF,c,⟨by lia,Lm⟩,ite2 (λq=>?_) (λq=>?_)⟩
    .have k_:¬ c=46:=by
      intro z;have:(⟨#[c]⟩:x9)=".":=one_sign.mpr z;simp[this] at q
     refine⟨_,rfl,_,rfl,l.a,l.b,l.c,l.d,U - i,V - j,rfl,ok.a.lt,ok.b.lt,ok.c.lt,ok.d.lt,ok.ne,?_⟩;refine ite2 (λq2=>?_) (λq2=>?_)
     .have d8:f i j=true:=by rw[e0];exact q2
      have Oc:49<=c/\c<=54:=by unfold aI at Je;lia
      refine⟨_,rfl,_,rfl,_,HF,c,⟨by lia,Lm⟩,_,⟨digit_of Oc,by show 1<=640;decide⟩,_,et (by lia) (by rw[ok.many];lia),?_⟩;rw[hs,v4,bw,HY,C_,scanRow,if_pos ⟨k_,d8⟩] at Ha;exact Ha
     .have d8:¬ f i j=true:=by rw[e0];exact q2
      refine⟨_,rfl,?_⟩;rw[HY,C_,scanRow,if_neg (λz=>d8 z.2)]
    .have k_:c=46:=by
      rcases Classical.em (c=46) with z|z
      .exact z
      .exact absurd (by
        have:¬ (⟨#[c]⟩:x9)=".":=λw=>z (one_sign.mp w);simp[this]) q
     refine⟨_,rfl,?_⟩;rw[HY,C_,scanRow,if_neg (λz=>z.1 k_)]
   .rintro z ⟨o2,rfl,HY⟩;k_places;refine⟨_,_,rfl,?_⟩;have hn:((row.length:Int).toNat)=(cs row).length:=by lia
    rw[bM,hn,Gg (DU _),scanRow] at HY;rw[hs,v4,bw,HY]
  .rintro z ⟨o1,o2,rfl,hs⟩;k_places;rw[bM,a_,Gg (DU _),bw] at hs;rw[hs] at Ha;exact Ha
abbrev iE(V:Bx):Prop:=V.D 3 "_law_shows" kH zV
def Cs(T:V.T "_law_shows" kG kH)(Ln:nA V):iE V:=by
 refine Tx.okDW T sc__law_shows (λds R h=>?_) (λf cdv A outer s H E J hr=>⟨_,((ai (pR 3 PassesOwn.never rfl sc__law_shows.nd (aa 0) (ai (am 4 sc__law_shows.nd (ax Ln hr (ac (aa 3) (ac (aa 1) (ac (aa 2) ae)))))
    (aq (bn (bX (aa 4) ad) (aq (aA (aa 4))) aV))))
   (aq (aA ad)))),λds R h=>?_⟩)
 .obtain⟨_,_,_,rfl,_⟩:=h;rfl
 .obtain⟨ls,x,y,rfl,ok,hR⟩:=h;refine⟨λk z=>∃ o1 o2:Option D,z=[be (.lst (ls.map Leaf.D)),be (.int x),be (.int y),o1,o2]/\aU ls x y=aU (ls.drop k) x y,⟨_,_,rfl,rfl⟩,?_,?_⟩
  .rintro k v z hk ⟨o1,o2,rfl,hs⟩;k_places;rw[D5] at hk;have s9:k<ls.length:=by
    rcases Fq k ls.length with q|q
    .exact q
    .rw[EC q] at hk;cases hk
   rw[Ei s9] at hk;cases hk;have ed:ls.drop k=ls[k]::ls.drop (k+1):=FJ s9;have MC:=ok ls[k] (EJ s9);generalize ls[k]=l at ed MC;refine⟨λd=>d= .int (l.shows x y),⟨l,x,y,rfl,MC,rfl⟩,?_⟩;rintro _ rfl;k_places;refine ite2 (λq=>?_) (λq=>?_)
   .have q':¬ l.shows x y=0:=by simpa using q
    rw[hs,ed,aU,if_pos q'] at hR;exact hR
   .have q':l.shows x y=0:=by simpa using q
    refine⟨_,_,rfl,?_⟩;rw[hs,ed,aU,if_neg (λz=>z q')]
  .rintro z ⟨o1,o2,rfl,hs⟩;k_places;rw[DZ,Gg (DU _),aU] at hs;rw[hs] at hR;exact hR
abbrev nB(V:Bx):Prop:=V.D 4 "_law_table" kI Bo
def Ct(T:V.T "_law_table" gJ kI)(uA:V.m "range")(HZ:iE V):nB V:=by
 refine Tx.okDW T sc__law_table (λds R h=>?_) (λf cdv A outer s H E J hr=>⟨_,((ai (fY 2 sc__law_table.nd ae)
   (ai (bY 3 PassesOwn.never rfl sc__law_table.nd uA (af (aa 1) ad) (aq (fj 2 (jw (jB rfl (compScope (by change cx _ (ah gJ) ["_law_leaves","_law_three","_law_lines_here","_law_y"] _=true;decide+kernel)) uA (af (aa 1) ad) (λcl s0 H0 fp=>(af aw (ax HZ hr (ac (aa 0) (ac (aa 4) (ac (aa 3) ae)))))))))))
   (fg 2 (aq (aA (aa 2))))))),λds R h=>?_⟩)
 .obtain⟨_,_,_,_,rfl,_⟩:=h;rfl
 .obtain⟨p,w,h,s,rfl,wf,dp,w0,w7,h0,h7,hR⟩:=h;refine⟨by simp,?_⟩;refine⟨_,rfl,⟨by lia,by lia⟩,λk z=>∃ o,z=[be (.lst (p.leaves.map Leaf.D)),be (.tup [.int w,.int h,.int s]),be (.own ((DV k).map λ(y:Nat)=>D.str (ay p 0 (y:Int) w.toNat))),o],⟨_,rfl⟩,?_,?_⟩
  .rintro k v z hk ⟨o,rfl⟩;k_places;obtain⟨n9,rfl⟩:=bT hk;refine⟨_,rfl,⟨by lia,by lia⟩,by rw[bM];lia,λi ys=>ys=(DV i).map λ(x:Nat)=>D.str ⟨#[bu (p.show (0+(x:Int)) k)]⟩,rfl,?_,?_⟩
   .rintro i v ys hi hl rfl;obtain⟨H4,rfl⟩:=bT hi;refine⟨p.leaves,i,k,rfl,Pat.leaf_ok wf (by lia),?_⟩;rw[Pat.show_leaves wf (by lia)];obtain⟨b0,b6⟩:=Pat.show_le wf (by lia) (i:Int) k;refine⟨_,⟨by decide,rW b0 b6⟩,?_⟩;show _=Fb _ (DV (i+1));rw[EY,Ew];simp only[Eb,EO,Ge]
   .rintro ys hl rfl;rw[bM,sy];refine⟨_,gC _,?_,?_⟩
    .rw[Bn,show("":x9).length=0 from rfl];simp;lia
    .rw[Bm];refine⟨by simp;lia,?_⟩;refine⟨be (.int k),?_⟩;rw[EY,Ew];rfl
  .rintro z ⟨o,rfl⟩;k_places;rw[bM];exact hR
abbrev iF(V:Bx):Prop:=V.E 1 "WrongSign" kK AZ
def Cu(T:V.Te "WrongSign" "WrongSign.__init__" kJ kK)(H8:V.b "MotifError")(uAQ:V.ea "WrongSign")(Lo:V.xf "WrongSign" "place"):iF V:=by
 refine Txe.okE T Bt (λds R h=>?_) (λf cdv A outer s H E J hr=>⟨_,((ql H8 uAQ (ac (aa 1) ae) (qm uAQ Lo (aa 1) qk))),λds R h=>?_⟩)
 .obtain⟨i,rfl,_⟩:=h;rfl
 .obtain⟨i,rfl,hR⟩:=h;exact⟨by show(1:Nat)<=1000;decide,rfl,hR⟩
abbrev dm(V:Bx):Prop:=V.Q 1 "Reading" "may_take" kM Am
def Cw(T:V.Tm "Reading" "may_take" "Reading.may_take" kL kM)(uB:V.m "len")(Hb:V.a "Reading" "text")(uE:V.a "Reading" "place"):dm V:=by
 refine Txm.okM T Bu (λds M R RX h=>?_) (λf cdv A outer s H E J hr hx=>⟨_,((aB (cq (mt_w (xR (gx (aM uE (aj (aa 0))) (qA uB (aS (aM Hb (aj (aa 0))) bq))) (xP (xN (qw (aM Hb (aj (aa 0))) (aM uE (aj (aa 0)))) (aj (aa 1)))))) (aF (aO (aj aw))) bZ)
   (aB (gA uE (aj (aa 0)) (gv (aM uE (aj (aa 0))) (aj ad)))
   (aF (aO (qw (aM Hb (aj (aa 0))) (jH (aM uE (aj (aa 0))) (aj ad)))))))),λds M R RX b7 h=>?_⟩)
 .obtain⟨_,_,_,_,_,rfl,_⟩:=h;rfl
 .obtain⟨a,t,k,l,al,rfl,rfl,d4,hR⟩:=h;refine⟨_,aP,_,db,_,aP,_,jS,D9 d4.sz (by decide),?_⟩;cases l with
  |nil=>
   refine ifdT (by rw[d4.nil]) (ifT rfl ?_);exact hR
  |cons c l=>
   have lt:=d4.lt;refine ifdF (by lia) ?_;refine⟨_,aP,_,jS,_,aP,_,db,c,⟨D9 d4.sz (by decide),cv d4.get⟩,?_⟩;refine ite2 (λe=>?_) (λe=>?_)
   .have e2:(!(!(Builtin.Str.occurrences al ⟨#[c]⟩ 0 al.length 1).isEmpty))=true:=e;rw[rH] at e2;have nc:c ∉ cs al:=by simpa using e2
    rw[de nc,df nc] at hR;exact hR
   .have e2:¬ (!(!(Builtin.Str.occurrences al ⟨#[c]⟩ 0 al.length 1).isEmpty))=true:=e;rw[rH] at e2;have nc:c∈cs al:=by simpa using e2
    rw[dI nc,dJ nc] at hR;refine⟨_,aP,_,db,_,aP,by show(2:Nat)<1000;decide,?_⟩;rw[show mput (RdM a t k) a (.ins "Reading" (putD ("place":x9) (.int ((k:Int)+1)) (rdF t k)))=RdM a t (k+1) by rw[Ak];exact eG];refine⟨_,aP,_,jS,_,aP,_,db,c,⟨D9 d4.sz (by decide),?_⟩,hR⟩;rw[show((k+1:Nat):Int) - 1=(k:Int) by lia];exact cv d4.get
abbrev cJ(V:Bx):Prop:=V.Q 3 "Reading" "take" kO An
def Cy(T:V.Tm "Reading" "take" "Reading.take" kN kO)(uE:V.a "Reading" "place")(uG:dm V)(uAA:iF V):cJ V:=by
 refine Txm.okM T sc_Reading_take (λds M R RX h=>?_) (λf cdv A outer s H E J hr hx=>⟨_,((aB (bb 2 sc_Reading_take.nd (aY (CalMth.one uG) hx hr (aj (aa 0)) (aD (ac (aa 1) ae))))
   (aB (cq (cn (bH (aa 2) aw)) (aF (jK uAA hr hx rfl (aS (aM uE (aj (aa 0))) bq))) bZ)
   (aF (aO (aj (aa 2))))))),λds M R RX b7 h=>?_⟩)
 .obtain⟨_,_,_,_,_,rfl,_⟩:=h;rfl
 .obtain⟨a,t,k,l,al,rfl,rfl,d4,hR,hX⟩:=h;refine⟨λd M'=>d= .str (mayS al l)/\M'=RdM a t (k+mayN al l),⟨_,DY.mpr rfl,_,aP,cO,a,t,k,l,al,rfl,rfl,d4,rfl,rfl⟩,?_⟩;rintro _ _ ⟨rfl,rfl⟩;k_places;have no:(∀ c l',l=c::l'->c ∉ cs al)->mayS al l=""/\mayN al l=0:=λh=>by
   cases l with
   |nil=>exact⟨rfl,rfl⟩
   |cons c l=>exact⟨de (h c l rfl),df (h c l rfl)⟩
  by_cases h:∃ c l',l=c::l'/\c∈cs al
  .obtain⟨c,l',rfl,hc⟩:=h;rw[dI hc,dJ hc];exact hR c l' rfl hc
  .have h':∀ c l',l=c::l'->c ∉ cs al:=λc l' e hc=>h ⟨c,l',e,hc⟩;obtain⟨e1,e2⟩:=no h';rw[e1,e2];refine⟨_,aP,_,db,by show(1:Nat)<=1000;decide,(k:Int),rfl,?_⟩;rw[b7];exact hX h' _
abbrev nC(V:Bx):Prop:=V.MM 4 "line_from" kQ Av
def Cz(T:V.T "line_from" kP kQ)(uA:V.m "range")(uY:V.gs "SIGNS" ".123456")(uC:cJ V)(uG:dm V):nC V:=by
 refine Tx.okM T sc_line_from (λds M R RX h=>?_) (λf cdv A outer s H E J hr hx=>⟨_,((aB (bb 3 sc_line_from.nd (aj aw))
   (aB (yp 4 PassesOwn.leaving rfl sc_line_from.nd uA (aj (aa 2)) (aF (bb 3 sc_line_from.nd (gv (aj (aa 3)) (fq (cn (fb (aa 4) (aa 1))) (aY (CalMth.one uC) hx hr (aj (aa 0)) (aD (ac (gm uY) ae))) (aY (CalMth.one uG) hx hr (aj (aa 0)) (aD (ac (gm uY) ae))))))))
   (aF (aO (aj (aa 3))))))),λds M R RX b7 h=>?_⟩)
 .obtain⟨_,_,_,_,_,_,rfl,_⟩:=h;rfl
 .obtain⟨a,t,k,l,n,m,rfl,rfl,d4,O0,O1,hR,hX⟩:=h;refine⟨λd M'=>d= .str ""/\M'=RdM a t k,⟨rfl,rfl⟩,?_⟩;rintro _ _ ⟨rfl,rfl⟩;k_places;refine⟨⟨by lia,by lia⟩,λi z M'=>i<=m/\∃ col,z=[be (.ptr a),be (.int n),be (.int m),be (.str ⟨(sgPre i l).toArray⟩),col]/\M'=RdM a t (k+(sgPre i l).length)/\min i n<=(sgPre i l).length,⟨Ej _,q_,rfl,rfl,by simp⟩,?_,?_⟩
  .rintro i x z M' hi ⟨O2,col,rfl,rfl,v5⟩;k_places;obtain⟨H4,rfl⟩:=bT hi;have H4:i<m:=by lia
   have Li:=gD i l;rcases sgPre_succ i l with⟨c,l',h1,h2,h3,h4⟩|⟨l',h1,h2,h3⟩
   .have c9:At t (k+(sgPre i l).length) (c::l'):=by have:=d4;rw[h1] at this;exact this.app
    refine⟨λd M'=>d= .str ⟨(sgPre (i+1) l).toArray⟩/\M'=RdM a t (k+(sgPre i l).length+1),?_,?_⟩
    .refine ite2 (λ_=>?_) (λ_=>?_)
     .refine⟨_,DY.mpr rfl,_,aP,ce,a,t,_,_,".123456",rfl,rfl,c9,λc' l2 e hc=>?_,λc_=>absurd (signs_is.mpr h3) (c_ c l' rfl)⟩;cases e;refine⟨by rw[dN,show(⟨#[c]⟩:x9).length=1 from rfl];lia,?_,rfl⟩;rw[show(⟨#[c]⟩:x9)=⟨[c].toArray⟩ from rfl,eH,h4]
     .refine⟨_,DY.mpr rfl,_,aP,cO,a,t,_,_,".123456",rfl,rfl,c9,?_⟩;rw[dI (signs_is.mpr h3),dJ (signs_is.mpr h3)];refine⟨by rw[dN,show(⟨#[c]⟩:x9).length=1 from rfl];lia,?_,rfl⟩;rw[show(⟨#[c]⟩:x9)=⟨[c].toArray⟩ from rfl,eH,h4]
    .rintro _ _ ⟨rfl,rfl⟩;k_places;refine⟨H4,_,rfl,?_,?_⟩
     .rw[h4,D7];rfl
     .rw[h4,D7,h2];show _<=i+1;lia
   .have c9:At t (k+(sgPre i l).length) l':=by have:=d4;rw[h1] at this;exact this.app
    have c_:∀ c l2,l'=c::l2->c ∉ cs ".123456":=λc l2 q z=>by
     have:=h2 c l2 q;rw[signs_is.mp z] at this;cases this
    have v6:mayS ".123456" l'=""/\mayN ".123456" l'=0:=by
     cases l' with
     |nil=>exact⟨rfl,rfl⟩
     |cons c l2=>exact⟨de (c_ c l2 rfl),df (c_ c l2 rfl)⟩
    refine⟨λd M'=>d= .str ⟨(sgPre (i+1) l).toArray⟩/\M'=RdM a t (k+(sgPre i l).length)/\¬ i<n,?_,?_⟩
    .refine ite2 (λc=>?_) (λc=>?_)
     .have c':=of_decide_eq_true c;refine⟨_,DY.mpr rfl,_,aP,ce,a,t,_,_,".123456",rfl,rfl,c9,λc' l2 e hc=>absurd hc (c_ c' l2 e),λ_ M'=>?_⟩;rw[b7];have:=hX (by rw[h3 m (by lia)];lia) M';rw[h3 m (by lia)] at this;exact this
     .have c':¬ i<n:=λz=>c (decide_eq_true (by lia));refine⟨_,DY.mpr rfl,_,aP,cO,a,t,_,_,".123456",rfl,rfl,c9,?_⟩;rw[v6.1,v6.2];refine⟨by rw[dN,show("":x9).length=0 from rfl];lia,?_,rfl,c'⟩;rw[show("":x9)=⟨([]:List Nat).toArray⟩ from rfl,eH,EA,h3 (i+1) (by lia)]
    .rintro _ _ ⟨rfl,rfl,n8⟩;k_places;refine⟨H4,_,rfl,by rw[h3 (i+1) (by lia)],?_⟩;rw[h3 (i+1) (by lia)];lia
  .intro z M' hz;rw[bM,FR] at hz;obtain⟨_,col,rfl,rfl,v5⟩:=hz;exact hR (by lia)
abbrev nD(V:Bx):Prop:=V.MM 5 "lines_from" kS Ay
def CA(T:V.T "lines_from" kR kS)(uB:V.m "len")(JU:nC V)(JV:V.gi "LONGEST" 8)(uG:dm V):nD V:=by
  refine Tx.okM T sc_lines_from (λds M R RX h=>?_) (λf cdv A outer s H E J hr hx=>⟨_,((aB (bb 1 sc_lines_from.nd (xU (aS (aZ (CalMM.frame JU) hx hr (aD (ac (aa 0) (ac ad (ac (fk JV) ae))))) bq)))
      (aB (bb 2 sc_lines_from.nd (qA uB (aS (yt (aj (aa 1)) (aj ad)) bq)))
      (aB (yo PassesOwn.leaving (mt_w (xQ (qy (yr uB (aj (aa 1))) (aj (fk JV))) (xO (gx (aY (CalMth.one (CalMth.frame uG)) hx hr (aj (aa 0)) (aD (ac aw ae))) (aj aw))))) (aF (cz (yw (aj (aa 1)) (aZ (CalMM.frame JU) hx hr (aD (ac (aa 0) (ac (aa 2) (ac (aa 2) ae)))))))))
      (qF 1 (aF (aO (aj (aa 1))))))))),λds M R RX b7 h=>?_⟩)
  . obtain⟨_,_,_,_,rfl,_⟩:=h;rfl
  . obtain⟨a,t,k,l,rfl,rfl,d4,hR,hX⟩:=h;obtain⟨l1,JW,hg⟩:=sgPre_split 8 l;have MD:=sgPre_sign 8 l;have D':=gD 8 l;refine⟨λd M'=>∃ p,p≠a/\1<=(sgPre 8 l).length/\d= .ptr p/\M'=(p,.lst [.str ⟨(sgPre 8 l).toArray⟩])::RdM a t (k+(sgPre 8 l).length),⟨[],RdM a t k,rfl,a,t,k,l,1,8,rfl,rfl,d4,by decide,by decide,λh1=>⟨by show 1<=1000;decide,λp hp=>?_⟩,λh1 M'=>?_⟩,?_⟩
    . exact⟨p,λe=>hp (by rw[e];exact DY.mpr rfl),h1,rfl,rfl⟩
    . rw[b7];refine hX _ (λr=>?_) _;have e0:sgPre 8 l=[]:=F5 (by lia);rw[e0] at JW hg ⊢;rw[JW];have:=rL (w:=1) (n:=0) (x:=[]) (l:=l1) (λc z=>nomatch z) (by decide) (by decide) (λ_=>rfl) (hg.resolve_left (by decide)) r k;refine walk_bad (λz=>nomatch z) λc l' q=>?_;rw[dH];unfold cM;rw[hg.resolve_left (by decide) c l' q,if_neg D6];exact if_pos (.inl rfl)
    rintro _ _ ⟨p,Od,h1,rfl,rfl⟩;k_places;refine⟨λd M'=>d= .int (sgPre 8 l).length/\M'=(p,.lst [.str ⟨(sgPre 8 l).toArray⟩])::RdM a t (k+(sgPre 8 l).length),⟨_,cP,_,rfl,by rw[dN];lia,by rw[dN],rfl⟩,?_⟩;rintro _ _ ⟨rfl,rfl⟩;k_places;refine⟨λm z M'=>∃ (L:List (List Nat)) (w0:Nat) (l2:List Nat),RowsL L (sgPre 8 l).length/\l=rowsL L++l2/\LinAt w0 (sgPre 8 l).length L.length l2/\(∀ r,walk (.lin 0 0 0::r) l k=walk (.lin w0 (sgPre 8 l).length (L.length - 1)::r) l2 (k+(rowsL L).length))/\m=8 - L.length/\z=[be (.ptr a),be (.ptr p),be (.int (sgPre 8 l).length)]/\M'=(p,.lst (lstD L))::RdM a t (k+(rowsL L).length),⟨7,[sgPre 8 l],0,l1,⟨by simp,h1,D',λx hx=>?_⟩,JW,⟨h1,by simp,λ_=>hg,λz=>absurd z (by simp)⟩,λr=>?_,rfl,rfl,rfl⟩,?_⟩
    . rw[DY.mp hx];exact⟨rfl,MD⟩
    . have:=eE (w:=0) (k:=0) (r:=r) (sgPre 8 l) 0 l1 k MD (by simp;lia);rw[<- JW,Fg] at this;exact this
    rintro m z M' ⟨L,w0,l2,hL,G9,HG,hw,rfl,rfl,rfl⟩;k_places;have u6:=hL.many;have l8:At t (k+(rowsL L).length) l2:=by have:=d4;rw[G9] at this;exact this.app
    have Jf:(lstD L).length=L.length:=by simp[lstD]
    have done:(L.length=8\/∀ l',l2≠47::l')->R (.lst (lstD L)) (RdM a t (k+(rowsL L).length)):=λst=>hR L _ l2 hL G9 λr=>by rw[hw r,Ax HG (by lia) st]
    refine⟨_,cP,?_⟩;rw[Jf];refine ite2 (λc=>?_) (λc=>?_)
    . have c':L.length<8:=by have:=of_decide_eq_true c;lia
      refine⟨_,DY.mpr rfl,_,Aw Od,cO,[(p,_)],RdM a t _,rfl,a,t,_,l2,"/",rfl,rfl,l8,?_⟩;by_cases MF:∃ l',l2=47::l'
      . obtain⟨l3,rfl⟩:=MF;have MG:(47:Nat)∈cs "/":=by decide
        rw[dI MG,dJ MG];obtain⟨l4,Lp,Oe⟩:=sgPre_split (sgPre 8 l).length l3;have Lr:=sgPre_sign (sgPre 8 l).length l3;have Of:=gD (sgPre 8 l).length l3;refine⟨⟨_,cP⟩,[(p,_)],RdM a t _,rfl,a,t,_,l3,(sgPre 8 l).length,(sgPre 8 l).length,rfl,rfl,l8.next,DU _,D',λh2=>?_,λh2 M'=>?_⟩
        . have a_:(sgPre (sgPre 8 l).length l3).length=(sgPre 8 l).length:=by lia
          refine⟨_,cP,by rw[Jf];lia,?_⟩;refine⟨8 - (L.length+1),by lia,L++[sgPre (sgPre 8 l).length l3],(sgPre 8 l).length,l4,⟨by rw[D7];simp;lia,h1,D',λx hx=>?_⟩,?_,⟨h1,by rw[D7];simp,λz=>?_,λ_=>rfl⟩,λr=>?_,by rw[D7];rfl,rfl,?_⟩
          . rcases Et.mp hx with q|q
            . exact hL.each x q
            . rw[DY.mp q];exact⟨a_,Lr⟩
          . rw[gE L _ (λq=>by rw[q] at u6;simp at u6),Ez,EF,<- Lp];exact G9
          . rw[D7] at z;simp at z;rw[z] at u6;simp at u6
          . rw[hw r,rK HG c' r];have:=eE (w:=(sgPre 8 l).length) (k:=L.length) (r:=r) (sgPre (sgPre 8 l).length l3) 0 l4 (k+(rowsL L).length+1) Lr (by rw[if_pos (by lia)];lia);rw[<- Lp,Fg,a_] at this;rw[this,gE L _ (λq=>by rw[q] at u6;simp at u6),D7,D7];show walk (.lin _ _ L.length::r) l4 _=walk (.lin _ _ (L.length+1 - 1)::r) l4 _;congr 1;rw[D0,a_];lia
          . show mput ((p,MO.lst (lstD L))::RdM a t _) p _=_;rw[rJ,gE L _ (λq=>by rw[q] at u6;simp at u6)];show _::RdM a t _=_;congr 1
            . simp[lstD]
            . congr 1;simp;lia
        . rw[b7];refine hX _ (λr=>?_) _;rw[hw r,rK HG c' r];have:=rL (w:=(sgPre 8 l).length) (n:=L.length) Lr h2 D' (λq=>by lia) (Oe.resolve_left (by lia)) r (k+(rowsL L).length+1);rw[<- Lp] at this;exact this
      . have c_:∀ l',l2≠47::l':=λl' q=>MF ⟨l',q⟩;have v6:mayS "/" l2=""/\mayN "/" l2=0:=by
          cases l2 with
          |nil=>exact⟨rfl,rfl⟩
          |cons c l3=>
            have:c ∉ cs "/":=λq=>c_ l3 (by rw[show c=47 from DY.mp q]);exact⟨de this,df this⟩
        rw[v6.1,v6.2];refine⟨_,cP,?_⟩;rw[show mdel ([(p,MO.lst (lstD L))]++RdM a t (k+(rowsL L).length+0)) p=RdM a t (k+(rowsL L).length) from jU];exact done (.inr c_)
    . have c':L.length=8:=by
        have:¬ ((L.length:Int)<8):=λz=>c (decide_eq_true z);lia
      refine⟨_,cP,?_⟩;rw[jU];exact done (.inl c')
abbrev nE(V:Bx):Prop:=V.MM 4 "number_from" kU As
def CB(T:V.T "number_from" kT kU)(uL:V.m "int")(uG:dm V)(uC:cJ V):nE V:=by
  refine Tx.okM T sc_number_from (λds M R RX h=>?_) (λf cdv A outer s H E J hr hx=>⟨_,((aB (cq (gx (aY (CalMth.one uG) hx hr (aj (aa 0)) (aD (ac aw ae))) (aj aw)) (aF (aO (aj ad))) bZ)
      (aB (bb 1 sc_number_from.nd (gv (aY (CalMth.one uG) hx hr (aj (aa 0)) (aD (ac aw ae))) (aY (CalMth.one uC) hx hr (aj (aa 0)) (aD (ac aw ae)))))
      (aB (qE (cn (bB (xK (aa 1) (ac aw ae)))) (aF (bb 1 sc_number_from.nd (gv (aj (aa 1)) (aY (CalMth.one uG) hx hr (aj (aa 0)) (aD (ac aw ae)))))) bZ)
      (aF (aO (aj (jv uL (ac (aa 1) ae))))))))),λds M R RX b7 h=>?_⟩)
  . obtain⟨_,_,_,_,rfl,_⟩:=h;rfl
  . obtain⟨a,t,k,l,rfl,rfl,d4,hR,hX⟩:=h;refine⟨_,DY.mpr rfl,_,aP,cO,a,t,k,l,"0",rfl,rfl,d4,?_⟩;by_cases z0:∃ l',l=48::l'
    . obtain⟨l',rfl⟩:=z0;have e0:(48:Nat)∈cs "0":=by decide
      rw[dI e0,dJ e0];refine hR 0 l' (by unfold B12;lia) ?_ λe r=>?_
      . rw[show numL 0=[48] by decide+kernel];rfl
      . rw[show numL 0=[48] by decide+kernel,aH (st':= .sign e::r) (by simp[step,aJ,aL])];rfl
    have n0:mayS "0" l=""/\mayN "0" l=0:=by
      cases l with
      |nil=>exact⟨rfl,rfl⟩
      |cons c l=>
        have:c ∉ cs "0":=λq=>z0 ⟨l,by rw[show c=48 from DY.mp q]⟩;exact⟨de this,df this⟩
    rw[n0.1,n0.2];obtain⟨pre,l1,hp,rfl,hS,hN,h0⟩:∃ pre l1,(pre=[]\/pre=[45])/\l=pre++l1/\mayS "-" l=⟨pre.toArray⟩/\mayN "-" l=pre.length/\(pre=[]->∀ c l',l1=c::l'->c≠48/\c≠45):=by
      by_cases z1:∃ l',l=45::l'
      . obtain⟨l',rfl⟩:=z1;exact⟨[45],l',.inr rfl,rfl,rfl,rfl,λq=>nomatch q⟩
      . refine⟨[],l,.inl rfl,rfl,?_⟩;cases l with
        |nil=>exact⟨rfl,rfl,λ_ c l' q=>nomatch q⟩
        |cons c l=>
          have:c ∉ cs "-":=λq=>z1 ⟨l,by rw[show c=45 from DY.mp q]⟩;refine⟨de this,df this,λ_ c' l' q=>?_⟩;cases q;exact⟨λe=>z0 ⟨l,by rw[e]⟩,λe=>z1 ⟨l,by rw[e]⟩⟩
    have c9:=d4.app;refine⟨λd M'=>∃ c l2,l1=c::l2/\(49<=c/\c<=57)/\d= .str ⟨(pre++[c]).toArray⟩/\M'=RdM a t (k+pre.length+1),?_,?_⟩
    . refine⟨_,DY.mpr rfl,_,aP,cO,a,t,k,_,"-",rfl,rfl,d4,?_⟩;rw[hS,hN];refine⟨_,DY.mpr rfl,_,aP,ce,a,t,k+pre.length,l1,"123456789",rfl,rfl,c9,λc l2 e hc=>?_,λc_ M'=>?_⟩
      . refine⟨?_,c,l2,e,digits19.mp hc,?_,rfl⟩
        . rcases hp with rfl|rfl<;>simp[Str.length]
        . rw[show(⟨#[c]⟩:x9)=⟨[c].toArray⟩ from rfl,eH]
      . rw[b7];exact hX _ (Aq hp rfl (λc l' q=>λz=>c_ c l' q (digits19.mpr z)) h0 k) M'
    . rintro _ _ ⟨c,l2,rfl,hc,rfl,rfl⟩;k_places;have l8:=c9.next;refine⟨λz M'=>∃ x l3,((c=49/\∃ d,(48<=d/\d<=50)/\x=[d])\/(x=[]/\(c=49->∀ d l',l3=d::l'->¬ (48<=d/\d<=50))))/\l2=x++l3/\z=[be (.ptr a),be (.str ⟨(pre++c::x).toArray⟩)]/\M'=RdM a t (k+pre.length+1+x.length),?_,?_⟩
      . show if Txt.endswith ⟨(pre++[c]).toArray⟩ "1"=true then _ else _
        rw[Ar];refine ite2 (λe=>?_) (λe=>?_)
        . have e':=of_decide_eq_true e;by_cases z2:∃ d l3,l2=d::l3/\(48<=d/\d<=50)
          . obtain⟨d,l3,rfl,hd⟩:=z2;refine⟨λv M'=>v= .str ⟨(pre++[c,d]).toArray⟩/\M'=RdM a t (k+pre.length+1+1),⟨_,DY.mpr rfl,_,aP,cO,a,t,_,_,"012",rfl,rfl,l8,?_⟩,?_⟩
            . rw[dI (digits02.mpr hd),dJ (digits02.mpr hd)];refine⟨?_,?_,rfl⟩
              . rcases hp with rfl|rfl<;>simp[Str.length]
              . rw[show(⟨#[d]⟩:x9)=⟨[d].toArray⟩ from rfl,eH];simp
            . rintro _ _ ⟨rfl,rfl⟩;k_places;exact⟨[d],l3,.inl ⟨e',d,hd,rfl⟩,rfl,rfl,rfl⟩
          . have c_:∀ d l',l2=d::l'->¬ (48<=d/\d<=50):=λd l' q z=>z2 ⟨d,l',q,z⟩;have hm:mayS "012" l2=""/\mayN "012" l2=0:=by
              cases l2 with
              |nil=>exact⟨rfl,rfl⟩
              |cons d l2=>exact⟨de (λq=>c_ d l2 rfl (digits02.mp q)),df (λq=>c_ d l2 rfl (digits02.mp q))⟩
            refine⟨λv M'=>v= .str ⟨(pre++[c]).toArray⟩/\M'=RdM a t (k+pre.length+1),⟨_,DY.mpr rfl,_,aP,cO,a,t,_,_,"012",rfl,rfl,l8,?_⟩,?_⟩
            . rw[hm.1,hm.2];refine⟨?_,?_,rfl⟩
              . rcases hp with rfl|rfl<;>simp[Str.length,show(Str.ofString "").cps.size=0 from rfl]
              . rw[show("":x9)=⟨([]:List Nat).toArray⟩ from rfl,eH];simp
            . rintro _ _ ⟨rfl,rfl⟩;k_places;exact⟨[],l2,.inr ⟨rfl,λ_=>c_⟩,rfl,rfl,rfl⟩
        . have e':¬ c=49:=λz=>e (decide_eq_true z);exact⟨[],l2,.inr ⟨rfl,λz=>absurd z e'⟩,rfl,rfl,rfl⟩
      . rintro _ _ ⟨x,l3,hx,rfl,rfl,rfl⟩;k_places;have hn:isNumL (pre++c::x):=by
          rcases hx with⟨rfl,d,hd,rfl⟩|⟨rfl,_⟩
          . rcases hp with rfl|rfl
            . exact .inr (.inl ⟨d,hd,rfl⟩)
            . exact .inr (.inr (.inr ⟨d,hd,rfl⟩))
          . rcases hp with rfl|rfl
            . exact .inl ⟨c,by lia,rfl⟩
            . exact .inr (.inr (.inl ⟨c,hc,rfl⟩))
        obtain⟨v,hv,ev⟩:=Ah hn;refine⟨v,⟨?_,?_⟩,?_⟩
        . rw[<- ev];exact jT hv
        . rw[<- ev];have:=br hv;rw[<- bL] at this ⊢;show(numL v).length<=640;exact D9 this (by decide)
        . have:=hR v l3 hv (by rw[ev];simp) λe r=>by rw[ev];exact Ap hp hc hx k e r rfl
          rw[ev] at this;have e2:k+(pre++c::x).length=k+pre.length+1+x.length:=by simp;lia
          rw[e2] at this;exact this
abbrev fE(V:Bx):Prop:=V.MM 5 "shift_from" kX Au
def CC(T:V.T "shift_from" kW kX)(JX:nE V)(uC:cJ V):fE V:=by
 refine Tx.okM T sc_shift_from (λds M R RX h=>?_) (λf cdv A outer s H E J hr hx=>⟨_,((aB (bb 1 sc_shift_from.nd (aZ JX hx hr (aD (ac (aa 0) ae))))
   (aB (cz (aY (CalMth.one uC) hx hr (aj (aa 0)) (aD (ac aw ae))))
   (aF (aO (xT (aS (aj (aa 1)) (aS (aZ JX hx hr (aD (ac (aa 0) ae))) bq)))))))),λds M R RX b7 h=>?_⟩)
 .obtain⟨_,_,_,_,rfl,_⟩:=h;rfl
 .obtain⟨a,t,k,l,rfl,rfl,d4,hR,hX⟩:=h;refine⟨λd M'=>∃ x l1,B12 x/\l=numL x++l1/\(∀ e r,walk (.num:: .sign e::r) l k=walk (.sign e::r) l1 (k+(numL x).length))/\d= .int x/\M'=RdM a t (k+(numL x).length),⟨a,t,k,l,rfl,rfl,d4,λx l' hx e hw=>⟨x,l',hx,e,hw,rfl,rfl⟩,λj hj M'=>?_⟩,?_⟩
  .rw[b7];exact hX j (λr=>hj _) M'
  rintro _ _ ⟨x,l1,i6,rfl,n6,rfl,rfl⟩;k_places;have c9:=d4.app;refine⟨_,DY.mpr rfl,_,aP,ce,a,t,_,l1,",",rfl,rfl,c9,λc l2 e hc=>?_,λc_ M'=>?_⟩
  .have ec:c=44:=DY.mp hc;subst ec;subst e;refine⟨a,t,_,l2,rfl,rfl,c9.next,λy l' hy e hw=>?_,λj hj M'=>?_⟩
   .subst e;refine⟨by simp,hR x y l' i6 hy rfl λe r=>?_⟩;rw[n6 44 _,dM,hw e r]
   .rw[b7];refine hX j (λr=>?_) M';rw[n6 44 _,dM,hj]
  .rw[b7];refine hX _ (λr=>?_) M';rw[n6 44 _,dL λl' q=>c_ 44 l' q (by decide)]
abbrev iG(V:Bx):Prop:=V.D 1 "levelled" kZ zB
def CD(T:V.T "levelled" kY kZ):iG V:=by
 refine Tx.okDW T sc_levelled (λds R h=>?_) (λf cdv A outer s H E J hr=>⟨_,((ai (ju PassesOwn.never (bX (af (aa 1) ad) ad) (ai (am 2 sc_levelled.nd (wx (af (aa 0) ad) (af (aa 1) ad)))
    (ai (am 3 sc_levelled.nd (aR (ac (bA (af (aa 0) ad) (aE (aa 2) (af (aa 1) ad))) (ac (bA (af (aa 0) ad) (aE (aa 2) (af (aa 1) ad))) ae))))
    (ai (am 0 sc_levelled.nd (aa 1))
    (aq (am 1 sc_levelled.nd (aa 3)))))))
   (ai (dA (fb (af (aa 0) ad) ad) (aq (am 0 sc_levelled.nd (aR (ac (cw (af (aa 0) ad)) (ac (cw (af (aa 0) ad)) ae))))) aV)
   (aq (aA (aR (ac (aa 0) (ac (aa 1) ae)))))))),λds R h=>?_⟩)
 .obtain⟨a,b,c,d,rfl,_⟩:=h;rfl
 .obtain⟨a,b,c,d,rfl,hb,hd,hR⟩:=h;refine⟨λm z=>∃ (f0 f1 s0 s1:Int) (t r:Option D),z=[be (.tup [.int f0,.int f1]),be (.tup [.int s0,.int s1]),t,r]/\Uni a b c d f0 f1 s0 s1/\f1.natAbs<4611686018427387904/\s1.natAbs<4611686018427387904/\m=s1.natAbs,⟨_,a,b,c,d,q_,q_,rfl,Uni.refl a b c d,hb,hd,rfl⟩,?_⟩;rintro m z ⟨f0,f1,s0,s1,t,r,rfl,hu,hf,hs,rfl⟩;k_places;refine⟨_,rfl,ite2 (λcc=>?_) (λcc=>?_)⟩
  .have c':¬ s1=0:=by simpa using cc
   obtain⟨g1,g2⟩:=fdm f1 s1 c';refine⟨λd=>d= .int (f1.fdiv s1),⟨_,rfl,_,rfl,⟨c',hs⟩,rfl⟩,?_⟩;rintro _ rfl;k_places;refine⟨λd=>d= .tup [.int (f0 - f1.fdiv s1*s0),.int (f1 - f1.fdiv s1*s1)],⟨_,rfl,_,rfl,.inl ⟨by lia,by lia⟩,_,rfl,_,rfl,.inl ⟨by lia,by lia⟩,by simp,rfl⟩,?_⟩;rintro _ rfl;k_places;refine⟨λd=>d= .tup [.int s0,.int s1],rfl,?_⟩;rintro _ rfl;k_places;refine⟨λd=>d= .tup [.int (f0 - f1.fdiv s1*s0),.int (f1 - f1.fdiv s1*s1)],rfl,?_⟩;rintro _ rfl;k_places;exact⟨_,g1,s0,s1,_,_,_,_,rfl,hu.step _,hs,by lia,rfl⟩
  .have c':s1=0:=by simpa using cc
   subst c';refine⟨λz=>∃ p0 p1:Int,z=[be (.tup [.int p0,.int p1]),be (.tup [.int s0,.int 0]),t,r]/\Lev a b c d p0 p1 s0,⟨_,rfl,ite2 (λe=>?_) (λe=>?_)⟩,?_⟩
   .have e':=of_decide_eq_true e;refine⟨λd=>d= .tup [.int (-f0),.int (-f1)],⟨_,rfl,_,rfl,by simp,rfl⟩,?_⟩;rintro _ rfl;k_places;exact⟨_,_,rfl,by lia,hu.neg⟩
   .have e':=of_decide_eq_false (Fh.mpr e);exact⟨_,_,rfl,by lia,hu⟩
   .rintro _ ⟨p0,p1,rfl,hL⟩;k_places;exact⟨by simp,hR p0 p1 s0 hL⟩
abbrev iH(V:Bx):Prop:=V.D 2 "spread" ll zC
def CF(T:V.T "spread" lf ll)(HH:V.m "abs")(H9:iG V):iH V:=by
 refine Tx.okDW T sc_spread (λds R h=>?_) (λf cdv A outer s H E J hr=>⟨_,((ai (bn (bH (aE (af (aa 0) ad) (af (aa 1) ad)) (aE (af (aa 0) ad) (af (aa 1) ad))) (aq (aA eZ)) aV)
   (ai (am 2 sc_spread.nd (ax H9 hr (ac (aa 0) (ac (aa 1) ae))))
   (ai (am 3 sc_spread.nd (jq HH (ac (af (af (aa 2) ad) ad) ae)))
   (aq (aA (aR (ac (aa 3) (ac (af (af (aa 2) ad) ad) (ac (aG (af (af (aa 2) ad) ad) (aa 3)) ae)))))))))),λds R h=>?_⟩)
 .obtain⟨a,b,c,d,rfl,_⟩:=h;rfl
 .obtain⟨a,b,c,d,rfl,ha,hb,hc,hd,hN,hR⟩:=h;refine⟨_,rfl,_,rfl,.inl ⟨by lia,by lia⟩,_,rfl,_,rfl,.inl ⟨by lia,by lia⟩,ite2 (λe=>?_) (λe=>?_)⟩
  .exact hN (of_decide_eq_true e)
  .have e':=of_decide_eq_false (Fh.mpr e);refine⟨λx=>∃ p0 p1 q0:Int,x= .tup [.tup [.int p0,.int p1],.tup [.int q0,.int 0]]/\Lev a b c d p0 p1 q0,⟨a,b,c,d,rfl,hb,hd,λp0 p1 q0 hL=>⟨p0,p1,q0,rfl,hL⟩⟩,?_⟩;rintro _ ⟨p0,p1,q0,rfl,hL⟩;k_places;have hF:=gB e' hL;refine⟨λx=>x= .int (if q0<0 then -q0 else q0),⟨_,rfl,_,rfl,rfl⟩,?_⟩;rintro _ rfl;k_places;exact⟨_,rfl,_,rfl,_,rfl,_,rfl,hF.1,by simp,hR e' _ _ _ hF⟩
abbrev eN(V:Bx):Prop:=V.D 1 "home" lp zA
def CG(T:V.T "home" lm lp):eN V:=by
 refine Tx.okDW T sc_home (λds R h=>?_) (λf cdv A outer s H E J hr=>⟨_,((ai (am 3 sc_home.nd (af (aa 0) ad))
   (ai (am 4 sc_home.nd (af (aa 0) ad))
   (ai (am 5 sc_home.nd (af (aa 0) ad))
   (aq (aA (aR (ac (aG (bA (aa 1) (aE (bv (aa 2) (aa 4)) (aa 5))) (aa 3)) (ac (aG (aa 2) (aa 4)) ae))))))))),λds R h=>?_⟩)
 .obtain⟨w,h,s,x,y,rfl,_⟩:=h;rfl
 .obtain⟨w,h,s,x,y,rfl,hw,hh,G',hs,j_,hR⟩:=h;refine⟨λd=>d= .int w,⟨_,rfl,rfl⟩,?_⟩;rintro _ rfl;k_places;refine⟨λd=>d= .int h,⟨_,rfl,rfl⟩,?_⟩;rintro _ rfl;k_places;refine⟨λd=>d= .int s,⟨_,rfl,rfl⟩,?_⟩;rintro _ rfl;k_places;exact⟨⟨hh,G'⟩,.inr ⟨by lia,by lia⟩,hw,hh,by simp,hR⟩
abbrev nF(V:Bx):Prop:=V.MM 2 "hues_by_home" lu AD
def CH(T:V.T "hues_by_home" lr lu)(HI:V.m "enumerate")(uV:eN V)(uY:V.gs "SIGNS" ".123456"):nF V:=by
 refine Tx.okM T sc_hues_by_home (λds M R RX h=>?_) (λf cdv A outer s H E J hr hx=>⟨_,((aB (bb 2 sc_hues_by_home.nd yR)
   (aB (yF PassesOwn.leaving rfl HI (aj (aa 0)) (dg_cons 3 sc_hues_by_home.nd (dg_cons 4 sc_hues_by_home.nd fZ)) (aF (yG PassesOwn.leaving rfl HI (aj (aa 4)) (dg_cons 5 sc_hues_by_home.nd (dg_cons 6 sc_hues_by_home.nd fZ)) (aF (qE (cn (bX (aa 6) aw)) (aF (cz (yU (ji hr) (aj (aa 2)) (aD (ac (ax uV hr (ac (aa 1) (ac (aa 5) (ac (aa 3) ae)))) (ac (xM (gm uY) (ac (aa 6) ae)) ae)))))) bZ)))))
   (qF 2 (aF (aO (aj (aa 2)))))))),λds M R RX b7 h=>?_⟩)
 .obtain⟨_,_,_,_,_,rfl,_⟩:=h;rfl
 .obtain⟨L,wd,w,h,s,rfl,hL,hw,hh,G',hs,j_,hR⟩:=h;have Ob:=hL.w8;refine⟨λd M'=>∃ p,p ∉ az M/\d= .ptr p/\M'=(p,.dti [])::M,λp hp=>⟨p,hp,rfl,rfl⟩,?_⟩;rintro _ _ ⟨p,hp,rfl,rfl⟩;k_places;refine⟨λj z M'=>∃ (kv:List ((Int × Int) × Int)) (x3 x4 x5 x6:Option D),hAll w h s j (L.drop j) kv=hAll w h s 0 L []/\kv.length<=8*j/\z=[be (.lst (lstD L)),be (.tup [.int w,.int h,.int s]),be (.ptr p),x3,x4,x5,x6]/\M'=(p,.dti kv)::M,⟨[],q_,q_,q_,q_,rfl,by simp,rfl,rfl⟩,?_,?_⟩
  .rintro j d z M' hd ⟨kv,x3,x4,x5,x6,e1,Og,rfl,rfl⟩;k_places;obtain⟨x,i6,rfl⟩:=AB hd;have hj:j<L.length:=(Ec.mp i6).1;have O3:=hL.many;obtain⟨xl,xs⟩:=hL.each x (FV i6);rw[rN i6] at e1;refine⟨AA xs,λi z M'=>∃ (D_:List ((Int × Int) × Int)) (x5 x6:Option D),hRow w h s j i (x.drop i) D_=hRow w h s j 0 x kv/\D_.length<=8*j+i/\i<=x.length/\z=[be (.lst (lstD L)),be (.tup [.int w,.int h,.int s]),be (.ptr p),be (.int j),be (.str ⟨x.toArray⟩),x5,x6]/\M'=(p,.dti D_)::M,⟨kv,x5,x6,rfl,by lia,Ej _,rfl,rfl⟩,?_,?_⟩
   .rintro i d z M' HM ⟨D_,y5,y6,e2,Ls,hi,rfl,rfl⟩;k_places;obtain⟨c,hc,rfl⟩:=AC HM;have H4:i<x.length:=(Ec.mp hc).1;have sc:=xs c (FV hc);rw[rN hc,hRow] at e2;refine⟨λz M'=>∃ Jg:List ((Int × Int) × Int),hRow w h s j (i+1) (x.drop (i+1)) Jg=hRow w h s j 0 x kv/\Jg.length<=8*j+(i+1)/\z=[be (.lst (lstD L)),be (.tup [.int w,.int h,.int s]),be (.ptr p),be (.int j),be (.str ⟨x.toArray⟩),be (.int i),be (.str ⟨#[c]⟩)]/\M'=(p,.dti Jg)::M,?_,?_⟩
    .show if(!decide ((⟨#[c]⟩:x9)="."))=true then _ else _;by_cases k_:c=46
     .subst k_;rw[if_pos rfl] at e2;exact⟨D_,e2,by lia,rfl,rfl⟩
     .rw[if_neg k_] at e2;refine ifT (by simp[one_sign,k_]) ?_;have c6:49<=c/\c<=54:=by unfold aI at sc;lia
      obtain⟨ix,rest,ho,IK⟩:=Az c6;refine⟨⟨_,cP⟩,w,h,s,i,j,rfl,hw,hh,G',hs,j_,ix,rest,ho,_,cP,by have:=rM D_ (hmX w h s i j) ((j:Int) % h) ((c:Int) - 48);lia,λv=>?_⟩;rw[rJ,IK];exact⟨_,e2,by have:=rM D_ (hmX w h s i j) ((j:Int) % h) ((c:Int) - 48);lia,rfl,rfl⟩
    .rintro z M' ⟨Jg,e3,h3,rfl,rfl⟩;k_places;exact⟨Jg,_,_,e3,h3,H4,rfl,rfl⟩
   .rintro z M' hz;rw[qr,dN] at hz;obtain⟨D_,y5,y6,e2,Ls,hi,rfl,rfl⟩:=hz;rw[G3] at e2;refine⟨D_,_,_,_,_,?_,by lia,rfl,rfl⟩;rw[<- e1,hAll,<- e2];rfl
  .rintro z M' hz;rw[show(lstD L).length=L.length by simp[lstD]] at hz;obtain⟨kv,x3,x4,x5,x6,e1,Og,rfl,rfl⟩:=hz;rw[G3] at e1;refine⟨_,cP,?_⟩;rw[jU];have e2:kv=hAll w h s 0 L []:=e1;rw[<- e2] at hR;exact hR
abbrev nG(V:Bx):Prop:=V.M 3 "Motif" ly AE
def CI(T:V.Ti "Motif" "Motif.__init__" lv ly)(H_:iH V)(Lu:nF V)(Hc:V.a "Motif" "place")(uM:V.a "Motif" "shifts")(Hd:V.a "Motif" "hues"):nG V:=by
 refine Txi.okIM T Bv (λds R h=>?_) (λf cdv A outer s H E J hr hx=>⟨_,((aB (gA Hc (aj (aa 0)) (aj (aa 1)))
   (aB (gA uM (aj (aa 0)) (aj (ax H_ hr (ac (aa 3) (ac (aa 4) ae)))))
   (aF (gA Hd (aj (aa 0)) (fq (qz (aM uM (aj (aa 0))) (aj eZ)) yQ (aZ Lu hx hr (aS (aj (aa 2)) (aS (aM uM (aj (aa 0))) bq))))))))),λa ds R c_ h=>?_⟩)
 .obtain⟨_,_,_,_,_,_,_,rfl,_⟩:=h;rfl
 .obtain⟨k,L,wd,x,y,u,v,rfl,hL,i6,hy,hu,hv,h0,h1⟩:=h;unfold B12 at i6 hy hu hv;refine⟨_,cH,by show(0:Nat)<1000;decide,?_⟩;rw[eG,AF];refine⟨x,y,u,v,rfl,by lia,by lia,by lia,by lia,λe=>?_,λe w h s F=>?_⟩
  .refine⟨_,cH,by show(1:Nat)<1000;decide,?_⟩;rw[eG,rO];refine⟨_,cH,_,jV,?_⟩;refine⟨_,cH,by show(2:Nat)<1000;decide,?_⟩;rw[eG,rP];exact⟨_,rfl,h0 e⟩
  .refine⟨_,cH,by show(1:Nat)<1000;decide,?_⟩;rw[eG,rO];refine⟨_,cH,_,jV,?_⟩;obtain⟨b1,b2,b3⟩:=F.bd (N:=288) (by
    have m1:=ca (a:=x) (d:=v) (A:=12) (B:=12) (by lia) (by lia);have m2:=ca (a:=y) (d:=u) (A:=12) (B:=12) (by lia) (by lia);lia)
   refine⟨_,cH,_,jV,L,wd,w,h,s,rfl,hL,F.1,F.2.1,by lia,F.2.2.1,by lia,?_⟩;refine⟨_,cH,by show(2:Nat)<1000;decide,?_⟩;rw[eG,rP];exact⟨_,rfl,h1 e w h s F⟩
abbrev iI(V:Bx):Prop:=V.MM 6 "motif_from" lC AM
def CJ(T:V.T "motif_from" lz lC)(Lv:nD V)(uZ:fE V)(uE:V.a "Reading" "place")(Lw:nG V)(uC:cJ V):iI V:=by
  refine Tx.okM T sc_motif_from (λds M R RX h=>?_) (λf cdv A outer s H E J hr hx=>⟨_,((aB (bb 1 sc_motif_from.nd (aM uE (aj (aa 0))))
      (aB (cz (aY (CalMth.one uC) hx hr (aj (aa 0)) (aD (ac aw ae))))
      (aB (bb 2 sc_motif_from.nd (aZ Lv hx hr (aD (ac (aa 0) ae))))
      (aB (cz (aY (CalMth.one uC) hx hr (aj (aa 0)) (aD (ac aw ae))))
      (aB (bb 3 sc_motif_from.nd (aZ uZ hx hr (aD (ac (aa 0) ae))))
      (aB (cz (aY (CalMth.one uC) hx hr (aj (aa 0)) (aD (ac aw ae))))
      (aB (bb 4 sc_motif_from.nd (aZ uZ hx hr (aD (ac (aa 0) ae))))
      (aB (cz (aY (CalMth.one uC) hx hr (aj (aa 0)) (aD (ac aw ae))))
      (aF (aO (aj (jC Lw hr (ac (aa 1) (ac (aa 2) (ac (aa 3) (ac (aa 4) ae))))))))))))))))),λds M R RX b7 h=>?_⟩)
  . obtain⟨_,_,_,_,rfl,_⟩:=h;rfl
  . obtain⟨a,t,k,l,rfl,rfl,d4,hR,hX⟩:=h;refine⟨λd M'=>d= .int k/\M'=RdM a t k,⟨_,aP,_,db,rfl,rfl⟩,?_⟩;rintro _ _ ⟨rfl,rfl⟩;k_places;refine⟨_,DY.mpr rfl,_,aP,ce,a,t,_,l,"[",rfl,rfl,d4,λc l1 e hc=>?_,λc_ M'=>?_⟩
    . have ec:c=91:=DY.mp hc;subst ec;subst e;have hb:∀ r,walk (.pat 5::r) (91::l1) k=walk (motW r) l1 (k+1):=λr=>aH (by rw[bO];rfl);refine⟨λd M'=>∃ (L:List (List Nat)) (w:Nat) (l2:List Nat),RowsL L w/\l1=rowsL L++l2/\(∀ r,walk (.lin 0 0 0::r) l1 (k+1)=walk (.sign 59::r) l2 (k+1+(rowsL L).length))/\d= .lst (lstD L)/\M'=RdM a t (k+1+(rowsL L).length),⟨a,t,_,l1,rfl,rfl,d4.next,λL w l' h1 h2 h3=>⟨L,w,l',h1,h2,h3,rfl,rfl⟩,λj hj M'=>?_⟩,?_⟩
      . rw[b7];exact hX j (λr=>by rw[hb];exact hj _) M'
      rintro _ _ ⟨L,w,l2,hL,rfl,u8,rfl,rfl⟩;k_places;have l8:=d4.next.app;have IZ:∀ r,walk (.pat 5::r) (91::(rowsL L++l2)) k=walk (.sign 59:: .num:: .sign 44:: .num:: .sign 59:: .num:: .sign 44:: .num:: .sign 93::r) l2 (k+1+(rowsL L).length):=λr=>by rw[hb];exact u8 _
      refine⟨_,DY.mpr rfl,_,aP,ce,a,t,_,l2,";",rfl,rfl,l8,λc l3 e hc=>?_,λc_ M'=>?_⟩
      . have ec:c=59:=DY.mp hc;subst ec;subst e;have E_:=l8.next;have Lx:∀ r,walk (.pat 5::r) (91::(rowsL L++59::l3)) k=walk (.num:: .sign 44:: .num:: .sign 59:: .num:: .sign 44:: .num:: .sign 93::r) l3 (k+1+(rowsL L).length+1):=λr=>by rw[IZ,dM]
        refine⟨λd M'=>∃ x y l4,B12 x/\B12 y/\l3=numL x++44::(numL y++l4)/\(∀ e r,walk (.num:: .sign 44:: .num:: .sign e::r) l3 (k+1+(rowsL L).length+1)=walk (.sign e::r) l4 (k+1+(rowsL L).length+1+(numL x).length+1+(numL y).length))/\d= .tup [.int x,.int y]/\M'=RdM a t (k+1+(rowsL L).length+1+(numL x).length+1+(numL y).length),⟨a,t,_,l3,rfl,rfl,E_,λx y l' h1 h2 h3 h4=>⟨x,y,l',h1,h2,h3,h4,rfl,rfl⟩,λj hj M'=>?_⟩,?_⟩
        . rw[b7];exact hX j (λr=>by rw[Lx];exact hj _) M'
        rintro _ _ ⟨x,y,l4,i6,hy,rfl,MH,rfl,rfl⟩;k_places;have Jh:At t (k+1+(rowsL L).length+1+(numL x).length+1+(numL y).length) l4:=E_.app.next.app;refine⟨_,DY.mpr rfl,_,aP,ce,a,t,_,l4,";",rfl,rfl,Jh,λc l5 e hc=>?_,λc_ M'=>?_⟩
        . have ec:c=59:=DY.mp hc;subst ec;subst e;have Ji:=Jh.next;have MI:∀ r,walk (.pat 5::r) (91::(rowsL L++59::(numL x++44::(numL y++59::l5)))) k=walk (.num:: .sign 44:: .num:: .sign 93::r) l5 (k+1+(rowsL L).length+1+(numL x).length+1+(numL y).length+1):=λr=>by rw[Lx,MH,dM]
          refine⟨λd M'=>∃ u v l6,B12 u/\B12 v/\l5=numL u++44::(numL v++l6)/\(∀ e r,walk (.num:: .sign 44:: .num:: .sign e::r) l5 (k+1+(rowsL L).length+1+(numL x).length+1+(numL y).length+1)=walk (.sign e::r) l6 (k+1+(rowsL L).length+1+(numL x).length+1+(numL y).length+1+(numL u).length+1+(numL v).length))/\d= .tup [.int u,.int v]/\M'=RdM a t (k+1+(rowsL L).length+1+(numL x).length+1+(numL y).length+1+(numL u).length+1+(numL v).length),⟨a,t,_,l5,rfl,rfl,Ji,λx y l' h1 h2 h3 h4=>⟨x,y,l',h1,h2,h3,h4,rfl,rfl⟩,λj hj M'=>?_⟩,?_⟩
          . rw[b7];exact hX j (λr=>by rw[MI];exact hj _) M'
          rintro _ _ ⟨u,v,l6,hu,hv,rfl,MJ,rfl,rfl⟩;k_places;have Ly:At t (k+1+(rowsL L).length+1+(numL x).length+1+(numL y).length+1+(numL u).length+1+(numL v).length) l6:=Ji.app.next.app;refine⟨_,DY.mpr rfl,_,aP,ce,a,t,_,l6,"]",rfl,rfl,Ly,λc l7 e hc=>?_,λc_ M'=>?_⟩
          . have ec:c=93:=DY.mp hc;subst ec;subst e;obtain⟨Oh,MK⟩:=AL hL;have ML:(Pat.mot (L.map λx=>(⟨x.toArray⟩:x9)) x y u v).tl=motL L x y u v:=by rw[Pat.tl,MK]
            have Jj:∀ w,FormOf (Pat.mot (L.map λx=>(⟨x.toArray⟩:x9)) x y u v) k w->R w (RdM a t (k+1+(rowsL L).length+1+(numL x).length+1+(numL y).length+1+(numL u).length+1+(numL v).length+1)):=λw hw=>by
              have:=hR (Pat.mot (L.map λx=>(⟨x.toArray⟩:x9)) x y u v) l7 ⟨Oh,i6,hy,hu,hv⟩ rfl (by rw[ML];simp[motL]) w hw;rw[ML] at this;have e:k+(motL L x y u v).length=k+1+(rowsL L).length+1+(numL x).length+1+(numL y).length+1+(numL u).length+1+(numL v).length+1:=by
                simp[motL];lia
              rw[e] at this;exact this
            refine⟨k,L,w,x,y,u,v,rfl,hL,i6,hy,hu,hv,λe=>?_,λe w h s F=>?_⟩
            . exact Jj _ ⟨.non,[],rfl,λ_=>rfl,λz=>absurd e z⟩
            . exact Jj _ ⟨_,_,rfl,λz=>absurd z e,λ_=>⟨w,h,s,F,rfl,by rw[MK]⟩⟩
          . rw[b7];refine hX _ (λr=>?_) M';rw[MI,MJ,dL λl' q=>c_ 93 l' q (by decide)]
        . rw[b7];refine hX _ (λr=>?_) M';rw[Lx,MH,dL λl' q=>c_ 59 l' q (by decide)]
      . rw[b7];refine hX _ (λr=>?_) M';rw[IZ,dL λl' q=>c_ 59 l' q (by decide)]
    . rw[b7];refine hX _ (λr=>?_) M';refine walk_bad (λz=>nomatch z) λc l' q=>?_;rw[bO];unfold bN;have:¬ c=91:=λz=>c_ c l' q (by rw[z];decide);rw[if_neg this,if_pos rfl]
abbrev iJ(V:Bx):Prop:=V.M 1 "Mirror" lF AI
def CK(T:V.Ti "Mirror" "Mirror.__init__" lD lF)(uQ:V.a "Mirror" "form"):iJ V:=by
 refine Txi.okI T Bw (λds R h=>?_) (λf cdv A outer s H E J hr=>⟨_,((bJ uQ (aa 1) dB)),λds R h=>?_⟩)
 .obtain⟨_,_,rfl,_⟩:=h;rfl
 .obtain⟨x,fs,rfl,hR⟩:=h;exact⟨by decide,hR⟩
abbrev iK(V:Bx):Prop:=V.M 1 "Turn" lH AJ
def CL(T:V.Ti "Turn" "Turn.__init__" lG lH)(uO:V.a "Turn" "form"):iK V:=by
 refine Txi.okI T By (λds R h=>?_) (λf cdv A outer s H E J hr=>⟨_,((bJ uO (aa 1) dB)),λds R h=>?_⟩)
 .obtain⟨_,_,rfl,_⟩:=h;rfl
 .obtain⟨x,fs,rfl,hR⟩:=h;exact⟨by decide,hR⟩
abbrev iL(V:Bx):Prop:=V.M 1 "Over" lK AG
def CM(T:V.Ti "Over" "Over.__init__" lJ lK)(uP:V.a "Over" "above")(uS:V.a "Over" "below"):iL V:=by
 refine Txi.okI T Bz (λds R h=>?_) (λf cdv A outer s H E J hr=>⟨_,((bJ uP (aa 1) (bJ uS (aa 2) dB))),λds R h=>?_⟩)
 .obtain⟨_,_,_,_,rfl,_⟩:=h;rfl
 .obtain⟨x,y,fs,gs,rfl,hR⟩:=h;refine⟨by decide,by show(1:Nat)<1000;decide,?_⟩;show R (putD _ _ (putD _ _ []));rw[putD,putD,if_neg (by decide+kernel)];exact hR
abbrev iM(V:Bx):Prop:=V.M 1 "Shifted" lM AH
def CN(T:V.Ti "Shifted" "Shifted.__init__" lL lM)(uT:V.a "Shifted" "form")(Hf:V.a "Shifted" "x")(Hg:V.a "Shifted" "y"):iM V:=by
 refine Txi.okI T BA (λds R h=>?_) (λf cdv A outer s H E J hr=>⟨_,((bJ uT (aa 1) (bJ Hf (aa 2) (bJ Hg (aa 3) dB)))),λds R h=>?_⟩)
 .obtain⟨_,_,_,_,rfl,_⟩:=h;rfl
 .obtain⟨x,fs,a,b,rfl,hR⟩:=h;refine⟨by decide,by show(1:Nat)<1000;decide,by show(2:Nat)<1000;decide,?_⟩;show R (putD _ _ (putD _ _ (putD _ _ [])));rw[show putD ("x":x9) (.int a) (putD ("form":x9) (.obj x fs) [])=([("form",.obj x fs),("x",.int a)]:List (x9 × D)) by rw[putD,putD,if_neg (by decide+kernel)];rfl,putD,if_neg (by decide+kernel),putD,if_neg (by decide+kernel)];exact hR
abbrev iN(V:Bx):Prop:=V.M 1 "Rehue" lP AK
def CO(T:V.Ti "Rehue" "Rehue.__init__" lN lP)(uR:V.a "Rehue" "form")(Hh:V.a "Rehue" "old")(Hi:V.a "Rehue" "new"):iN V:=by
 refine Txi.okI T BB (λds R h=>?_) (λf cdv A outer s H E J hr=>⟨_,((bJ uR (aa 1) (bJ Hh (aa 2) (bJ Hi (aa 3) dB)))),λds R h=>?_⟩)
 .obtain⟨_,_,_,_,rfl,_⟩:=h;rfl
 .obtain⟨x,fs,a,b,rfl,hR⟩:=h;refine⟨by decide,by show(1:Nat)<1000;decide,by show(2:Nat)<1000;decide,?_⟩;show R (putD _ _ (putD _ _ (putD _ _ [])));rw[show putD ("old":x9) (.int a) (putD ("form":x9) (.obj x fs) [])=([("form",.obj x fs),("old",.int a)]:List (x9 × D)) by rw[putD,putD,if_neg (by decide+kernel)];rfl,putD,if_neg (by decide+kernel),putD,if_neg (by decide+kernel)];exact hR
variable{n j:Nat}
def CP(hL:6<=n)(T:V.T "over_from" gK fB)(uH:V.MM n "form_from" cI (dg j))(Jk:iL V)(uC:cJ V):V.MM (n+1) "over_from" fB (rR j):=by
 refine Tx.okM T sc_over_from (λds M R RX h=>?_) (λf cdv A outer s H E J hr hx=>⟨_,((aB (bb 2 sc_over_from.nd (aZ (hn:=by omega) uH hx hr (aD (ac (aa 0) (ac (aa 1) ae)))))
   (aB (cz (aY (hn:=by omega) (CalMth.one uC) hx hr (aj (aa 0)) (aD (ac aw ae))))
   (aB (bb 3 sc_over_from.nd (aZ (hn:=by omega) uH hx hr (aD (ac (aa 0) (ac (aa 1) ae)))))
   (aB (cz (aY (hn:=by omega) (CalMth.one uC) hx hr (aj (aa 0)) (aD (ac aw ae))))
   (aF (aO (aj (jC (hn:=by omega) Jk hr (ac (aa 2) (ac (aa 3) ae))))))))))),λds M R RX b7 h=>?_⟩)
 .obtain⟨_,_,_,_,_,rfl,_⟩:=h;rfl
 .obtain⟨a,t,k,l,d,rfl,rfl,d4,HJ,HK,hR,hX⟩:=h;refine⟨λv M'=>∃ p l1,p.Syn/\p.depth+d<=5/\l=p.tl++l1/\FormOf p k v/\M'=RdM a t (k+p.tl.length),⟨a,t,k,l,d,rfl,rfl,d4,HJ,HK,λp l' h1 h2 h3 v h4=>⟨p,l',h1,h2,h3,h4,rfl⟩,λi hi M'=>?_⟩,?_⟩
  .rw[b7];exact hX i (λr=>hi _) M'
  rintro v _ ⟨p,l1,hp,Lz,rfl,hv,rfl⟩;k_places;obtain⟨fs,rfl⟩:=hv.obj;have c9:=d4.app;have n6:∀ r,walk (.pat d:: .sign 124:: .pat d:: .sign 41::r) (p.tl++l1) k=walk (.sign 124:: .pat d:: .sign 41::r) l1 (k+p.tl.length):=λr=>cG hp d _ l1 k Lz;refine⟨_,DY.mpr rfl,_,aP,ce,a,t,_,l1,"|",rfl,rfl,c9,λc l2 e hc=>?_,λc_ M'=>?_⟩
  .have ec:c=124:=DY.mp hc;subst ec;subst e;refine⟨λv M'=>∃ q l3,q.Syn/\q.depth+d<=5/\l2=q.tl++l3/\FormOf q (k+p.tl.length+1) v/\M'=RdM a t (k+p.tl.length+1+q.tl.length),⟨a,t,_,l2,d,rfl,rfl,c9.next,HJ,HK,λp l' h1 h2 h3 v h4=>⟨p,l',h1,h2,h3,h4,rfl⟩,λi hi M'=>?_⟩,?_⟩
   .rw[b7];exact hX i (λr=>by rw[n6,dM];exact hi _) M'
   rintro v _ ⟨q,l3,hq,MN,rfl,MP,rfl⟩;k_places;obtain⟨gs,rfl⟩:=MP.obj;have E_:=c9.next.app;have Oi:∀ r,walk (.pat d:: .sign 124:: .pat d:: .sign 41::r) (p.tl++124::(q.tl++l3)) k=walk (.sign 41::r) l3 (k+p.tl.length+1+q.tl.length):=λr=>by rw[n6,dM,cG hq d _ l3 _ MN]
   refine⟨_,DY.mpr rfl,_,aP,ce,a,t,_,l3,")",rfl,rfl,E_,λc l4 e hc=>?_,λc_ M'=>?_⟩
   .have ec:c=41:=DY.mp hc;subst ec;subst e;exact⟨_,_,_,_,rfl,hR p q l4 hp hq Lz MN rfl _ _ hv MP⟩
   .rw[b7];refine hX _ (λr=>?_) M';rw[Oi,dL λl' q=>c_ 41 l' q (by decide)]
  .rw[b7];refine hX _ (λr=>?_) M';rw[n6,dL λl' q=>c_ 124 l' q (by decide)]
def CQ(hL:6<=n)(T:V.T "shifted_from" gL fC)(uZ:fE V)(uH:V.MM n "form_from" cI (dg j))(Jl:iM V)(uC:cJ V):V.MM (n+1) "shifted_from" fC (rS j):=by
 refine Tx.okM T sc_shifted_from (λds M R RX h=>?_) (λf cdv A outer s H E J hr hx=>⟨_,((aB (bb 2 sc_shifted_from.nd (aZ (hn:=by omega) uZ hx hr (aD (ac (aa 0) ae))))
   (aB (cz (aY (hn:=by omega) (CalMth.one uC) hx hr (aj (aa 0)) (aD (ac aw ae))))
   (aF (aO (gy (hn:=by omega) Jl hr (aS (aZ (hn:=by omega) uH hx hr (aD (ac (aa 0) (ac (aa 1) ae)))) (aS (aj (af (aa 2) ad)) (aS (aj (af (aa 2) ad)) bq))))))))),λds M R RX b7 h=>?_⟩)
 .obtain⟨_,_,_,_,_,rfl,_⟩:=h;rfl
 .obtain⟨a,t,k,l,d,rfl,rfl,d4,HJ,HK,hR,hX⟩:=h;refine⟨λv M'=>∃ x y l1,B12 x/\B12 y/\l=numL x++44::(numL y++l1)/\(∀ e r,walk (.num:: .sign 44:: .num:: .sign e::r) l k=walk (.sign e::r) l1 (k+(numL x).length+1+(numL y).length))/\v= .tup [.int x,.int y]/\M'=RdM a t (k+(numL x).length+1+(numL y).length),⟨a,t,_,l,rfl,rfl,d4,λx y l' h1 h2 h3 h4=>⟨x,y,l',h1,h2,h3,h4,rfl,rfl⟩,λi hi M'=>?_⟩,?_⟩
  .rw[b7];exact hX i (λr=>hi _) M'
  rintro _ _ ⟨x,y,l1,i6,hy,rfl,n6,rfl,rfl⟩;k_places;have c9:At t (k+(numL x).length+1+(numL y).length) l1:=d4.app.next.app;refine⟨_,DY.mpr rfl,_,aP,ce,a,t,_,l1,":",rfl,rfl,c9,λc l2 e hc=>?_,λc_ M'=>?_⟩
  .have ec:c=58:=DY.mp hc;subst ec;subst e;refine⟨a,t,_,l2,d,rfl,rfl,c9.next,HJ,HK,λp l' h1 h2 h3 v h4=>?_,λi hi M'=>?_⟩
   .obtain⟨fs,rfl⟩:=h4.obj;subst h3;exact⟨_,rfl,_,rfl,_,_,_,_,rfl,hR x y p l' i6 hy h1 h2 rfl _ h4⟩
   .rw[b7];refine hX i (λr=>?_) M';rw[n6,dM];exact hi _
  .rw[b7];refine hX _ (λr=>?_) M';rw[n6,dL λl' q=>c_ 58 l' q (by decide)]
def CS(hL:6<=n)(T:V.T "rehue_from" gM fD)(uL:V.m "int")(uH:V.MM n "form_from" cI (dg j))(Jn:iN V)(uC:cJ V):V.MM (n+1) "rehue_from" fD (rT j):=by
 refine Tx.okM T sc_rehue_from (λds M R RX h=>?_) (λf cdv A outer s H E J hr hx=>⟨_,((aB (bb 2 sc_rehue_from.nd (qB uL (aS (aY (hn:=by omega) (CalMth.one uC) hx hr (aj (aa 0)) (aD (ac aw ae))) bq)))
   (aB (bb 3 sc_rehue_from.nd (qB uL (aS (aY (hn:=by omega) (CalMth.one uC) hx hr (aj (aa 0)) (aD (ac aw ae))) bq)))
   (aF (aO (gy (hn:=by omega) Jn hr (aS (aZ (hn:=by omega) uH hx hr (aD (ac (aa 0) (ac (aa 1) ae)))) (aS (aj (aa 2)) (aS (aj (aa 3)) bq))))))))),λds M R RX b7 h=>?_⟩)
 .obtain⟨_,_,_,_,_,rfl,_⟩:=h;rfl
 .obtain⟨a,t,k,l,d,rfl,rfl,d4,HJ,HK,hR,hX⟩:=h;refine⟨λv M'=>∃ c l1,(49<=c/\c<=54)/\l=c::l1/\v= .int ((c:Int) - 48)/\M'=RdM a t (k+1),⟨_,DY.mpr rfl,_,aP,ce,a,t,_,l,"123456",rfl,rfl,d4,λc l1 e hc=>?_,λc_ M'=>?_⟩,?_⟩
  .exact⟨_,⟨digit_of (hue_dig.mp hc),by show(1:Nat)<=640;decide⟩,c,l1,hue_dig.mp hc,e,rfl,rfl⟩
  .rw[b7];exact hX _ (λr=>rQ c_) M'
  rintro _ _ ⟨c,l1,hc,rfl,rfl,rfl⟩;k_places;refine⟨λv M'=>∃ e l2,(49<=e/\e<=54)/\l1=e::l2/\v= .int ((e:Int) - 48)/\M'=RdM a t (k+2),⟨_,DY.mpr rfl,_,aP,ce,a,t,_,l1,"123456",rfl,rfl,d4.next,λc l1 e hc=>?_,λc_ M'=>?_⟩,?_⟩
  .exact⟨_,⟨digit_of (hue_dig.mp hc),by show(1:Nat)<=640;decide⟩,c,l1,hue_dig.mp hc,e,rfl,rfl⟩
  .rw[b7];exact hX _ (λr=>by rw[jW hc,rQ c_]) M'
  rintro _ _ ⟨e,l2,he,rfl,rfl,rfl⟩;k_places;refine⟨a,t,_,l2,d,rfl,rfl,d4.next.next,HJ,HK,λp l' h1 h2 h3 v h4=>?_,λi hi M'=>?_⟩
  .obtain⟨fs,rfl⟩:=h4.obj;subst h3;exact⟨_,_,_,_,rfl,hR c e p l' hc he h1 h2 rfl _ h4⟩
  .rw[b7];refine hX i (λr=>?_) M';rw[jW hc,jW he];exact hi _
def CT(hL:6<=n)(T:V.T "form_from" gN cI)(Oj:V.MM n "over_from" fB (rR j))(Ol:V.MM n "shifted_from" fC (rS j))(uH:V.MM n "form_from" cI (dg j))(Om:V.MM n "rehue_from" fD (rT j))(Jo:iI V)(Jp:V.gi "DEEP" 5)(Jq:iJ V)(Jr:iK V)(uG:dm V):V.MM (n+1) "form_from" cI (dg (j+1)):=by
 refine Tx.okM T sc_form_from (λds M R RX h=>?_) (λf cdv A outer s H E J hr hx=>⟨_,((aB (bb 2 sc_form_from.nd (fq (cn (fb (aa 1) (fk Jp))) (aY (hn:=by omega) (CalMth.one uG) hx hr (aj (aa 0)) (aD (ac aw ae))) (aj aw)))
   (aB (cq (cn (bH (aa 2) aw)) (aF (aO (aZ (hn:=by omega) Oj hx hr (aD (ac (aa 0) (ac (ao (aa 1) ad) ae)))))) bZ)
   (aB (cq (cn (bH (aa 2) aw)) (aF (aO (aZ (hn:=by omega) Ol hx hr (aD (ac (aa 0) (ac (ao (aa 1) ad) ae)))))) bZ)
   (aB (cq (cn (bH (aa 2) aw)) (aF (aO (gy (hn:=by omega) Jq hr (aS (aZ (hn:=by omega) uH hx hr (aD (ac (aa 0) (ac (ao (aa 1) ad) ae)))) bq)))) bZ)
   (aB (cq (cn (bH (aa 2) aw)) (aF (aO (gy (hn:=by omega) Jr hr (aS (aZ (hn:=by omega) uH hx hr (aD (ac (aa 0) (ac (ao (aa 1) ad) ae)))) bq)))) bZ)
   (aB (cq (cn (bH (aa 2) aw)) (aF (aO (aZ (hn:=by omega) Om hx hr (aD (ac (aa 0) (ac (ao (aa 1) ad) ae)))))) bZ)
   (aF (aO (aZ (hn:=by omega) Jo hx hr (aD (ac (aa 0) ae)))))))))))),λds M R RX b7 h=>?_⟩)
 .obtain⟨_,_,_,_,_,rfl,_⟩:=h;rfl
 .obtain⟨a,t,k,l,d,rfl,rfl,d4,HJ,HK,hR,hX⟩:=h;have O4:d<=5:=by lia
  refine⟨λv M'=>(v= .str ""/\M'=RdM a t k/\(d=5\/∀ c l',l=c::l'->c ∉ cs "(smth"))\/(∃ c l',l=c::l'/\c∈cs "(smth"/\d<5/\v= .str ⟨#[c]⟩/\M'=RdM a t (k+1)),?_,?_⟩
  .show if decide ((d:Int)<5)=true then _ else _
   refine ite2 (λc=>?_) (λc=>?_)
   .have c':d<5:=by have:=of_decide_eq_true c;lia
    refine⟨_,DY.mpr rfl,_,aP,cO,a,t,_,l,"(smth",rfl,rfl,d4,?_⟩;by_cases h:∃ c l',l=c::l'/\c∈cs "(smth"
    .obtain⟨c,l',rfl,hc⟩:=h;rw[dI hc,dJ hc];exact .inr ⟨c,l',rfl,hc,c',rfl,rfl⟩
    .have c_:∀ c l',l=c::l'->c ∉ cs "(smth":=λc l' e hc=>h ⟨c,l',e,hc⟩;have hm:mayS "(smth" l=""/\mayN "(smth" l=0:=by
      cases l with
      |nil=>exact⟨rfl,rfl⟩
      |cons c l=>exact⟨de (c_ c l rfl),df (c_ c l rfl)⟩
     rw[hm.1,hm.2];exact .inl ⟨rfl,rfl,.inr c_⟩
   .have c':d=5:=by
     have:¬ ((d:Int)<5):=λz=>c (decide_eq_true z);lia
    exact .inl ⟨rfl,rfl,.inl c'⟩
  rintro _ _ (⟨rfl,rfl,c_⟩|⟨c,l1,rfl,hc,f6,rfl,rfl⟩);k_places
  .refine⟨a,t,k,l,rfl,rfl,d4,λp l' h1 h2 h3 v h4=>hR p l' h1 (by lia) h3 v h4,λi hi M'=>?_⟩;rw[b7];exact hX i (λr=>by rw[AN c_];exact hi r) M'
  have c9:=d4.next;have hj:1<=j:=by lia
  have On:cs "(smth"=[40,115,109,116,104]:=rfl;rw[On] at hc;simp only[D2,E1,or_false] at hc;have nd:¬ d=5:=by lia
  rcases hc with rfl|rfl|rfl|rfl|rfl
  .have hw:∀ r,walk (.pat d::r) (40::l1) k=walk (.pat (d+1):: .sign 124:: .pat (d+1):: .sign 41::r) l1 (k+1):=λr=>aH (by rw[bO];unfold bN;rw[if_neg (by decide),if_neg nd,if_pos rfl]);refine⟨a,t,k+1,l1,d+1,rfl,rfl,c9,by lia,hj,λp q l' h1 h2 h3 h4 h5 u u' h6 h7=>?_,λi hi M'=>?_⟩
   .have:=hR (.over p q) l' ⟨h1,h2⟩ (by rw[Pat.depth];lia) (by rw[h5,Pat.tl];simp) _ ⟨u,u',rfl,h6,h7⟩;have e:k+(Pat.over p q).tl.length=k+1+p.tl.length+1+q.tl.length+1:=by rw[Pat.tl];simp;lia
    rw[e] at this;exact this
   .rw[b7];exact hX i (λr=>by rw[hw];exact hi r) M'
  .have hw:∀ r,walk (.pat d::r) (115::l1) k=walk (.num:: .sign 44:: .num:: .sign 58:: .pat (d+1)::r) l1 (k+1):=λr=>aH (by rw[bO];unfold bN;rw[if_neg (by decide),if_neg nd,if_neg (by decide),if_pos rfl]);refine⟨a,t,k+1,l1,d+1,rfl,rfl,c9,by lia,hj,λx y p l' h1 h2 h3 h4 h5 u h6=>?_,λi hi M'=>?_⟩
   .have:=hR (.sh x y p) l' ⟨h1,h2,h3⟩ (by rw[Pat.depth];lia) (by rw[h5,Pat.tl];simp) _ ⟨u,rfl,h6⟩;have e:k+(Pat.sh x y p).tl.length=k+1+(numL x).length+1+(numL y).length+1+p.tl.length:=by rw[Pat.tl];simp;lia
    rw[e] at this;exact this
   .rw[b7];exact hX i (λr=>by rw[hw];exact hi r) M'
  .have hw:∀ r,walk (.pat d::r) (109::l1) k=walk (.pat (d+1)::r) l1 (k+1):=λr=>aH (by rw[bO];unfold bN;rw[if_neg (by decide),if_neg nd,if_neg (by decide),if_neg (by decide),if_neg (by decide),if_pos (.inl rfl)]);refine⟨a,t,k+1,l1,d+1,rfl,rfl,c9,by lia,hj,λp l' h1 h2 h3 v h4=>?_,λi hi M'=>?_⟩
   .obtain⟨fs,rfl⟩:=h4.obj;have:=hR (.mir p) l' h1 (by rw[Pat.depth];lia) (by rw[h3,Pat.tl];simp) _ ⟨_,rfl,h4⟩;have e:k+(Pat.mir p).tl.length=k+1+p.tl.length:=by rw[Pat.tl];simp;lia
    rw[e] at this;exact⟨_,_,rfl,this⟩
   .rw[b7];exact hX i (λr=>by rw[hw];exact hi r) M'
  .have hw:∀ r,walk (.pat d::r) (116::l1) k=walk (.pat (d+1)::r) l1 (k+1):=λr=>aH (by rw[bO];unfold bN;rw[if_neg (by decide),if_neg nd,if_neg (by decide),if_neg (by decide),if_neg (by decide),if_pos (.inr rfl)]);refine⟨a,t,k+1,l1,d+1,rfl,rfl,c9,by lia,hj,λp l' h1 h2 h3 v h4=>?_,λi hi M'=>?_⟩
   .obtain⟨fs,rfl⟩:=h4.obj;have:=hR (.tur p) l' h1 (by rw[Pat.depth];lia) (by rw[h3,Pat.tl];simp) _ ⟨_,rfl,h4⟩;have e:k+(Pat.tur p).tl.length=k+1+p.tl.length:=by rw[Pat.tl];simp;lia
    rw[e] at this;exact⟨_,_,rfl,this⟩
   .rw[b7];exact hX i (λr=>by rw[hw];exact hi r) M'
  .have hw:∀ r,walk (.pat d::r) (104::l1) k=walk (.hue:: .hue:: .pat (d+1)::r) l1 (k+1):=λr=>aH (by rw[bO];unfold bN;rw[if_neg (by decide),if_neg nd,if_neg (by decide),if_neg (by decide),if_pos rfl]);refine⟨a,t,k+1,l1,d+1,rfl,rfl,c9,by lia,hj,λc e p l' h1 h2 h3 h4 h5 u h6=>?_,λi hi M'=>?_⟩
   .have:=hR (.hue ((c:Int) - 48) ((e:Int) - 48) p) l' ⟨by lia,by lia,h3⟩ (by rw[Pat.depth];lia) (by rw[h5,Pat.tl,gG h1,gG h2];simp) _ ⟨u,rfl,h6⟩;have e:k+(Pat.hue ((c:Int) - 48) ((e:Int) - 48) p).tl.length=k+1+2+p.tl.length:=by rw[Pat.tl,gG h1,gG h2];simp;lia
    rw[e] at this;exact this
   .rw[b7];exact hX i (λr=>by rw[hw];exact hi r) M'
def CU(Oo:V.T "over_from" gK fB)(Op:V.T "shifted_from" gL fC)(Oq:V.T "rehue_from" gM fD)(MQ:V.T "form_from" gN cI)(Jk:iL V)(uC:cJ V)(uZ:fE V)(Jl:iM V)(uL:V.m "int")(Jn:iN V)(Jo:iI V)(Jp:V.gi "DEEP" 5)(Jq:iJ V)(Jr:iK V)(uG:dm V):∀ j,V.MM (6+2*j) "form_from" cI (dg j):=by
 intro j;induction j with
 |zero=>exact CalMM.never MQ (λds M R RX=>AO)
 |succ j ih=>
  have Js:=ih;have LA:=CP (n:=6+2*j) (j:=j) (by omega) Oo Js Jk uC;have LB:=CQ (n:=6+2*j) (j:=j) (by omega) Op uZ Js Jl uC;have LC:=CS (n:=6+2*j) (j:=j) (by omega) Oq uL Js Jn uC;have Js:=Cal.mono ih (EV _);exact CT (n:=6+2*j+1) (j:=j) (by omega) MQ LA LB Js LC Jo Jp Jq Jr uG
abbrev nH(V:Bx):Prop:=V.M 1 "Reading" lR Al
def CV(T:V.Ti "Reading" "Reading.__init__" lQ lR)(Hb:V.a "Reading" "text")(uE:V.a "Reading" "place"):nH V:=by
 refine Txi.okI T BC (λds R h=>?_) (λf cdv A outer s H E J hr=>⟨_,((bJ Hb (aa 1) (bJ uE ad dB))),λds R h=>?_⟩)
 .obtain⟨_,rfl,_⟩:=h;rfl
 .obtain⟨t,rfl,hR⟩:=h;refine⟨by decide,by show(1:Nat)<1000;decide,?_⟩;show R (putD _ _ (putD _ _ []));rw[putD,putD,if_neg (by decide+kernel)];exact hR
abbrev nK(V:Bx):Prop:=V.M 1 "Pattern" lV AY
def CW(T:V.Ti "Pattern" "Pattern.__init__" lU lV)(LD:V.a "Pattern" "text")(uN:V.a "Pattern" "shifts")(Ia:V.a "Pattern" "form"):nK V:=by
 refine Txi.okI T BD (λds R h=>?_) (λf cdv A outer s H E J hr=>⟨_,((bJ LD (aa 1) (bJ uN (aa 2) (bJ Ia (aa 3) dB)))),λds R h=>?_⟩)
 .obtain⟨_,_,_,_,_,_,rfl,_⟩:=h;rfl
 .obtain⟨t,w,h,s,x,fs,rfl,hR⟩:=h;refine⟨by decide,by show(1:Nat)<1000;decide,by show(2:Nat)<1000;decide,?_⟩;show R (putD _ _ (putD _ _ (putD _ _ [])));rw[show putD ("shifts":x9) (.tup [.int w,.int h,.int s]) (putD ("text":x9) (.str t) [])=([("text",.str t),("shifts",.tup [.int w,.int h,.int s])]:List (x9 × D)) by rw[putD,putD,if_neg (by decide+kernel)];rfl,putD,if_neg (by decide+kernel),putD,if_neg (by decide+kernel)];exact hR
abbrev iO(V:Bx):Prop:=V.E 1 "OneLine" lY A1
def CY(T:V.Te "OneLine" "OneLine.__init__" lW lY)(H8:V.b "MotifError")(uBA:V.ea "OneLine")(LF:V.xf "OneLine" "place"):iO V:=by
 refine Txe.okE T BE (λds R h=>?_) (λf cdv A outer s H E J hr=>⟨_,((ql H8 uBA (ac (aa 1) ae) (qm uBA LF (aa 1) qk))),λds R h=>?_⟩)
 .obtain⟨i,rfl,_⟩:=h;rfl
 .obtain⟨i,rfl,hR⟩:=h;exact⟨by show(1:Nat)<=1000;decide,rfl,hR⟩
abbrev nL(V:Bx):Prop:=V.D 2 "measure" ma zF
def CZ(T:V.T "measure" lZ ma)(H9:iG V):nL V:=by
 refine Tx.okDW T sc_measure (λds R h=>?_) (λf cdv A outer s H E J hr=>⟨_,((ai (am 2 sc_measure.nd (af (ax H9 hr (ac (aR (ac ad (ac (aa 0) ae))) (ac (aR (ac ad (ac (aa 1) ae))) ae))) ad))
   (aq (aA (aR (ac (af (aa 2) ad) (ac (af (aa 2) ad) ae))))))),λds R h=>?_⟩)
 .obtain⟨x,y,rfl,_⟩:=h;rfl
 .obtain⟨x,y,rfl,hx,hy,hR⟩:=h;refine⟨λd=>∃ p0 p1:Int,d= .tup [.int p0,.int p1]/\Meas x y p1 p0,⟨by simp,by simp,1,x,0,y,rfl,hx,hy,λp0 p1 q0 hL=>⟨_,rfl,p0,p1,rfl,qU ⟨hL.1,hL.2⟩⟩⟩,?_⟩;rintro _ ⟨p0,p1,rfl,hM⟩;k_places;exact⟨_,rfl,_,rfl,by simp,hR p1 p0 hM⟩
abbrev iP(V:Bx):Prop:=V.D 3 "met" mf zG
def C0(T:V.T "met" me mf)(Jt:nL V):iP V:=by
 refine Tx.okDW T sc_met (λds R h=>?_) (λf cdv A outer s H E J hr=>⟨_,((ai (am 2 sc_met.nd (ax Jt hr (ac (af (aa 0) ad) (ac (af (aa 1) ad) ae))))
   (ai (am 3 sc_met.nd (bv (aE (af (aa 0) ad) (af (aa 1) ad)) (af (aa 2) ad)))
   (ai (am 4 sc_met.nd (bv (aE (af (aa 0) ad) (af (aa 1) ad)) (af (ax Jt hr (ac (af (aa 0) ad) (ac (af (aa 1) ad) ae))) ad)))
   (ai (am 5 sc_met.nd (aE (bv (aa 4) (af (aa 0) ad)) (af (aa 0) ad)))
   (ai (am 6 sc_met.nd (bA (aE (bv (aa 4) (af (aa 1) ad)) (af (aa 1) ad)) (aa 5)))
   (ai (am 7 sc_met.nd (bv (af (aa 2) ad) (af (ax Jt hr (ac (af (aa 2) ad) (ac (aa 6) ae))) ad)))
   (ai (am 8 sc_met.nd (aE (bv (aE (aa 7) (aa 6)) (af (aa 2) ad)) (af (aa 2) ad)))
   (aq (aA (aR (ac (aa 3) (ac (aE (aa 4) (aa 7)) (ac (aG (ao (aE (aa 7) (aa 5)) (aE (aa 8) (af (aa 0) ad))) (aa 3)) ae)))))))))))))),λds R h=>?_⟩)
 .obtain⟨_,_,_,_,_,_,rfl,_⟩:=h;rfl
 .obtain⟨w1,h1,s1,w2,h2,s2,rfl,a1,a2,a3,a4,a5,a6,b1,b2,b3,b4,b5,b6,hR⟩:=h;refine⟨λd=>∃ g u:Int,d= .tup [.int g,.int u]/\Meas w1 w2 g u,⟨_,rfl,_,rfl,w1,w2,rfl,by omega,by omega,λg u M=>⟨g,u,rfl,M⟩⟩,?_⟩;rintro _ ⟨g,u,rfl,M1⟩;k_places;have hg:=M1.pos a1;have MU:=M1.le a1;refine⟨λd=>d= .int (w1*w2 / g),⟨_,rfl,_,rfl,.inl (b64B a1 a2),_,rfl,d30B hg (FS MU a2),rfl⟩,?_⟩;rintro _ rfl;k_places;refine⟨λd=>∃ k u':Int,d= .int (h1*h2 / k)/\Meas h1 h2 k u',⟨_,rfl,_,rfl,.inl (b64B a3 a4),_,rfl,_,rfl,h1,h2,rfl,by omega,by omega,λk u' M=>⟨_,rfl,d30B (M.pos a3) (FS (M.le a3) a4),k,u',rfl,M⟩⟩,?_⟩;rintro _ ⟨k,u',rfl,M2⟩;k_places;obtain⟨r0,r1,r2,r3,r4,r5⟩:=qW a3 b3 M2;have Ot:h1*h2<=1125899906842624:=by
   have:=ca (a:=h1) (d:=h2) (A:=33554432) (B:=33554432) (by omega) (by omega);omega
  refine⟨λd=>d= .int (h1*h2 / k / h1*s1),⟨_,rfl,d30B a3 a4,_,rfl,.inr (s64B a5 a6 a2),rfl⟩,?_⟩;rintro _ rfl;k_places;refine⟨λd=>d= .int (h1*h2 / k / h2*s2 - h1*h2 / k / h1*s1),⟨_,rfl,d30B b3 b4,_,rfl,.inr (s64B b5 b6 b2),rfl⟩,?_⟩;rintro _ rfl;k_places;have t1:=ca (a:=h1*h2 / k / h1) (d:=s1) (A:=33554432) (B:=33554432) (by omega) (by omega);have t2:=ca (a:=h1*h2 / k / h2) (d:=s2) (A:=33554432) (B:=33554432) (by omega) (by omega);refine⟨λd=>∃ gg u7:Int,d= .int (g / gg)/\Meas g (h1*h2 / k / h2*s2 - h1*h2 / k / h1*s1) gg u7,⟨_,rfl,_,rfl,g,_,rfl,by omega,by omega,λgg u7 M=>⟨_,rfl,d30B (M.pos hg) (FS (M.le hg) (FS MU a2)),gg,u7,rfl,M⟩⟩,?_⟩;rintro _ ⟨gg,u7,rfl,M3⟩;k_places;have A_:=M3.pos hg;have c1:0<=g / gg:=Int.ediv_nonneg (by omega) (by omega);have c2:g / gg<=g:=Int.ediv_le_self _ (by omega);have c4:=zt (c:=g / gg) (gap:=h1*h2 / k / h2*s2 - h1*h2 / k / h1*s1) (N:=2251799813685248) hg c1 c2 (by omega);have mr:=qV a1 b1 a3 b3 M1 M2 M3;refine⟨λd=>d= .int (g / gg*(h1*h2 / k / h2*s2 - h1*h2 / k / h1*s1) / g*u),⟨.inl ⟨by omega,by omega⟩,_,rfl,⟨by omega,by omega⟩,_,rfl,.inl ⟨by omega,by omega⟩,rfl⟩,?_⟩;rintro _ rfl;k_places;obtain⟨w0,w3,_⟩:=qW a1 b1 M1;have Ou:w1*w2<=1125899906842624:=by
   have:=ca (a:=w1) (d:=w2) (A:=33554432) (B:=33554432) (by omega) (by omega);omega
  have IZ:=ca (a:=h1*h2 / k) (d:=g / gg) (A:=1125899906842624) (B:=33554432) (by omega) (by omega);exact⟨.inl ⟨by omega,by omega⟩,.inl ⟨by omega,by omega⟩,_,rfl,.inr ⟨by omega,by omega⟩,w0,by simp,hR _ _ _ _ mr⟩
abbrev iQ(V:Bx):Prop:=V.D 1 "mirrored" mi zD
def C1(T:V.T "mirrored" mh mi):iQ V:=by
 refine Tx.okDW T BF (λds R h=>?_) (λf cdv A outer s H E J hr=>⟨_,((aq (aA (aR (ac (af (aa 0) ad) (ac (af (aa 0) ad) (ac (aG (cw (af (aa 0) ad)) (af (aa 0) ad)) ae))))))),λds R h=>?_⟩)
 .obtain⟨w,h,s,rfl,_⟩:=h;rfl
 .obtain⟨w,h,s,rfl,hw,hR⟩:=h;exact⟨_,rfl,_,rfl,_,rfl,_,rfl,hw,by simp,hR⟩
abbrev iR(V:Bx):Prop:=V.D 3 "turned" mn zE
def C3(T:V.T "turned" mj mn)(H_:iH V):iR V:=by
 refine Tx.okDW T BG (λds R h=>?_) (λf cdv A outer s H E J hr=>⟨_,((aq (aA (ax H_ hr (ac (aR (ac ad (ac (af (aa 0) ad) ae))) (ac (aR (ac (cw (af (aa 0) ad)) (ac (af (aa 0) ad) ae))) ae)))))),λds R h=>?_⟩)
 .obtain⟨w,h,s,rfl,_⟩:=h;rfl
 .obtain⟨w,h,s,rfl,hw,hh,u8,G',hs,j_,hR⟩:=h;have hp:0<w*h:=Eg hw hh;have hn:¬ 0*s=w* -h:=by rw[EZ];lia
  exact⟨_,rfl,by simp,_,rfl,_,rfl,by simp,0,w,-h,s,rfl,by lia,by lia,by lia,by lia,λe=>absurd e hn,λ_ w' h' s' f=>hR w' h' s' f⟩
def ok_Motif_family(hL:3<=n)(T:V.Tm "Motif" "family" "Motif.family" gO cA)(uM:V.a "Motif" "shifts")(Hc:V.a "Motif" "place")(uAE:iO V):V.Q (n+1) "Motif" "family" cA (ofX (bU (j+1) "Motif")):=by
 refine Txm.okM T BH (λds M R RX h=>?_) (λf cdv A outer s H E J hr hx=>⟨_,((aB (cq (qz (aM uM (aj (aa 0))) (aj eZ)) (aF (jK (hn:=by omega) uAE hr hx rfl (aS (aM Hc (aj (aa 0))) bq))) bZ)
   (aF (aO (aM uM (aj (aa 0))))))),λds M R RX b7 h=>?_⟩)
 .obtain⟨_,_,_,rfl,_⟩:=h;rfl
 .obtain⟨p,k,v,rfl,hv,hs,hd,hc,e_,hX,hR⟩:=h;cases p with
  |over p q=>exact absurd (show("Over":x9)="Motif" from hc) (by decide+kernel)
  |sh a b p=>exact absurd (show("Shifted":x9)="Motif" from hc) (by decide+kernel)
  |mir p=>exact absurd (show("Mirror":x9)="Motif" from hc) (by decide+kernel)
  |tur p=>exact absurd (show("Turn":x9)="Motif" from hc) (by decide+kernel)
  |hue f g p=>exact absurd (show("Rehue":x9)="Motif" from hc) (by decide+kernel)
  |mot L a b c d=>
   obtain⟨sh,hu,rfl,h0,h1⟩:=hv;refine⟨_,⟨rfl,rfl⟩,_,jX,?_⟩;by_cases e:a*d=b*c
   .rw[h0 e];refine⟨_,⟨rfl,rfl⟩,_,AQ,by show(1:Nat)<=1000;decide,(k:Int),rfl,?_⟩;rw[b7];exact hX k (by rw[Pat.lineAt,if_pos e])
   .obtain⟨w,h,s,F,rfl,rfl⟩:=h1 e;exact⟨_,⟨rfl,rfl⟩,_,jX,hR (by rw[Pat.lineAt,if_neg e]) w h s (Pat.Fam.mot F)⟩
def C4(hL:3<=n)(T:V.Tm "Over" "family" "Over.family" gP gQ)(Ju:iP V)(uP:V.a "Over" "above")(uS:V.a "Over" "below")(uF:∀ x,x∈(["Motif","Over","Shifted","Mirror","Turn","Rehue"]:List x9)->V.Q n x "family" cA (ofX (bU j x))):V.Q (n+1) "Over" "family" gQ (ofX (bU (j+1) "Over")):=by
 refine Txm.okM T sc_Over_family (λds M R RX h=>?_) (λf cdv A outer s H E J hr hx=>⟨_,((aB (bb 1 sc_Over_family.nd (dF (hn:=by omega) uF hx hr (aM uP (aj (aa 0)))))
   (aF (aO (aZ (hn:=by omega) (CalD.toM Ju) hx hr (aS (aj (aa 1)) (aS (dF (hn:=by omega) uF hx hr (aM uS (aj (aa 0)))) bq))))))),λds M R RX b7 h=>?_⟩)
 .obtain⟨_,_,_,rfl,_⟩:=h;rfl
 .obtain⟨p,k,v,rfl,hv,hs,hd,hc,e_,hX,hR⟩:=h;cases p with
  |mot L a b c d=>exact absurd (show("Motif":x9)="Over" from hc) (by decide+kernel)
  |sh a b p=>exact absurd (show("Shifted":x9)="Over" from hc) (by decide+kernel)
  |mir p=>exact absurd (show("Mirror":x9)="Over" from hc) (by decide+kernel)
  |tur p=>exact absurd (show("Turn":x9)="Over" from hc) (by decide+kernel)
  |hue f g p=>exact absurd (show("Rehue":x9)="Over" from hc) (by decide+kernel)
  |over p q=>
   obtain⟨u,u',rfl,hu,Jv⟩:=hv;obtain⟨fs,rfl,hf,_⟩:=hu.objm;obtain⟨gs,rfl,hg,_⟩:=Jv.objm;rw[Pat.depth] at hd;refine⟨λd M'=>(∃ w h s,p.lineAt (k+1)=q_/\p.Fam w h s/\d= .tup [.int w,.int h,.int s])/\M'=M,⟨_,⟨rfl,rfl⟩,_,rfl,p.cls,p.cls_mem,fs,⟨rfl,rfl⟩,hf,p,k+1,_,rfl,hu,hs.1,by lia,rfl,e_.1,λi hi=>?_,λhn w h s F=>⟨⟨w,h,s,hn,F,rfl⟩,rfl⟩⟩,?_⟩
   .rw[b7];exact hX i (by rw[Pat.lineAt,hi])
   rintro _ _ ⟨⟨w1,h1,s1,LG,F1,rfl⟩,rfl⟩;k_places;refine⟨_,⟨rfl,rfl⟩,_,eJ (by decide+kernel),q.cls,q.cls_mem,gs,⟨rfl,rfl⟩,hg,q,k+1+p.tl.length+1,_,rfl,Jv,hs.2,by lia,rfl,e_.2.1,λi hi=>?_,λw9 w2 h2 s2 F2=>?_⟩
   .rw[b7];exact hX i (by rw[Pat.lineAt,LG];exact hi)
   .obtain⟨f1,f2⟩:=e_.2.2 (Pat.line_wf _ hs.1 LG) (Pat.line_wf _ hs.2 w9);obtain⟨a1,a2,a3,a4,a5,a6⟩:=f1.small F1;obtain⟨b1,b2,b3,b4,b5,b6⟩:=f2.small F2;exact⟨w1,h1,s1,w2,h2,s2,rfl,a1,a2,a3,a4,a5,a6,b1,b2,b3,b4,b5,b6,λw h s A MR=>hR (by rw[Pat.lineAt,LG];exact w9) w h s (Pat.Fam.over F1 F2 MR)⟩
def C5(hL:3<=n)(T:V.Tm "Shifted" "family" "Shifted.family" gR gS)(uT:V.a "Shifted" "form")(uF:∀ x,x∈(["Motif","Over","Shifted","Mirror","Turn","Rehue"]:List x9)->V.Q n x "family" cA (ofX (bU j x))):V.Q (n+1) "Shifted" "family" gS (ofX (bU (j+1) "Shifted")):=by
 refine Txm.okM T BI (λds M R RX h=>?_) (λf cdv A outer s H E J hr hx=>⟨_,((aF (aO (dF (hn:=by omega) uF hx hr (aM uT (aj (aa 0))))))),λds M R RX b7 h=>?_⟩)
 .obtain⟨_,_,_,rfl,_⟩:=h;rfl
 .obtain⟨p,k,v,rfl,hv,hs,hd,hc,e_,hX,hR⟩:=h;cases p with
  |mot L a b c d=>exact absurd (show("Motif":x9)="Shifted" from hc) (by decide+kernel)
  |over p q=>exact absurd (show("Over":x9)="Shifted" from hc) (by decide+kernel)
  |mir p=>exact absurd (show("Mirror":x9)="Shifted" from hc) (by decide+kernel)
  |tur p=>exact absurd (show("Turn":x9)="Shifted" from hc) (by decide+kernel)
  |hue f g p=>exact absurd (show("Rehue":x9)="Shifted" from hc) (by decide+kernel)
  |sh a b p=>
   obtain⟨u,rfl,hu⟩:=hv;obtain⟨fs,rfl,hf,_⟩:=hu.objm;rw[Pat.depth] at hd;refine⟨_,⟨rfl,rfl⟩,_,rfl,p.cls,p.cls_mem,fs,⟨rfl,rfl⟩,hf,p,_,_,rfl,hu,hs.2.2,by lia,rfl,e_,λi hi=>?_,λhn w h s F=>?_⟩
   .rw[b7];exact hX i (by rw[Pat.lineAt];exact hi)
   .exact hR (by rw[Pat.lineAt];exact hn) w h s (F.sh a b)
def C6(hL:3<=n)(T:V.Tm "Mirror" "family" "Mirror.family" gT gU)(Jw:iQ V)(uQ:V.a "Mirror" "form")(uF:∀ x,x∈(["Motif","Over","Shifted","Mirror","Turn","Rehue"]:List x9)->V.Q n x "family" cA (ofX (bU j x))):V.Q (n+1) "Mirror" "family" gU (ofX (bU (j+1) "Mirror")):=by
 refine Txm.okM T BJ (λds M R RX h=>?_) (λf cdv A outer s H E J hr hx=>⟨_,((aF (aO (aZ (hn:=by omega) (CalD.toM Jw) hx hr (aS (dF (hn:=by omega) uF hx hr (aM uQ (aj (aa 0)))) bq))))),λds M R RX b7 h=>?_⟩)
 .obtain⟨_,_,_,rfl,_⟩:=h;rfl
 .obtain⟨p,k,v,rfl,hv,hs,hd,hc,e_,hX,hR⟩:=h;cases p with
  |mot L a b c d=>exact absurd (show("Motif":x9)="Mirror" from hc) (by decide+kernel)
  |over p q=>exact absurd (show("Over":x9)="Mirror" from hc) (by decide+kernel)
  |sh a b p=>exact absurd (show("Shifted":x9)="Mirror" from hc) (by decide+kernel)
  |tur p=>exact absurd (show("Turn":x9)="Mirror" from hc) (by decide+kernel)
  |hue f g p=>exact absurd (show("Rehue":x9)="Mirror" from hc) (by decide+kernel)
  |mir p=>
   obtain⟨u,rfl,hu⟩:=hv;obtain⟨fs,rfl,hf,_⟩:=hu.objm;rw[Pat.depth] at hd;refine⟨_,⟨rfl,rfl⟩,_,rfl,p.cls,p.cls_mem,fs,⟨rfl,rfl⟩,hf,p,_,_,rfl,hu,hs,by lia,rfl,e_,λi hi=>?_,λhn w h s F=>?_⟩
   .rw[b7];exact hX i (by rw[Pat.lineAt];exact hi)
   .exact⟨w,h,s,rfl,F.f.w0,hR (by rw[Pat.lineAt];exact hn) w h _ F.mir⟩
def C7(hL:3<=n)(T:V.Tm "Turn" "family" "Turn.family" gW gX)(Jy:iR V)(uO:V.a "Turn" "form")(uF:∀ x,x∈(["Motif","Over","Shifted","Mirror","Turn","Rehue"]:List x9)->V.Q n x "family" cA (ofX (bU j x))):V.Q (n+1) "Turn" "family" gX (ofX (bU (j+1) "Turn")):=by
 refine Txm.okM T BK (λds M R RX h=>?_) (λf cdv A outer s H E J hr hx=>⟨_,((aF (aO (aZ (hn:=by omega) (CalD.toM Jy) hx hr (aS (dF (hn:=by omega) uF hx hr (aM uO (aj (aa 0)))) bq))))),λds M R RX b7 h=>?_⟩)
 .obtain⟨_,_,_,rfl,_⟩:=h;rfl
 .obtain⟨p,k,v,rfl,hv,hs,hd,hc,e_,hX,hR⟩:=h;cases p with
  |mot L a b c d=>exact absurd (show("Motif":x9)="Turn" from hc) (by decide+kernel)
  |over p q=>exact absurd (show("Over":x9)="Turn" from hc) (by decide+kernel)
  |sh a b p=>exact absurd (show("Shifted":x9)="Turn" from hc) (by decide+kernel)
  |mir p=>exact absurd (show("Mirror":x9)="Turn" from hc) (by decide+kernel)
  |hue f g p=>exact absurd (show("Rehue":x9)="Turn" from hc) (by decide+kernel)
  |tur p=>
   obtain⟨u,rfl,hu⟩:=hv;obtain⟨fs,rfl,hf,_⟩:=hu.objm;rw[Pat.depth] at hd;refine⟨_,⟨rfl,rfl⟩,_,rfl,p.cls,p.cls_mem,fs,⟨rfl,rfl⟩,hf,p,_,_,rfl,hu,hs,by lia,rfl,e_.1,λi hi=>?_,λhn w h s F=>?_⟩
   .rw[b7];exact hX i (by rw[Pat.lineAt];exact hi)
   .obtain⟨a1,a2,a3,a4,a5,a6⟩:=(e_.2 (Pat.line_wf _ hs hn)).small F;exact⟨w,h,s,rfl,a1,a3,by lia,by lia,a5,by lia,λw' h' s' F'=>hR (by rw[Pat.lineAt];exact hn) w' h' s' (F.tur F')⟩
def C8(hL:3<=n)(T:V.Tm "Rehue" "family" "Rehue.family" gY gZ)(uR:V.a "Rehue" "form")(uF:∀ x,x∈(["Motif","Over","Shifted","Mirror","Turn","Rehue"]:List x9)->V.Q n x "family" cA (ofX (bU j x))):V.Q (n+1) "Rehue" "family" gZ (ofX (bU (j+1) "Rehue")):=by
 refine Txm.okM T BL (λds M R RX h=>?_) (λf cdv A outer s H E J hr hx=>⟨_,((aF (aO (dF (hn:=by omega) uF hx hr (aM uR (aj (aa 0))))))),λds M R RX b7 h=>?_⟩)
 .obtain⟨_,_,_,rfl,_⟩:=h;rfl
 .obtain⟨p,k,v,rfl,hv,hs,hd,hc,e_,hX,hR⟩:=h;cases p with
  |mot L a b c d=>exact absurd (show("Motif":x9)="Rehue" from hc) (by decide+kernel)
  |over p q=>exact absurd (show("Over":x9)="Rehue" from hc) (by decide+kernel)
  |sh a b p=>exact absurd (show("Shifted":x9)="Rehue" from hc) (by decide+kernel)
  |mir p=>exact absurd (show("Mirror":x9)="Rehue" from hc) (by decide+kernel)
  |tur p=>exact absurd (show("Turn":x9)="Rehue" from hc) (by decide+kernel)
  |hue f g p=>
   obtain⟨u,rfl,hu⟩:=hv;obtain⟨fs,rfl,hf,_⟩:=hu.objm;rw[Pat.depth] at hd;refine⟨_,⟨rfl,rfl⟩,_,rfl,p.cls,p.cls_mem,fs,⟨rfl,rfl⟩,hf,p,_,_,rfl,hu,hs.2.2,by lia,rfl,e_,λi hi=>?_,λhn w h s F=>?_⟩
   .rw[b7];exact hX i (by rw[Pat.lineAt];exact hi)
   .exact hR (by rw[Pat.lineAt];exact hn) w h s (F.hue f g)
def C9(MV:V.Tm "Motif" "family" "Motif.family" gO cA)(MX:V.Tm "Over" "family" "Over.family" gP gQ)(MY:V.Tm "Shifted" "family" "Shifted.family" gR gS)(MZ:V.Tm "Mirror" "family" "Mirror.family" gT gU)(M0:V.Tm "Turn" "family" "Turn.family" gW gX)(M4:V.Tm "Rehue" "family" "Rehue.family" gY gZ)(uM:V.a "Motif" "shifts")(Hc:V.a "Motif" "place")(uAE:iO V)(Ju:iP V)(uP:V.a "Over" "above")(uS:V.a "Over" "below")(uT:V.a "Shifted" "form")(Jw:iQ V)(uQ:V.a "Mirror" "form")(Jy:iR V)(uO:V.a "Turn" "form")(uR:V.a "Rehue" "form"):∀ j x,x∈(["Motif","Over","Shifted","Mirror","Turn","Rehue"]:List x9)->V.Q (3+j) x "family" cA (ofX (bU j x)):=by
 intro j;induction j with
 |zero=>
  intro x hx;simp only[D2,E1,or_false] at hx;rcases hx with rfl|rfl|rfl|rfl|rfl|rfl
  .exact CalMth.never MV (λds M R RX=>eK)
  .exact CalMth.never MX (λds M R RX=>eK)
  .exact CalMth.never MY (λds M R RX=>eK)
  .exact CalMth.never MZ (λds M R RX=>eK)
  .exact CalMth.never M0 (λds M R RX=>eK)
  .exact CalMth.never M4 (λds M R RX=>eK)
 |succ j Jz=>
  intro x hx;simp only[D2,E1,or_false] at hx;rcases hx with rfl|rfl|rfl|rfl|rfl|rfl
  .exact ok_Motif_family (n:=3+j) (j:=j) (by omega) MV uM Hc uAE
  .exact C4 (n:=3+j) (j:=j) (by omega) MX Ju uP uS Jz
  .exact C5 (n:=3+j) (j:=j) (by omega) MY uT Jz
  .exact C6 (n:=3+j) (j:=j) (by omega) MZ Jw uQ Jz
  .exact C7 (n:=3+j) (j:=j) (by omega) M0 Jy uO Jz
  .exact C8 (n:=3+j) (j:=j) (by omega) M4 uR Jz
abbrev sN(V:Bx):Prop:=V.MM 18 "form_from" cI (dg 6)
abbrev sO(V:Bx):Prop:=∀ x,x∈(["Motif","Over","Shifted","Mirror","Turn","Rehue"]:List x9)->V.Q 9 x "family" cA (ofX (bU 6 x))
abbrev nM(V:Bx):Prop:=V.X 19 "read" mq sj
def Da(T:V.T "read" mo mq)(uB:V.m "len")(uH:sN V)(LH:V.gi "MOST" 720)(uE:V.a "Reading" "place")(LI:nH V)(LJ:nK V)(uF:sO V)(uAA:iF V)(LK:V.n "TooGreat"):nM V:=by
 refine CalMM.nilX (Tx.okM T sc_read (λds M R RX h=>?_) (λf cdv A outer s H E J hr hx=>⟨_,((aB (bb 1 sc_read.nd (yc LI hr (aD (ac (aa 0) ae))))
   (aB (bb 2 sc_read.nd (aZ uH hx hr (aD (ac (aa 1) (ac ad ae)))))
   (aB (cq (qy (aM uE (aj (aa 1))) (aj (cj uB (ac (aa 0) ae)))) (aF (jK uAA hr hx rfl (aS (aM uE (aj (aa 1))) bq))) bZ)
   (aB (bb 3 sc_read.nd (dF uF hx hr (aj (aa 2))))
   (aB (cq (cn (jr (aE (af (aa 3) ad) (af (aa 3) ad)) (fk LH))) (aF (yi LK hx rfl (aD (ac aw ae)))) bZ)
   (aF (aO (aj (jC LJ hr (ac (aa 0) (ac (aa 3) (ac (aa 2) ae))))))))))))),λds M R RX b7 h=>?_⟩))
 .obtain⟨_,R0,A',h,_⟩:=h;rcases h with⟨_,_,rfl,_⟩|⟨_,rfl,_⟩<;>rfl
 .obtain⟨rfl,R0,A',h,hR,hX⟩:=h;obtain⟨t,ht,Ov,v7⟩:∃ t:x9,ds=[.str t]/\t.length<=100000/\((∃ k:Nat,da t=be k/\A' "WrongSign" [("place",.int k)])\/∃ p:Pat,t=p.text/\p.Syn/\p.depth<=5/\p.Cal/\(∀ k:Nat,p.lineAt 0=be k->A' "OneLine" [("place",.int k)])/\(p.lineAt 0=q_->¬ p.Fits->A' "TooGreat" [])/\(p.lineAt 0=q_->p.Fits->∀ d,bE p d->R0 d)):=by
   rcases h with⟨t,k,e,h1,h2,h3⟩|⟨p,e,h1,h2,h3⟩
   .exact⟨t,e,h1,.inl ⟨k,h2,h3⟩⟩
   .exact⟨p.text,e,by have:=Pat.syn_short h1 h2;lia,.inr ⟨p,rfl,h1,h2,h3⟩⟩
  subst ht;have d4:At t 0 (cs t):=⟨rfl,Ej _,Ov⟩;refine⟨λd M'=>∃ a,d= .ptr a/\M'=RdM a t 0,⟨t,rfl,λa _=>⟨a,rfl,rfl⟩⟩,?_⟩;rintro _ _ ⟨a,rfl,rfl⟩;k_places;refine⟨λv M'=>∃ p l',p.Syn/\p.depth<=5/\cs t=p.tl++l'/\FormOf p 0 v/\M'=RdM a t p.tl.length,⟨a,t,0,cs t,0,rfl,rfl,d4,rfl,by decide,λp l' h1 h2 h3 v h4=>⟨p,l',h1,by lia,h3,h4,by rw[Fg]⟩,λi hi M'=>?_⟩,?_⟩
  .rw[b7];have hw:da t=be i:=hi [];rcases v7 with⟨k,h1,h2⟩|⟨p,rfl,h1,h2,_⟩
   .rw[hw] at h1;cases h1;exact hX _ _ _ h2
   .rw[rG h1 h2] at hw;cases hw
  rintro v _ ⟨p,l',hp,Lz,hl,hv,rfl⟩;k_places;have hw:da t=walk [] l' p.tl.length:=by
   unfold da;rw[hl,cG hp 0 [] l' 0 (by lia),Fg]
  have a_:t.length=p.tl.length+l'.length:=by rw[<- bL,hl,D7]
  refine⟨_,aP,_,db,by lia,ite2 (λc=>?_) (λc=>?_)⟩
  .have c':=of_decide_eq_true c;refine⟨_,aP,_,db,by show(1:Nat)<=1000;decide,(p.tl.length:Int),rfl,?_⟩;rw[b7];have u8:da t=be p.tl.length:=by
    rw[hw];cases l' with
    |nil=>simp at a_;lia
    |cons c l=>simp[walk,step,aJ,aL]
   rcases v7 with⟨k,h1,h2⟩|⟨q,rfl,h1,h2,_⟩
   .rw[u8] at h1;cases h1;exact hX _ _ _ h2
   .rw[rG h1 h2] at u8;cases u8
  have c':¬ ((p.tl.length:Int)<(t.length:Int)):=λz=>c (decide_eq_true z);have Ow:l'=[]:=F5 (by lia);subst Ow;rcases v7 with⟨k,h1,h2⟩|⟨q,rfl,h1,h2,e_,LL,HL,JA⟩
  .rw[hw] at h1;cases h1
  obtain⟨rfl,_⟩:=AX (p:=q) (q:=p) (x:=[]) (y:=[]) h1 hp (by rw[<- cN,hl];simp);obtain⟨fs,rfl,hf,_⟩:=hv.objm;refine⟨λd M'=>∃ w h s,q.lineAt 0=q_/\q.Fam w h s/\d= .tup [.int w,.int h,.int s],⟨q.cls,q.cls_mem,fs,⟨rfl,rfl⟩,hf,q,0,_,rfl,hv,hp,by lia,rfl,e_,λi hi=>?_,λhn w h s F=>⟨w,h,s,hn,F,rfl⟩⟩,?_⟩
  .rw[b7];exact hX _ _ _ (LL i hi)
  rintro _ M' ⟨w,h,s,hn,F,rfl⟩;k_places;have e8:=Pat.line_wf 0 hp hn;have MJ:=Pat.cal_w e8 e_ F;have N9:=F.f.w0;refine⟨_,rfl,_,rfl,.inl ⟨by lia,by lia⟩,ite2 (λc=>?_) (λc=>?_)⟩
  .have c2:=of_decide_eq_true c;refine⟨by show(1:Nat)<=1000;decide,?_⟩;rw[b7];refine hX _ _ _ (HL hn λ⟨w',h',s',F',hb⟩=>?_);obtain⟨rfl,rfl,_⟩:=F.uniq F';lia
  .have c2:¬ (720<w*h):=λz=>c (decide_eq_true z);refine⟨_,_,_,_,_,_,rfl,hR _ _ (JA hn ⟨w,h,s,F,by lia⟩ _ ⟨w,h,s,_,rfl,rfl,eJ (by decide+kernel),⟨F,0,_,jY (by decide+kernel) (by decide+kernel),hv⟩⟩)⟩
abbrev iS(V:Bx):Prop:=V.D 1 "_law_whole" mw zy
def Db(T:V.T "_law_whole" mv mw)(uU:V.m "isinstance")(LM:V.m "bool")(uL:V.m "int"):iS V:=by
 refine Tx.okDW T BM (λds R h=>?_) (λf cdv A outer s H E J hr=>⟨_,((aq (aA (pP (dU uU uL (aa 0) PyProof.Rows.boot_int wU) (pO (wQ (dU uU LM (aa 0) PyProof.Rows.boot_bool kit_bool))))))),λds R h=>?_⟩)
 .obtain⟨i,rfl,_⟩:=h;rfl
 .obtain⟨i,rfl,hR⟩:=h;exact hR
abbrev iT(V:Bx):Prop:=V.D 2 "_law_numbers" mz Bl
def Dc(T:V.T "_law_numbers" mx mz)(uB:V.m "len")(uU:V.m "isinstance")(uX:V.m "tuple")(uA:V.m "range")(Ib:iS V):iT V:=by
 refine Tx.okDW T sc__law_numbers (λds R h=>?_) (λf cdv A outer s H E J hr=>⟨_,((ai (bn (cV (cU (ck (bB (dU uU uX (aa 0) PyProof.Rows.boot_tuple kit_tuple))) (dv (bX (cj uB (ac (aa 0) ae)) (cj uB (ac (aa 1) ae)))))) (aq (aA bx)) aV)
   (ai (bY 2 PassesOwn.never rfl sc__law_numbers.nd uA (cj uB (ac (aa 1) ae)) (aq (bn (cV (cU (ck (bB (ax Ib hr (ac (af (aa 0) (aa 2)) ae)))) (dv (bX (af (aa 0) (aa 2)) (af (aa 1) (aa 2)))))) (aq (aA bx)) aV)))
   (aq (aA bx))))),λds R h=>?_⟩)
 .obtain⟨xs,rfl,_⟩:=h;rfl
 .obtain⟨xs,rfl,xl,hR⟩:=h;refine ite2 (λc=>absurd c (by simp)) λ_=>?_;refine⟨⟨by omega,by rw[DZ];omega⟩,λk z=>∃ o,z=[be (.tup (xs.map D.int)),be (.tup (xs.map D.int)),o],⟨_,rfl⟩,?_,?_⟩
  .rintro k v z hk ⟨o,rfl⟩;k_places;obtain⟨n9,rfl⟩:=bT hk;rw[DZ] at n9;have Ox:k<xs.length:=by omega
   have ak:atI (xs.map D.int) (k:Int)=be (.int xs[k]):=cv (by rw[D5,Ei Ox];rfl);exact⟨_,ak,_,rfl,_,ak,_,ak,ite2 (λc=>absurd c (by simp)) λ_=>⟨_,rfl⟩⟩
  .rintro z ⟨o,rfl⟩;k_places;exact hR
def Dd:SpD:=λds R=>∃ (p:Pat) (w h s:Int),ds=[dh p w h s,.tup [.int w,.int h,.int s],bc p w h]/\0<=h/\h<=720/\R (.bl true)
abbrev nN(V:Bx):Prop:=V.D 3 "_law_is_form" mC Dd
def De(T:V.T "_law_is_form" mB mC)(uB:V.m "len")(uU:V.m "isinstance")(uX:V.m "tuple")(uA:V.m "range")(uK:V.m "str")(Ic:iT V):nN V:=by
 refine Tx.okDW T sc__law_is_form (λds R h=>?_) (λf cdv A outer s H E J hr=>⟨_,((ai (bn (cV (cU (ck (bB (dU uU uX (aa 0) PyProof.Rows.boot_tuple kit_tuple))) (cU (bX (cj uB (ac (aa 0) ae)) ad) (dv (ck (bB (ax Ic hr (ac (dD (aa 0) fo (cL ad)) (ac (aa 1) ae))))))))) (aq (aA bx)) aV)
   (ai (bn (cV (cU (ck (bB (dU uU uX (af (aa 0) ad) PyProof.Rows.boot_tuple kit_tuple))) (dv (bX (cj uB (ac (af (aa 0) ad) ae)) (cj uB (ac (aa 2) ae)))))) (aq (aA bx)) aV)
   (ai (bY 3 PassesOwn.never rfl sc__law_is_form.nd uA (cj uB (ac (aa 2) ae)) (aq (bn (cV (cU (ck (bB (dU uU uK (af (af (aa 0) ad) (aa 3)) PyProof.Rows.boot_str kit_str))) (dv (bX (af (af (aa 0) ad) (aa 3)) (af (aa 2) (aa 3)))))) (aq (aA bx)) aV)))
   (aq (aA bx)))))),λds R h=>?_⟩)
 .obtain⟨_,_,_,_,rfl,_⟩:=h;rfl
 .obtain⟨p,w,h,s,rfl,h0,h7,hR⟩:=h;refine⟨by show¬ (0=0/\3=4);decide,[w,h,s],rfl,by show(3:Nat)<=1000;decide,?_⟩;refine ite2 (λc=>absurd c (by simp)) λ_=>?_;refine⟨_,rfl,_,rfl,ite2 (λc=>absurd c (by simp)) λ_=>?_⟩;refine⟨⟨by rw[DZ,Eu];lia,by rw[DZ,Eu];lia⟩,λk z=>∃ o,z=[be (dh p w h s),be (.tup [.int w,.int h,.int s]),be (bc p w h),o],⟨_,rfl⟩,?_,?_⟩
  .rintro k v z hk ⟨o,rfl⟩;k_places;obtain⟨n9,rfl⟩:=bT hk;rw[DZ,Eu] at n9;have ak:=Br (p:=p) (w:=w) (h:=h) (k:=k) (by lia) (by lia);exact⟨_,rfl,_,ak,_,rfl,_,ak,_,ak,ite2 (λc=>absurd c (by simp)) λ_=>⟨_,rfl⟩⟩
  .rintro z ⟨o,rfl⟩;k_places;exact hR
abbrev nO(V:Bx):Prop:=V.X 1 "refuse_far" mF A2
def Df(T:V.T "refuse_far" mD mF)(LN:V.m "max")(HH:V.m "abs")(LO:V.gi "FAR" 1000000000000)(LP:V.n "TooFar"):nO V:=by
 refine Tx.okXW T BN (λds R RX h=>?_) (λf cdv A outer s H E J hr hx=>⟨_,((aq (bn (jr (xh rfl LN (ac (jq HH (ac (aa 0) ae)) (ac (jq HH (ac (aa 1) ae)) ae))) (fk LO)) (aq (xx LP hx rfl (ac aw ae))) aV))),λds R RX b7 h=>?_⟩)
 .obtain⟨_,_,rfl,_⟩:=h;rfl
 .obtain⟨x,y,rfl,h1,h2⟩:=h;refine ite2 (λc=>?_) (λc=>?_)
  .have c':=of_decide_eq_true c;refine⟨by show(1:Nat)<=1000;decide,?_⟩;rw[b7];refine h2 λ⟨⟨a1,a2⟩,a3,a4⟩=>?_;split at c'<;>split at c'<;>split at c'<;>lia
  .have c':¬ _:=λz=>c (decide_eq_true z);refine h1 ?_;unfold bo;split at c'<;>split at c'<;>split at c'<;>lia
def ok_Motif_shows(hL:1<=n)(T:V.Tm "Motif" "shows" "Motif.shows" hU cB)(uV:eN V)(Hd:V.a "Motif" "hues")(uM:V.a "Motif" "shifts"):V.Q (n+1) "Motif" "shows" cB (ofX (bV (j+1) "Motif")):=by
 refine Txm.okM T BO (λds M R RX h=>?_) (λf cdv A outer s H E J hr hx=>⟨_,((aF (aO (yT (ji hr) (aM Hd (aj (aa 0))) (aS (aZ (hn:=by omega) (CalD.toM uV) hx hr (aS (aM uM (aj (aa 0))) (aS (aj (aa 1)) (aS (aj (aa 2)) bq)))) (aS (aj ad) bq)))))),λds M R RX b7 h=>?_⟩)
 .obtain⟨_,_,_,_,_,rfl,_⟩:=h;rfl
 .obtain⟨p,k,v,X,Y,rfl,hv,e8,hd,hc,hR⟩:=h;cases p with
  |over p q=>exact absurd (show("Over":x9)="Motif" from hc) (by decide+kernel)
  |sh a b p=>exact absurd (show("Shifted":x9)="Motif" from hc) (by decide+kernel)
  |mir p=>exact absurd (show("Mirror":x9)="Motif" from hc) (by decide+kernel)
  |tur p=>exact absurd (show("Turn":x9)="Motif" from hc) (by decide+kernel)
  |hue f g p=>exact absurd (show("Rehue":x9)="Motif" from hc) (by decide+kernel)
  |mot L a b c d=>
   obtain⟨sh,hu,rfl,h0,h1⟩:=hv;obtain⟨hL,ha,hb,w6,j8,hn⟩:=e8;obtain⟨w,h,s,F,rfl,rfl⟩:=h1 hn;unfold B12 at ha hb w6 j8;obtain⟨b1,b2,b3⟩:=F.bd (N:=288) (by
    have m1:=ca (a:=a) (d:=d) (A:=12) (B:=12) (by lia) (by lia);have m2:=ca (a:=b) (d:=c) (A:=12) (B:=12) (by lia) (by lia);lia)
   refine⟨_,⟨rfl,rfl⟩,_,AR,_,⟨rfl,rfl⟩,_,jX,w,h,s,X,Y,rfl,F.1,F.2.1,by lia,F.2.2.1,by lia,?_⟩;have e:=motif_shows hL F hn X Y;rw[Pat.show] at hR;rw[<- e] at hR;exact hR
def Dg(hL:1<=n)(T:V.Tm "Over" "shows" "Over.shows" hV hZ)(uP:V.a "Over" "above")(uS:V.a "Over" "below")(uD:∀ x,x∈(["Motif","Over","Shifted","Mirror","Turn","Rehue"]:List x9)->V.Q n x "shows" cB (ofX (bV j x))):V.Q (n+1) "Over" "shows" hZ (ofX (bV (j+1) "Over")):=by
 refine Txm.okM T sc_Over_shows (λds M R RX h=>?_) (λf cdv A outer s H E J hr hx=>⟨_,((aB (bb 3 sc_Over_shows.nd (aY (hn:=by omega) uD hx hr (aM uP (aj (aa 0))) (aD (ac (aa 1) (ac (aa 2) ae)))))
   (aF (aO (fq (cn (bH (aa 3) ad)) (aY (hn:=by omega) uD hx hr (aM uS (aj (aa 0))) (aD (ac (aa 1) (ac (aa 2) ae)))) (aj (aa 3))))))),λds M R RX b7 h=>?_⟩)
 .obtain⟨_,_,_,_,_,rfl,_⟩:=h;rfl
 .obtain⟨p,k,v,X,Y,rfl,hv,e8,hd,hc,hR⟩:=h;cases p with
  |mot L a b c d=>exact absurd (show("Motif":x9)="Over" from hc) (by decide+kernel)
  |sh a b p=>exact absurd (show("Shifted":x9)="Over" from hc) (by decide+kernel)
  |mir p=>exact absurd (show("Mirror":x9)="Over" from hc) (by decide+kernel)
  |tur p=>exact absurd (show("Turn":x9)="Over" from hc) (by decide+kernel)
  |hue f g p=>exact absurd (show("Rehue":x9)="Over" from hc) (by decide+kernel)
  |over p q=>
   obtain⟨u,u',rfl,hu,Jv⟩:=hv;obtain⟨fs,rfl,_,hf⟩:=hu.objm;obtain⟨gs,rfl,_,hg⟩:=Jv.objm;rw[Pat.depth] at hd;refine⟨λd M'=>d= .int (p.show X Y)/\M'=M,⟨_,⟨rfl,rfl⟩,_,rfl,p.cls,p.cls_mem,fs,⟨rfl,rfl⟩,hf,p,_,_,X,Y,rfl,hu,e8.1,by lia,rfl,rfl,rfl⟩,?_⟩;rintro _ _ ⟨rfl,rfl⟩;k_places;rw[Pat.show] at hR;show if decide (p.show X Y=0)=true then _ else _
   refine ite2 (λe=>?_) (λe=>?_)
   .have e':=of_decide_eq_true e;rw[if_neg (λz=>z e')] at hR;exact⟨_,⟨rfl,rfl⟩,_,eJ (by decide+kernel),q.cls,q.cls_mem,gs,⟨rfl,rfl⟩,hg,q,_,_,X,Y,rfl,Jv,e8.2,by lia,rfl,hR⟩
   .have e':p.show X Y≠0:=λz=>e (decide_eq_true z);rw[if_pos e'] at hR;exact hR
def Dh(hL:1<=n)(T:V.Tm "Shifted" "shows" "Shifted.shows" ia ib)(uT:V.a "Shifted" "form")(Hg:V.a "Shifted" "y")(Hf:V.a "Shifted" "x")(uD:∀ x,x∈(["Motif","Over","Shifted","Mirror","Turn","Rehue"]:List x9)->V.Q n x "shows" cB (ofX (bV j x))):V.Q (n+1) "Shifted" "shows" ib (ofX (bV (j+1) "Shifted")):=by
 refine Txm.okM T BP (λds M R RX h=>?_) (λf cdv A outer s H E J hr hx=>⟨_,((aF (aO (aY (hn:=by omega) uD hx hr (aM uT (aj (aa 0))) (aS (jH (aj (aa 1)) (aM Hf (aj (aa 0)))) (aS (jH (aj (aa 2)) (aM Hg (aj (aa 0)))) bq)))))),λds M R RX b7 h=>?_⟩)
 .obtain⟨_,_,_,_,_,rfl,_⟩:=h;rfl
 .obtain⟨p,k,v,X,Y,rfl,hv,e8,hd,hc,hR⟩:=h;cases p with
  |mot L a b c d=>exact absurd (show("Motif":x9)="Shifted" from hc) (by decide+kernel)
  |over p q=>exact absurd (show("Over":x9)="Shifted" from hc) (by decide+kernel)
  |mir p=>exact absurd (show("Mirror":x9)="Shifted" from hc) (by decide+kernel)
  |tur p=>exact absurd (show("Turn":x9)="Shifted" from hc) (by decide+kernel)
  |hue f g p=>exact absurd (show("Rehue":x9)="Shifted" from hc) (by decide+kernel)
  |sh a b p=>
   obtain⟨u,rfl,hu⟩:=hv;obtain⟨fs,rfl,_,hf⟩:=hu.objm;rw[Pat.depth] at hd;exact⟨_,⟨rfl,rfl⟩,_,rfl,p.cls,p.cls_mem,fs,⟨rfl,rfl⟩,hf,_,⟨rfl,rfl⟩,_,eJ (by decide+kernel),_,⟨rfl,rfl⟩,_,jY (by decide+kernel) (by decide+kernel),p,_,_,X - a,Y - b,rfl,hu,e8.2.2,by lia,rfl,hR⟩
def Di(hL:1<=n)(T:V.Tm "Mirror" "shows" "Mirror.shows" ic ie)(uQ:V.a "Mirror" "form")(uD:∀ x,x∈(["Motif","Over","Shifted","Mirror","Turn","Rehue"]:List x9)->V.Q n x "shows" cB (ofX (bV j x))):V.Q (n+1) "Mirror" "shows" ie (ofX (bV (j+1) "Mirror")):=by
 refine Txm.okM T BQ (λds M R RX h=>?_) (λf cdv A outer s H E J hr hx=>⟨_,((aF (aO (aY (hn:=by omega) uD hx hr (aM uQ (aj (aa 0))) (aD (ac (cw (aa 1)) (ac (aa 2) ae))))))),λds M R RX b7 h=>?_⟩)
 .obtain⟨_,_,_,_,_,rfl,_⟩:=h;rfl
 .obtain⟨p,k,v,X,Y,rfl,hv,e8,hd,hc,hR⟩:=h;cases p with
  |mot L a b c d=>exact absurd (show("Motif":x9)="Mirror" from hc) (by decide+kernel)
  |over p q=>exact absurd (show("Over":x9)="Mirror" from hc) (by decide+kernel)
  |sh a b p=>exact absurd (show("Shifted":x9)="Mirror" from hc) (by decide+kernel)
  |tur p=>exact absurd (show("Turn":x9)="Mirror" from hc) (by decide+kernel)
  |hue f g p=>exact absurd (show("Rehue":x9)="Mirror" from hc) (by decide+kernel)
  |mir p=>
   obtain⟨u,rfl,hu⟩:=hv;obtain⟨fs,rfl,_,hf⟩:=hu.objm;rw[Pat.depth] at hd;exact⟨_,⟨rfl,rfl⟩,_,rfl,p.cls,p.cls_mem,fs,⟨rfl,rfl⟩,hf,p,_,_,-X,Y,rfl,hu,e8,by lia,rfl,hR⟩
def Dj(hL:1<=n)(T:V.Tm "Turn" "shows" "Turn.shows" ig ii)(uO:V.a "Turn" "form")(uD:∀ x,x∈(["Motif","Over","Shifted","Mirror","Turn","Rehue"]:List x9)->V.Q n x "shows" cB (ofX (bV j x))):V.Q (n+1) "Turn" "shows" ii (ofX (bV (j+1) "Turn")):=by
 refine Txm.okM T BR (λds M R RX h=>?_) (λf cdv A outer s H E J hr hx=>⟨_,((aF (aO (aY (hn:=by omega) uD hx hr (aM uO (aj (aa 0))) (aD (ac (aa 2) (ac (cw (aa 1)) ae))))))),λds M R RX b7 h=>?_⟩)
 .obtain⟨_,_,_,_,_,rfl,_⟩:=h;rfl
 .obtain⟨p,k,v,X,Y,rfl,hv,e8,hd,hc,hR⟩:=h;cases p with
  |mot L a b c d=>exact absurd (show("Motif":x9)="Turn" from hc) (by decide+kernel)
  |over p q=>exact absurd (show("Over":x9)="Turn" from hc) (by decide+kernel)
  |sh a b p=>exact absurd (show("Shifted":x9)="Turn" from hc) (by decide+kernel)
  |mir p=>exact absurd (show("Mirror":x9)="Turn" from hc) (by decide+kernel)
  |hue f g p=>exact absurd (show("Rehue":x9)="Turn" from hc) (by decide+kernel)
  |tur p=>
   obtain⟨u,rfl,hu⟩:=hv;obtain⟨fs,rfl,_,hf⟩:=hu.objm;rw[Pat.depth] at hd;exact⟨_,⟨rfl,rfl⟩,_,rfl,p.cls,p.cls_mem,fs,⟨rfl,rfl⟩,hf,p,_,_,Y,-X,rfl,hu,e8,by lia,rfl,hR⟩
def Dk(hL:1<=n)(T:V.Tm "Rehue" "shows" "Rehue.shows" ij ik)(uR:V.a "Rehue" "form")(Hh:V.a "Rehue" "old")(Hi:V.a "Rehue" "new")(uD:∀ x,x∈(["Motif","Over","Shifted","Mirror","Turn","Rehue"]:List x9)->V.Q n x "shows" cB (ofX (bV j x))):V.Q (n+1) "Rehue" "shows" ik (ofX (bV (j+1) "Rehue")):=by
 refine Txm.okM T sc_Rehue_shows (λds M R RX h=>?_) (λf cdv A outer s H E J hr hx=>⟨_,((aB (bb 3 sc_Rehue_shows.nd (aY (hn:=by omega) uD hx hr (aM uR (aj (aa 0))) (aD (ac (aa 1) (ac (aa 2) ae)))))
   (aF (aO (fq (gx (aj (aa 3)) (aM Hh (aj (aa 0)))) (aM Hi (aj (aa 0))) (aj (aa 3))))))),λds M R RX b7 h=>?_⟩)
 .obtain⟨_,_,_,_,_,rfl,_⟩:=h;rfl
 .obtain⟨p,k,v,X,Y,rfl,hv,e8,hd,hc,hR⟩:=h;cases p with
  |mot L a b c d=>exact absurd (show("Motif":x9)="Rehue" from hc) (by decide+kernel)
  |over p q=>exact absurd (show("Over":x9)="Rehue" from hc) (by decide+kernel)
  |sh a b p=>exact absurd (show("Shifted":x9)="Rehue" from hc) (by decide+kernel)
  |mir p=>exact absurd (show("Mirror":x9)="Rehue" from hc) (by decide+kernel)
  |tur p=>exact absurd (show("Turn":x9)="Rehue" from hc) (by decide+kernel)
  |hue f g p=>
   obtain⟨u,rfl,hu⟩:=hv;obtain⟨fs,rfl,_,hf⟩:=hu.objm;rw[Pat.depth] at hd;refine⟨λd M'=>d= .int (p.show X Y)/\M'=M,⟨_,⟨rfl,rfl⟩,_,rfl,p.cls,p.cls_mem,fs,⟨rfl,rfl⟩,hf,p,_,_,X,Y,rfl,hu,e8.2.2,by lia,rfl,rfl,rfl⟩,?_⟩;rintro _ _ ⟨rfl,rfl⟩;k_places;rw[Pat.show] at hR;unfold bD at hR;refine⟨_,⟨rfl,rfl⟩,_,eJ (by decide+kernel),ite2 (λe=>?_) (λe=>?_)⟩
   .rw[if_pos (of_decide_eq_true e)] at hR;exact⟨_,⟨rfl,rfl⟩,_,jY (by decide+kernel) (by decide+kernel),hR⟩
   .rw[if_neg (λz=>e (decide_eq_true z))] at hR;exact hR
def Dl(M5:V.Tm "Motif" "shows" "Motif.shows" hU cB)(M6:V.Tm "Over" "shows" "Over.shows" hV hZ)(M7:V.Tm "Shifted" "shows" "Shifted.shows" ia ib)(M8:V.Tm "Mirror" "shows" "Mirror.shows" ic ie)(M9:V.Tm "Turn" "shows" "Turn.shows" ig ii)(M_:V.Tm "Rehue" "shows" "Rehue.shows" ij ik)(uV:eN V)(Hd:V.a "Motif" "hues")(uM:V.a "Motif" "shifts")(uP:V.a "Over" "above")(uS:V.a "Over" "below")(uT:V.a "Shifted" "form")(Hg:V.a "Shifted" "y")(Hf:V.a "Shifted" "x")(uQ:V.a "Mirror" "form")(uO:V.a "Turn" "form")(uR:V.a "Rehue" "form")(Hh:V.a "Rehue" "old")(Hi:V.a "Rehue" "new"):∀ j x,x∈(["Motif","Over","Shifted","Mirror","Turn","Rehue"]:List x9)->V.Q (1+j) x "shows" cB (ofX (bV j x)):=by
 intro j;induction j with
 |zero=>
  intro x hx;simp only[D2,E1,or_false] at hx;rcases hx with rfl|rfl|rfl|rfl|rfl|rfl
  .exact CalMth.never M5 (λds M R RX=>eL)
  .exact CalMth.never M6 (λds M R RX=>eL)
  .exact CalMth.never M7 (λds M R RX=>eL)
  .exact CalMth.never M8 (λds M R RX=>eL)
  .exact CalMth.never M9 (λds M R RX=>eL)
  .exact CalMth.never M_ (λds M R RX=>eL)
 |succ j JB=>
  intro x hx;simp only[D2,E1,or_false] at hx;rcases hx with rfl|rfl|rfl|rfl|rfl|rfl
  .exact ok_Motif_shows (n:=1+j) (j:=j) (by omega) M5 uV Hd uM
  .exact Dg (n:=1+j) (j:=j) (by omega) M6 uP uS JB
  .exact Dh (n:=1+j) (j:=j) (by omega) M7 uT Hg Hf JB
  .exact Di (n:=1+j) (j:=j) (by omega) M8 uQ JB
  .exact Dj (n:=1+j) (j:=j) (by omega) M9 uO JB
  .exact Dk (n:=1+j) (j:=j) (by omega) M_ uR Hh Hi JB
abbrev sP(V:Bx):Prop:=∀ x,x∈(["Motif","Over","Shifted","Mirror","Turn","Rehue"]:List x9)->V.Q 7 x "shows" cB (ofX (bV 6 x))
abbrev iU(V:Bx):Prop:=V.X 8 "cell_at" mH sq
def Dm(T:V.T "cell_at" mG mH)(LQ:nO V)(Ia:V.a "Pattern" "form")(uD:sP V):iU V:=by
 refine CalMM.nilX (Tx.okM T BS (λds M R RX h=>?_) (λf cdv A outer s H E J hr hx=>⟨_,((aB (cz (aZ (CalX.toM LQ) hx hr (aD (ac (aa 1) (ac (aa 2) ae)))))
   (aF (aO (aY uD hx hr (aM Ia (aj (aa 0))) (aD (ac (aa 1) (ac (aa 2) ae)))))))),λds M R RX b7 h=>?_⟩))
 .obtain⟨_,R0,A',⟨_,_,_,_,rfl,_⟩,_⟩:=h;rfl
 .obtain⟨rfl,R0,A',⟨p,d,x,y,rfl,⟨w,h,s,fs,rfl,e1,e2,hp⟩,ok,h1,h2⟩,hR,hX⟩:=h;obtain⟨k,v,e3,hv⟩:=hp.form;obtain⟨gs,rfl,_,hg⟩:=hv.objm;have O5:=ok.deep;refine⟨x,y,rfl,λhn=>?_,λhn=>?_⟩
  .exact⟨_,⟨rfl,rfl⟩,_,e3,p.cls,p.cls_mem,gs,⟨rfl,rfl⟩,hg,p,k,_,x,y,rfl,hv,ok.wf,by lia,rfl,hR _ _ (h1 hn)⟩
  .rw[b7];exact hX _ _ _ (h2 hn)
abbrev iV(V:Bx):Prop:=V.D 9 "row_from" mI A5
def Dn(T:V.T "row_from" il mI)(uA:V.m "range")(Ie:iU V)(uY:V.gs "SIGNS" ".123456"):iV V:=by
 refine Tx.okDW T BT (λds R h=>?_) (λf cdv A outer s H E J hr=>⟨_,((aq (aA (jw (jB rfl (compScope (by change cx _ (ah il) ["pattern","x","y","many"] _=true;decide+kernel)) uA (aa 3) (λcl s0 H0 fp=>(af (gm uY) (ax (CalX.no Ie) hr (ac (aa 0) (ac (ao (aa 1) (aa 4)) (ac (aa 2) ae))))))))))),λds R h=>?_⟩)
 .obtain⟨_,_,_,_,_,rfl,_⟩:=h;rfl
 .obtain⟨p,d,x,y,n,rfl,hd,ok,hn,Oy,IC,hy,hR⟩:=h;obtain⟨w,h,s,fs,rfl,_⟩:=id hd;refine⟨⟨by lia,by lia⟩,by rw[bM];lia,λk ys=>ys=(DV k).map λ(i:Nat)=>D.str ⟨#[bu (p.show (x+(i:Int)) y)]⟩,rfl,?_,?_⟩
  .rintro k v ys hk hl rfl;obtain⟨n9,rfl⟩:=bT hk;obtain⟨b0,b6⟩:=Pat.show_le ok.wf (by have:=ok.deep;lia) (x+(k:Int)) y;unfold bo at Oy IC;refine⟨p,.obj "Pattern" fs,x+(k:Int),y,rfl,hd,ok,λ_=>?_,λz=>z ⟨⟨by lia,by lia⟩,hy⟩⟩;refine⟨_,⟨by decide,rW b0 b6⟩,?_⟩;show _=Fb _ (DV (k+1));rw[EY,Ew];rfl
  .rintro ys hl rfl;rw[bM,FR];have e1:((DV n).map λ(i:Nat)=>D.str ⟨#[bu (p.show (x+(i:Int)) y)]⟩)=((DV n).map λ(i:Nat)=>(⟨#[bu (p.show (x+(i:Int)) y)]⟩:x9)).map D.str:=by rw[Fu];rfl
   rw[e1];refine⟨_,gC _,?_,?_⟩
   .have e2:(((DV n).map λ(i:Nat)=>(⟨#[bu (p.show (x+(i:Int)) y)]⟩:x9)).map (·.length)).sum=n*1:=by
     rw[jP (w:=1) (λl hl=>by obtain⟨i,_,rfl⟩:=El.mp hl;rfl),DZ,Eu]
    rw[e2,show("":x9).length=0 from rfl];simp;lia
   .rw[show Txt.join "" ((DV n).map λ(i:Nat)=>(⟨#[bu (p.show (x+(i:Int)) y)]⟩:x9))=ay p x y n from(StrLaws.glued_eq_join _ _).trans (rY (λi=>bu (p.show (x+(i:Int)) y)) n)];exact hR
abbrev nP(V:Bx):Prop:=V.D 10 "field_rows" mJ Bb
def Do(T:V.T "field_rows" im mJ)(uA:V.m "range")(Ig:iV V)(uN:V.a "Pattern" "shifts"):nP V:=by
 refine Tx.okDW T BU (λds R h=>?_) (λf cdv A outer s H E J hr=>⟨_,((aq (aA (jB rfl (compScope (by change cx _ (ah im) ["pattern"] _=true;decide+kernel)) uA (af (gl uN (aa 0)) ad) (λcl s0 H0 fp=>(ax Ig hr (ac (aa 0) (ac ad (ac (aa 1) (ac (af (gl uN (aa 0)) ad) ae)))))))))),λds R h=>?_⟩)
 .obtain⟨_,_,rfl,_⟩:=h;rfl
 .obtain⟨p,d,rfl,hd,ok,hR⟩:=h;obtain⟨w,h,s,fs,rfl,e1,e2,hp⟩:=id hd;have F:=hp.toFam;have sm:=ok.fits.small F;have wh:w*h<=720:=by
   obtain⟨w',h',s',f',hb⟩:=ok.fits;obtain⟨rfl,rfl,_⟩:=F.uniq f';exact hb
  refine⟨rfl,_,e2,_,rfl,⟨by lia,by lia⟩,by rw[bM];lia,λk ys=>ys=(DV k).map λ(y:Nat)=>D.str (ay p 0 (y:Int) w.toNat),rfl,?_,?_⟩
  .rintro k v ys hk hl rfl;obtain⟨n9,rfl⟩:=bT hk;refine⟨rfl,_,e2,_,rfl,p,.obj "Pattern" fs,0,k,w.toNat,by rw[Ev (by lia)],hd,ok,by lia,⟨by lia,by lia⟩,⟨by lia,by lia⟩,⟨by lia,by lia⟩,?_⟩;show _=Fb _ (DV (k+1));rw[EY,Ew];rfl
  .rintro ys hl rfl;rw[bM];exact hR w h s F wh sm.2.1 sm.2.2.2.1
abbrev C_measures(V:Bx):Prop:=V.D 1 "measures" mK Be
def Dp(T:V.T "measures" io mK)(uA:V.m "range"):C_measures V:=by
 refine Tx.okDW T BV (λds R h=>?_) (λf cdv A outer s H E J hr=>⟨_,((aq (aA (yY rfl (compScope (by change cx _ (ah io) ["number"] _=true;decide+kernel)) uA ad (ao (aa 0) ad) (λcl s0 H0 fp=>(bH (aG (aa 0) (aa 1)) ad)) (λcl s0 H0 fp=>(aa 1)))))),λds R h=>?_⟩)
 .obtain⟨_,rfl,_⟩:=h;rfl
 .obtain⟨n,rfl,n0,n1,hR⟩:=h;refine⟨⟨by lia,by lia,by lia,by lia⟩,by simp;lia,λk ys=>∃ ns:List Int,ys=ns.map D.int/\ns.length<=k/\∀ m,m∈ns↔1<=m/\m<=k/\n % m=0,⟨[],rfl,DU _,λm=>by simp;lia⟩,?_,?_⟩
  .rintro k v ys hk ⟨ns,rfl,hl,hm⟩;k_places;obtain⟨n9,rfl⟩:=range2_int hk;refine⟨by lia,?_⟩;refine okF (λc=>?_) (λc=>?_)
   .have c':=of_decide_eq_true c;refine⟨ns++[1+(k:Int)],by simp,by simp;lia,λm=>?_⟩;rw[Et,hm,DY];constructor
    .rintro(q|rfl)
     .lia
     .exact⟨by lia,by lia,c'⟩
    .rintro⟨a,b,c⟩;by_cases e:m=1+(k:Int)
     .exact .inr e
     .exact .inl ⟨a,by lia,c⟩
   .have c':=of_decide_eq_false c;refine⟨ns,rfl,by lia,λm=>?_⟩;rw[hm];constructor
    .rintro⟨a,b,c⟩;exact⟨a,by lia,c⟩
    .rintro⟨a,b,c⟩;refine⟨a,?_,c⟩;by_cases e:m=1+(k:Int)
     .subst e;exact absurd c c'
     .lia
  .rintro ys ⟨ns,rfl,hl,hm⟩;k_places;have e:((DV (n+1 - 1).toNat).map λk=>D.int (1+((k:Nat):Int))).length=n.toNat:=by simp
   rw[e] at hl hm;exact hR ns (by lia) λm=>by rw[hm];lia
abbrev nQ(V:Bx):Prop:=V.D 2 "round_row" mM Bc
def Dq(T:V.T "round_row" mL mM)(uV:eN V):nQ V:=by
 refine Tx.okDW T sc_round_row (λds R h=>?_) (λf cdv A outer s H E J hr=>⟨_,((ai (am 4 sc_round_row.nd (ax uV hr (ac (aa 0) (ac (aa 2) (ac (aa 3) ae)))))
   (ai (am 5 sc_round_row.nd (af (aa 1) (af (aa 4) ad)))
   (aq (aA (ao (dD (aa 5) (cL (af (aa 4) ad)) fo) (dD (aa 5) fo (cL (af (aa 4) ad))))))))),λds R h=>?_⟩)
 .obtain⟨_,_,_,_,_,_,rfl,_⟩:=h;rfl
 .obtain⟨p,w,h,s,x,y,rfl,F,w7,h7,hR⟩:=h;have f:=F.f;have y0:=Es y (show h≠0 by have:=f.h0;lia);have y1:=Em y f.h0;refine⟨λd=>d= .tup [.int (hmX w h s x y),.int (y % h)],⟨w,h,s,x,y,rfl,f.w0,f.h0,by lia,f.s0,by have:=f.sw;lia,rfl⟩,?_⟩;rintro _ rfl;k_places;refine⟨λd=>d= .str (ay p 0 (y % h) w.toNat),⟨_,rfl,_,?_,rfl⟩,?_⟩
  .have e:y % h=(((y % h).toNat:Nat):Int):=by lia
   rw[e];exact cv (by rw[D5,Ex (by lia)];simp)
  rintro _ rfl;k_places;have l:=fw p 0 (y % h) w.toNat;refine⟨_,rfl,by lia,_,rfl,by lia,?_⟩;have e:=su f.w0 f.h0 (λ_ _ q=>F.keeps q) x y;refine⟨?_,?_⟩
  .rw[<- bL,<- bL,<- D7,<- bC,e,cf];simp;lia
  .rw[e];exact hR
abbrev iW(V:Bx):Prop:=V.D 3 "changes_nothing" mO Bf
def Dr(T:V.T "changes_nothing" mN mO)(HI:V.m "enumerate")(LR:nQ V):iW V:=by
 refine Tx.okDW T sc_changes_nothing (λds R h=>?_) (λf cdv A outer s H E J hr=>⟨_,((ai (zf PassesOwn.never rfl HI (aa 1) (dg_cons 4 sc_changes_nothing.nd (dg_cons 5 sc_changes_nothing.nd fZ)) (aq (bn (bX (ax LR hr (ac (aa 0) (ac (aa 1) (ac (aa 2) (ac (ao (aa 3) (aa 4)) ae))))) (aa 5)) (aq (aA bx)) aV)))
   (aq (aA bx)))),λds R h=>?_⟩)
 .obtain⟨_,_,_,_,_,_,rfl,_⟩:=h;rfl
 .obtain⟨p,w,h,s,x,y,rfl,ok,F,w7,h7,hR⟩:=h;have e0:∀ k:Nat,k<h.toNat->((DV h.toNat).map λ(y:Nat)=>D.str (ay p 0 (y:Int) w.toNat))[k]?=be (.str (ay p 0 (k:Int) w.toNat)):=λk hk=>by simp[hk]
  refine⟨λk z=>∃ o1 o2,z=[be (.tup [.int w,.int h,.int s]),be (bc p w h),be (.int x),be (.int y),o1,o2]/\∀ j:Nat,j<k->ay p x (y+j) w.toNat=ay p 0 j w.toNat,⟨_,_,rfl,λj hj=>absurd hj (Fc j)⟩,?_,?_⟩
  .rintro k v z hk ⟨o1,o2,rfl,hj⟩;k_places;have n9:k<h.toNat:=by simpa using(Ec.mp hk).1
   rw[e0 k n9] at hk;cases hk;refine⟨p,w,h,s,x,y+k,rfl,F,w7,h7,ite2 (λc=>?_) (λc=>?_)⟩
   .refine hR false ?_;have c':¬ ay p x (y+k) w.toNat=ay p 0 k w.toNat:=λz=>by simp[z] at c
    rw[<- gH ok F.k];exact⟨(λz=>nomatch z),λz=>absurd (z k n9) c'⟩
   .have c':ay p x (y+k) w.toNat=ay p 0 k w.toNat:=by simpa using c
    refine⟨_,_,rfl,λj Oa=>?_⟩;by_cases e:j=k
    .subst e;exact c'
    .exact hj j (by lia)
  .rintro z ⟨o1,o2,rfl,hj⟩;k_places;rw[show((DV h.toNat).map λ(y:Nat)=>D.str (ay p 0 (y:Int) w.toNat)).length=h.toNat by simp] at hj;exact hR true ((gH ok F.k x y).mp hj|>λz=>⟨λ_=>z,λ_=>rfl⟩)
abbrev nR(V:Bx):Prop:=V.D 4 "least_width" mQ Bg
def Ds(T:V.T "least_width" ir mQ)(Ih:V.m "min")(Ii:C_measures V)(Ij:iW V):nR V:=by
 refine Tx.okDW T BW (λds R h=>?_) (λf cdv A outer s H E J hr=>⟨_,((aq (aA (qQ rfl Ih (ac (qP rfl (compScope (by change cx _ (ah ir) ["family","rows"] _=true;decide+kernel)) (ax Ii hr (ac (af (aa 0) ad) ae)) (λcl s0 H0 fp=>(bB (ax Ij hr (ac (aa 0) (ac (aa 1) (ac (aa 2) (ac ad ae))))))) (λcl s0 H0 fp=>(aa 2))) ae))))),λds R h=>?_⟩)
 .obtain⟨_,_,_,_,rfl,_⟩:=h;rfl
 .obtain⟨p,w,h,s,rfl,ok,F,w7,h7,hR⟩:=h;have w0:=F.f.w0;refine⟨_,rfl,w,rfl,w0,by lia,λns hl hm=>⟨by simp;lia,λk ys=>∃ ms:List Int,ys=ms.map D.int/\∀ m,m∈ms↔(∃ j:Nat,j<k/\ns[j]?=be m)/\p.Keeps m 0,⟨[],rfl,λm=>by simp⟩,?_,?_⟩⟩
  .rintro k v ys hk ⟨ms,rfl,v8⟩;k_places;obtain⟨m,em,rfl⟩:∃ m,ns[k]?=be m/\v= .int m:=by
    rw[D5] at hk;cases q:ns[k]? with
    |none=>rw[q] at hk;cases hk
    |some m=>rw[q] at hk;cases hk;exact⟨m,rfl,rfl⟩
   refine⟨p,w,h,s,m,0,rfl,ok,F,w7,h7,λb hb=>okF (λc=>?_) (λc=>?_)⟩
   .refine⟨ms++[m],by simp,λm'=>?_⟩;rw[Et,v8,DY];constructor
    .rintro(⟨⟨j,h1,h2⟩,h3⟩|rfl)
     .exact⟨⟨j,by lia,h2⟩,h3⟩
     .exact⟨⟨k,by lia,em⟩,hb.mp c⟩
    .rintro⟨⟨j,h1,h2⟩,h3⟩;by_cases e:j=k
     .subst e;rw[em] at h2;cases h2;exact .inr rfl
     .exact .inl ⟨⟨j,by lia,h2⟩,h3⟩
   .refine⟨ms,rfl,λm'=>?_⟩;rw[v8];constructor
    .rintro⟨⟨j,h1,h2⟩,h3⟩;exact⟨⟨j,by lia,h2⟩,h3⟩
    .rintro⟨⟨j,h1,h2⟩,h3⟩;by_cases e:j=k
     .subst e;rw[em] at h2;cases h2;rw[hb.mpr h3] at c;cases c
     .exact⟨⟨j,by lia,h2⟩,h3⟩
  .rintro ys ⟨ms,rfl,v8⟩;k_places;rw[DZ] at v8;have n8:∀ m,m∈ms↔(1<=m/\m<=w/\w % m=0)/\p.Keeps m 0:=λm=>by
    rw[v8,<- hm,G4];constructor
    .rintro⟨⟨j,_,h2⟩,h3⟩;exact⟨⟨j,h2⟩,h3⟩
    .rintro⟨⟨j,h2⟩,h3⟩;exact⟨⟨j,(Ec.mp h2).1,h2⟩,h3⟩
   have hw:w∈ms:=(n8 w).mpr ⟨⟨by lia,by lia,Int.emod_self⟩,F.keeps (InF.one w h s)⟩;refine⟨ms,rfl,G5 hw,λm LS v5=>hR m ?_⟩;obtain⟨⟨a,b,c⟩,d⟩:=(n8 m).mp LS;exact⟨a,b,c,d,λd' h1 h2 h3 h4=>v5 d' ((n8 d').mpr ⟨⟨h1,h2,h3⟩,h4⟩)⟩
abbrev nS(V:Bx):Prop:=V.D 4 "slant_at" mU Bh
def Dt(T:V.T "slant_at" mR mU)(uA:V.m "range")(Ij:iW V):nS V:=by
 refine Tx.okDW T sc_slant_at (λds R h=>?_) (λf cdv A outer s H E J hr=>⟨_,((ai (bY 4 PassesOwn.never rfl sc_slant_at.nd uA (aa 2) (aq (bn (bB (ax Ij hr (ac (aa 0) (ac (aa 1) (ac (aa 4) (ac (aa 3) ae)))))) (aq (aA (aa 4))) aV)))
   (aq (aA eZ)))),λds R h=>?_⟩)
 .obtain⟨_,_,_,_,_,_,rfl,_⟩:=h;rfl
 .obtain⟨p,w,h,s,m,y,rfl,ok,F,w7,h7,m0,m7,hR,hN⟩:=h;refine⟨⟨by lia,by lia⟩,λk z=>∃ o1,z=[be (.tup [.int w,.int h,.int s]),be (bc p w h),be (.int m),be (.int y),o1]/\∀ u,0<=u->u<(k:Int)->¬ p.Keeps u y,⟨_,rfl,λu a b=>by lia⟩,?_,?_⟩
  .rintro k v z hk ⟨o1,rfl,hj⟩;k_places;obtain⟨n9,rfl⟩:=bT hk;refine⟨p,w,h,s,k,y,rfl,ok,F,w7,h7,λb hb=>ite2 (λc=>?_) (λc=>?_)⟩
   .exact hR k (by lia) (by lia) (hb.mp c) hj
   .refine⟨_,rfl,λu a b'=>?_⟩;by_cases e:u=k
    .subst e;exact λz=>c (hb.mpr z)
    .exact hj u a (by lia)
  .rintro z ⟨o1,rfl,hj⟩;k_places;rw[bM] at hj;exact hN λt a b=>hj t a (by lia)
abbrev nU(V:Bx):Prop:=V.D 11 "least_shifts" mV Bj
def Du(T:V.T "least_shifts" iu mV)(Ih:V.m "min")(LU:nP V)(LV:nR V)(Ii:C_measures V)(JY:nS V)(uN:V.a "Pattern" "shifts"):nU V:=by
 refine Tx.okDW T sc_least_shifts (λds R h=>?_) (λf cdv A outer s H E J hr=>⟨_,((ai (am 1 sc_least_shifts.nd (gl uN (aa 0)))
   (ai (am 2 sc_least_shifts.nd (ax LU hr (ac (aa 0) ae)))
   (ai (am 3 sc_least_shifts.nd (ax LV hr (ac (aa 1) (ac (aa 2) ae))))
   (ai (am 4 sc_least_shifts.nd (qQ rfl Ih (ac (qP rfl (compScope (by change cx _ (ah iu) ["pattern","family","rows","width","height"] _=true;decide+kernel)) (ax Ii hr (ac (af (aa 1) ad) ae)) (λcl s0 H0 fp=>(wL (ax JY hr (ac (aa 1) (ac (aa 2) (ac (aa 3) (ac (aa 5) ae))))) eZ)) (λcl s0 H0 fp=>(aa 5))) ae)))
   (aq (aA (aR (ac (aa 3) (ac (aa 4) (ac (ax JY hr (ac (aa 1) (ac (aa 2) (ac (aa 3) (ac (aa 4) ae))))) ae))))))))))),λds R h=>?_⟩)
 .obtain⟨_,_,rfl,_⟩:=h;rfl
 .obtain⟨p,d,rfl,hd,ok,hR⟩:=h;obtain⟨w,h,s,fs,rfl,e1,e2,hp⟩:=id hd;have F:=hp.toFam;have sm:=ok.fits.small F;refine⟨λd=>d= .tup [.int w,.int h,.int s],⟨rfl,_,e2,rfl⟩,?_⟩;rintro _ rfl;k_places;refine⟨λd=>d=bc p w h/\w*h<=720,⟨p,_,rfl,hd,ok,λw' h' s' F' hb _ _=>?_⟩,?_⟩
  .obtain⟨rfl,rfl,rfl⟩:=F.uniq F';exact⟨rfl,hb⟩
  rintro _ ⟨rfl,hb⟩;k_places;obtain⟨w',h',s',L,d1,d2,Li,Mz,HE⟩:=Pat.least_ex F.k;have w0:=L.f.w0;have h0:=L.f.h0;refine⟨λd=>d= .int w',⟨p,w,h,s,rfl,ok,F,sm.2.1,sm.2.2.2.1,λm lw=>by rw[lw.eq F L]⟩,?_⟩;rintro _ rfl;k_places;refine⟨λd=>d= .int h',⟨_,rfl,h,rfl,sm.2.2.1,by lia,λns hl hm=>⟨by simp;lia,λk ys=>∃ ms:List Int,ys=ms.map D.int/\∀ m,m∈ms↔(∃ j:Nat,j<k/\ns[j]?=be m)/\∃ t,p.Keeps t m,⟨[],rfl,λm=>by simp⟩,?_,?_⟩⟩,?_⟩
  .rintro k v ys hk ⟨ms,rfl,v8⟩;k_places;obtain⟨m,em,rfl⟩:∃ m,ns[k]?=be m/\v= .int m:=by
    rw[D5] at hk;cases q:ns[k]? with
    |none=>rw[q] at hk;cases hk
    |some m=>rw[q] at hk;cases hk;exact⟨m,rfl,rfl⟩
   have Oz:(∃ t,p.Keeps t m)->∃ zs:List Int,ms.map D.int++[D.int m]=zs.map D.int/\∀ m,m∈zs↔(∃ j:Nat,j<k+1/\ns[j]?=be m)/\∃ t,p.Keeps t m:=λc=>by
    refine⟨ms++[m],by simp,λm'=>?_⟩;rw[Et,v8,DY];constructor
    .rintro(⟨⟨j,h1,h2⟩,h3⟩|rfl)
     .exact⟨⟨j,by lia,h2⟩,h3⟩
     .exact⟨⟨k,by lia,em⟩,c⟩
    .rintro⟨⟨j,h1,h2⟩,h3⟩;by_cases e:j=k
     .subst e;rw[em] at h2;cases h2;exact .inr rfl
     .exact .inl ⟨⟨j,by lia,h2⟩,h3⟩
   refine⟨p,w,h,s,w',m,rfl,ok,F,sm.2.1,sm.2.2.2.1,by lia,by lia,λt _ _ kt _=>Oz ⟨t,kt⟩,λno=>?_⟩;show ∃ zs:List Int,ms.map D.int=zs.map D.int/\∀ m,m∈zs↔(∃ j:Nat,j<k+1/\ns[j]?=be m)/\∃ t,p.Keeps t m;refine⟨ms,rfl,λm'=>?_⟩;rw[v8];constructor
   .rintro⟨⟨j,h1,h2⟩,h3⟩;exact⟨⟨j,by lia,h2⟩,h3⟩
   .rintro⟨⟨j,h1,h2⟩,h3⟩;by_cases e:j=k
    .subst e;rw[em] at h2;cases h2;obtain⟨t,kt⟩:=h3;exact absurd (L.row kt) (no _ (Es _ (by lia)) (Em _ w0))
    .exact⟨⟨j,by lia,h2⟩,h3⟩
  .rintro ys ⟨ms,rfl,v8⟩;k_places;rw[DZ] at v8;have n8:∀ m,m∈ms↔(1<=m/\m<=h/\h % m=0)/\∃ t,p.Keeps t m:=λm=>by
    rw[v8,<- hm,G4];constructor
    .rintro⟨⟨j,_,h2⟩,h3⟩;exact⟨⟨j,h2⟩,h3⟩
    .rintro⟨⟨j,h2⟩,h3⟩;exact⟨⟨j,(Ec.mp h2).1,h2⟩,h3⟩
   have hh:h'∈ms:=(n8 h').mpr ⟨⟨by lia,HE,Int.emod_eq_zero_of_dvd d2⟩,s',(L.lat _ _).mp (InF.two _ _ _)⟩;refine⟨ms,rfl,G5 hh,λm LS v5=>?_⟩;obtain⟨⟨a,b,c⟩,t,kt⟩:=(n8 m).mp LS;have h1:=(L.down kt (by lia)).1;have h2:=v5 h' hh;show D.int m=D.int h';rw[show m=h' by lia]
  rintro _ rfl;k_places;refine⟨p,w,h,s,w',h',rfl,ok,F,sm.2.1,sm.2.2.2.1,by lia,by lia,λt a b kt _=>⟨by show(3:Nat)<=1000;decide,?_⟩,λno=>absurd ((L.lat _ _).mp (InF.two _ _ _)) (no s' L.f.s0 L.f.sw)⟩;rw[L.slant a b kt];exact hR w' h' s' L (by lia) (by lia) (by lia)
abbrev iX(V:Bx):Prop:=V.D 12 "least_form" mW Bk
def Dv(T:V.T "least_form" iv mW)(uA:V.m "range")(uX:V.m "tuple")(LW:nU V)(Ig:iV V):iX V:=by
 refine Tx.okDW T sc_least_form (λds R h=>?_) (λf cdv A outer s H E J hr=>⟨_,((ai (am 1 sc_least_form.nd (ax LW hr (ac (aa 0) ae)))
   (ai (xq 2 rfl (compScope (by change cx _ (ah iv) ["pattern","family","rows"] _=true;decide+kernel)) sc_least_form.nd uA (af (aa 1) ad) (λcl s0 H0 fp=>(ax Ig hr (ac (aa 0) (ac ad (ac (aa 3) (ac (af (aa 1) ad) ae)))))))
   (aq (aA (aR (ac (af (aa 1) ad) (ac (af (aa 1) ad) (ac (af (aa 1) ad) (ac (zc uX (ac (aa 2) ae)) ae)))))))))),λds R h=>?_⟩)
 .obtain⟨_,_,rfl,_⟩:=h;rfl
 .obtain⟨p,d,rfl,hd,ok,hR⟩:=h;obtain⟨w0,h0,s0,fs,rfl,e1,e2,hp⟩:=id hd;refine⟨λd=>∃ w h s,d= .tup [.int w,.int h,.int s]/\p.Least w h s/\w*h<=720/\w<=720/\h<=720,⟨p,_,rfl,hd,ok,λw h s L a b c=>⟨w,h,s,rfl,L,a,b,c⟩⟩,?_⟩;rintro _ ⟨w,h,s,rfl,L,hb,w7,h7⟩;k_places;have w0:=L.f.w0;have h0:=L.f.h0;refine⟨λd=>d=bc p w h,⟨_,rfl,⟨by lia,by lia⟩,by rw[bM];lia,λk ys=>ys=(DV k).map λ(y:Nat)=>D.str (ay p 0 (y:Int) w.toNat),rfl,?_,?_⟩,?_⟩
  .rintro k v ys hk hl rfl;obtain⟨n9,rfl⟩:=bT hk;refine⟨_,rfl,p,.obj "Pattern" fs,0,k,w.toNat,by rw[Ev (by lia)],hd,ok,by lia,⟨by lia,by lia⟩,⟨by lia,by lia⟩,⟨by lia,by lia⟩,?_⟩;show _=Fb _ (DV (k+1));rw[EY,Ew];rfl
  .rintro ys hl rfl;rw[bM];rfl
  rintro _ rfl;k_places;exact⟨_,rfl,_,rfl,_,rfl,by show(4:Nat)<=1000;decide,hR w h s L hb w7 h7⟩
def Dw:SpD:=λds R=>∃ (p:Pat) (w h s:Nat),ds=[.tup [.int w,.int h,.int s],bc p w h]/\p.Kfam w h s/\p.Wf/\p.depth<=5/\w<=12/\h<=12/\∀ q:Pat,q.Wf->q.depth<=4->q.Fam w h s->(∀ x y,q.show x y=p.show x y)->R (.str q.text)
abbrev nV(V:Bx):Prop:=V.D 2 "_law_again" mY Dw
def Dx(T:V.T "_law_again" iy mY)(uA:V.m "range")(uK:V.m "str")(HW:iD V):nV V:=by
  refine Tx.okDW T sc__law_again (λds R h=>?_) (λf cdv A outer s H E J hr=>⟨_,((ai (am 2 sc__law_again.nd aw)
      (ai (qS 3 PassesOwn.never rfl sc__law_again.nd uA ad (af (aa 0) ad) ad (aq (qS 4 PassesOwn.never rfl sc__law_again.nd uA ad (af (aa 0) ad) ad (ai (qd 5 rfl (compScope (by change cx _ (ah iy) ["_law_three","_law_lines_here","_law_text","_law_j","_law_i","_law_block","_law_own"] _=true;decide+kernel)) sc__law_again.nd (dD (aa 1) (cL (aa 3)) (cL (ao (aa 3) ad))) (λcl s0 H0 fp=>(dD (aa 7) (cL (aa 4)) (cL (ao (aa 4) ad)))))
         (ai (am 6 sc__law_again.nd (ax HW hr (ac (aa 5) (ac (aR (ac (af (aa 0) ad) (ac ad ae))) (ac (aR (ac (af (aa 0) ad) (ac (af (aa 0) ad) ae))) ae)))))
         (ai (dA (jr (ao (aa 4) (aa 3)) ad) (aq (am 6 sc__law_again.nd (ao (ao (ao (ao (ao aw (cD uK (ac (aa 4) ae))) aw) (cD uK (ac (aa 3) ae))) aw) (aa 6)))) aV)
         (ai (dA (bX (aa 2) aw) (aq (am 6 sc__law_again.nd (ao (ao (ao (ao aw (aa 2)) aw) (aa 6)) aw))) aV)
         (aq (am 2 sc__law_again.nd (aa 6))))))))))
      (aq (aA (aa 2)))))),λds R h=>?_⟩)
  . obtain⟨_,_,_,_,rfl,_⟩:=h;rfl
  . obtain⟨p,w,h,s,rfl,K,wf,dp,hw,hh,hR⟩:=h;have w0:=K.f.w0;have h0:=K.f.h0;have s0:=K.f.s0;have sw:=K.f.sw;obtain⟨nI,uI,i1,i2,i3,i4⟩:=up8 (w:=w) (by lia) hw;obtain⟨nJ,uJ,j1,j2,j3,j4⟩:=up8 (w:=h) (by lia) hh;refine⟨λx=>x= .str "",rfl,?_⟩;rintro _ rfl;k_places;refine⟨_,rfl,nJ,uJ,λJ z=>∃ (t:x9) (o3 o4 o5 o6:Option D),z=[be (.tup [.int w,.int h,.int s]),be (bc p w h),be (.str t),o3,o4,o5,o6]/\Ag p w h s (J*nI) (AgS J 0) t,⟨_,_,_,_,_,rfl,.inl ⟨by lia,rfl,λu v a b=>by unfold AgS;lia⟩⟩,?_,?_⟩
    . rintro J v z hJ ⟨t,o3,o4,o5,o6,rfl,ag⟩;k_places;obtain⟨O6,rfl⟩:=sM hJ;have jh:8*J<h:=by lia
      refine⟨_,rfl,nI,uI,λI z=>∃ (t:x9) (o4 o5 o6:Option D),z=[be (.tup [.int w,.int h,.int s]),be (bc p w h),be (.str t),be (.int ((8*J:Nat):Int)),o4,o5,o6]/\Ag p w h s (J*nI+I) (AgS J I) t,⟨_,_,_,_,rfl,ag⟩,?_,?_⟩
      . rintro I v z hI ⟨t,o4,o5,o6,rfl,ag⟩;k_places;obtain⟨O7,rfl⟩:=sM hI;have iw:8*I<w:=by lia
        have fc:=Cd p (w:=w) (h:=h) (j:=8*J) (by lia);obtain⟨g1,g2,g3,g4⟩:=B6 (i:=8*I) (j:=8*J) K wf (by lia) hw hh iw jh;have Na:=B5 (i:=8*I) (j:=8*J) K wf (by lia) iw jh;refine⟨λx=>x= .lst ((bW p w h (8*I) (8*J)).map D.str),?_,?_⟩
        . refine⟨?_,λk ys=>ys=(DV k).map λ(y:Nat)=>D.str (ay p ((8*I:Nat):Int) ((8*J+y:Nat):Int) (min 8 (w - 8*I))),rfl,?_,?_⟩
          . rw[fc];simp;lia
          . rintro k v ys hk hl rfl;rw[fc] at hk;have n9:k<min 8 (h - 8*J):=by simpa using(Ec.mp hk).1
            rw[D5,Ex n9] at hk;cases hk;refine⟨by rw[fw];lia,?_⟩;rw[Ce p _ (show 8*I<=w by lia)];show _=Fb _ (DV (k+1));rw[EY,Ew];rfl
          . rintro ys hl hy;rw[fc,DZ,Eu] at hy;subst hy;unfold bW;rw[Fu];rfl
        rintro _ rfl;k_places;obtain⟨r1,r2,r3,r4,r5,r6⟩:=g3;have lb:=Pat.text_short ⟨r1,r2,r3,r4,r5,r6⟩ (p:=blk p w h s (8*I) (8*J)) (by simp[Pat.depth,blk]);have lS:=Pat.text_short g1 (by lia);refine⟨λx=>x= .str (blk p w h s (8*I) (8*J)).text,⟨_,rfl,by show(2:Nat)<=1000;decide,_,rfl,_,rfl,by show(2:Nat)<=1000;decide,_,_,_,_,_,rfl,r1,r2,r3,r4,r5,rfl⟩,?_⟩;rintro _ rfl;k_places;have b1:B12 ((8*I:Nat):Int):=by unfold B12;lia
        have b2:B12 ((8*J:Nat):Int):=by unfold B12;lia
        have n1:=br b1;have n2:=br b2;have l1:("s":x9).length=1:=rfl;have l2:(",":x9).length=1:=rfl;have l3:(":":x9).length=1:=rfl;have l4:("(":x9).length=1:=rfl;have l5:("|":x9).length=1:=rfl;have l6:(")":x9).length=1:=rfl;refine⟨λz=>z=[be (.tup [.int w,.int h,.int s]),be (bc p w h),be (.str t),be (.int ((8*J:Nat):Int)),be (.int ((8*I:Nat):Int)),be (.lst ((bW p w h (8*I) (8*J)).map D.str)),be (.str (blkS p w h s (8*I) (8*J)).text)],ite2 (λc=>?_) (λc=>?_),?_⟩
        . have c':0<8*I+8*J:=by have:=of_decide_eq_true c;lia
          refine⟨λx=>x= .str (blkS p w h s (8*I) (8*J)).text,⟨by lia,by lia,by rw[av];lia,by lia,by rw[av,av];lia,by rw[av,av,av];lia,by rw[av,av,av,av];lia,?_⟩,?_⟩
          . unfold blkS;rw[if_pos c'];rfl
          rintro _ rfl;k_places
        . have c':¬ 0<8*I+8*J:=λz=>c (decide_eq_true (by lia));show _=_;unfold blkS;rw[if_neg c']
        rintro _ rfl;k_places;refine⟨λz=>∃ t':x9,z=[be (.tup [.int w,.int h,.int s]),be (bc p w h),be (.str t),be (.int ((8*J:Nat):Int)),be (.int ((8*I:Nat):Int)),be (.lst ((bW p w h (8*I) (8*J)).map D.str)),be (.str t')]/\Ag p w h s (J*nI+(I+1)) (AgS J (I+1)) t',?_,?_⟩
        . rcases ag with⟨z,rfl,_⟩|⟨n1,q,rfl,e2,e3,e4,e5⟩
          . have iz:I=0:=by lia
            have jz:J=0:=by
              subst iz;rcases Nat.mul_eq_zero.mp (by lia:J*nI=0) with q|q<;>lia
            subst iz jz;exact⟨_,rfl,.inr ⟨by lia,_,rfl,g1,by lia,g4,Na.congr w0 h0 λu v a b c d=>by unfold AgS;lia⟩⟩
          . refine ite2 (λ_=>?_) λc=>by simp[Cf] at c
            have lq:=Pat.text_short e2 (by
              have:J*nI<=2:=by rcases(by lia:J=0\/J=1) with rfl|rfl<;>lia
              lia)
            refine⟨λx=>x= .str (Pat.over q (blkS p w h s (8*I) (8*J))).text,⟨by lia,by rw[av];lia,by rw[av,av];lia,by rw[av,av,av];lia,rfl⟩,?_⟩;rintro _ rfl;k_places;refine⟨_,rfl,.inr ⟨by lia,_,rfl,⟨e2,g1⟩,?_,⟨g4.f,λx y=>⟨λz=>⟨(e4.lat x y).mp z,(g4.lat x y).mp z⟩,λz=>(e4.lat x y).mpr z.1⟩⟩,(e5.over Na).congr w0 h0 λu v a b c d=>by unfold AgS;lia⟩⟩;rw[Pat.depth];lia
        rintro _ ⟨t',rfl,OA⟩;k_places;refine⟨λx=>x= .str t',rfl,?_⟩;rintro _ rfl;k_places;exact⟨t',_,_,_,rfl,OA⟩
      . rintro z ⟨t,o4,o5,o6,rfl,ag⟩;k_places;rw[DZ,Eu] at ag;refine⟨t,_,_,_,_,rfl,?_⟩;rw[FI];exact ag.congr (by lia) (by lia) (λu v a b c d=>by unfold AgS;lia) (by lia)
    rintro z ⟨t,o3,o4,o5,o6,rfl,ag⟩;k_places;rw[DZ,Eu] at ag;have mm:1<=nJ*nI/\nJ*nI<=4:=by
      rcases(by lia:nJ=1\/nJ=2) with rfl|rfl<;>lia
    rcases ag with⟨z,_⟩|⟨_,q,rfl,e2,e3,e4,e5⟩
    . lia
    refine hR q e2 (by lia) e4 λx y=>(e5 x y).1 ?_;have:=Em y h0;unfold AgS;lia
def Dy:SpD:=λds R=>∃ (p q:Pat) (d e:D),ds=[d,e]/\bE p d/\bE q e/\p.Ok/\q.Ok/\∀ b:Bool,(b=true↔∀ x y,p.show x y=q.show x y)->R (.bl b)
abbrev nW(V:Bx):Prop:=V.D 13 "one_pattern" ng Dy
def Dz(T:V.T "one_pattern" mZ ng)(Hj:iX V):nW V:=by
 refine Tx.okDW T BX (λds R h=>?_) (λf cdv A outer s H E J hr=>⟨_,((aq (aA (zl (ji hr) (ax Hj hr (ac (aa 0) ae)) (ax Hj hr (ac (aa 1) ae)))))),λds R h=>?_⟩)
 .obtain⟨_,_,_,_,rfl,_⟩:=h;rfl
 .obtain⟨p,q,d,e,rfl,hd,he,Jb,B_,hR⟩:=h;obtain⟨wd,j8,sd,fs,rfl,q1,q2,OB⟩:=hd;have hd:bE p (.obj "Pattern" fs):=⟨wd,j8,sd,fs,rfl,q1,q2,OB⟩;obtain⟨OC,HM,OD,Nb,rfl,q3,q4,LX⟩:=he;have he:bE q (.obj "Pattern" Nb):=⟨OC,HM,OD,Nb,rfl,q3,q4,LX⟩;refine⟨p,_,rfl,hd,Jb,λw h s L _ _ _=>⟨q,_,rfl,he,B_,λw' h' s' L' _ _ _=>?_⟩⟩;rw[sH,sH];refine⟨?_,hR _ (BZ Jb B_ L L')⟩;have e2:∀ a b:List x9,sh2 (.tup (a.map D.str)) (.tup (b.map D.str))=true:=λa b=>by
   show(false||(_ && _))=true;rw[sG,sG];rfl
  show(true && (true && (true && (sh2 _ _ && true))))=true;rw[e2];rfl
abbrev nX(V:Bx):Prop:=V.D 1 "_law_coordinate" nj zW
def DB(T:V.T "_law_coordinate" nh nj):nX V:=by
 refine Tx.okDW T BY (λds R h=>?_) (λf cdv A outer s H E J hr=>⟨_,((ai (bn (fb (aG (aa 0) ad) ad) (aq (aA (bA (aG (bv (aa 0) ad) ad) ad))) aV)
   (ai (bn (bH (aG (aa 0) ad) ad) (aq (aA (bA (aG (aE (bv (aa 0) ad) ad) (ao (aE ad (dS ad ad)) ad)) (dS ad ad)))) aV)
   (aq (aA (af (bR (ac (cw (dS ad ad)) (ac (bA ad (dS ad ad)) (ac (bA (dS ad ad) ad) (ac (dS ad ad) ae))))) (aG (bv (aa 0) ad) ad))))))),λds R h=>?_⟩)
 .obtain⟨_,rfl,_⟩:=h;rfl
 .obtain⟨v,rfl,hR⟩:=h;have Nc:((10:Int) ^ Ft 12)=1000000000000:=by decide
  refine⟨by decide,ite2 (λ_=>?_) (λ_=>?_)⟩
  .exact⟨⟨by decide,by decide⟩,by decide,hR _ (by lia) (by lia)⟩
  refine⟨by decide,ite2 (λ_=>?_) (λ_=>?_)⟩
  .refine⟨⟨by decide,by decide⟩,.inr ⟨by decide,by decide⟩,⟨by decide,by decide,by decide⟩,.inl ⟨by decide,by decide⟩,by decide,⟨by decide,by decide,by decide⟩,hR _ ?_ ?_⟩
   .rw[Nc];have:=cE (a:=v / 4*3360676521) (show(0:Int)<2*1000000000000+1 by decide);lia
   .rw[Nc];have:=cF (a:=v / 4*3360676521) (show(0:Int)<2*1000000000000+1 by decide);lia
  obtain⟨c,ec,h1,h2⟩:=zX (v / 4);exact⟨⟨by decide,by decide,by decide⟩,⟨by decide,by decide,by decide⟩,⟨by decide,by decide,by decide⟩,⟨by decide,by decide,by decide⟩,by simp,⟨by decide,by decide⟩,by decide,_,ec,hR c h1 h2⟩
def DC{fa:KF}{fd:Ph}(F:Fun V.K "law" "law" iA fa fd)(uA:V.m "range")(JZ:nv V)(uW:iC V)(LY:ny V)(J0:nB V)(J1:nM V)(J2:nN V)(Hj:iX V)(LZ:nV V)(Ic:iT V)(L0:nW V)(J3:nX V)(Ie:iU V)(HZ:iE V)(Ib:iS V)(uN:V.a "Pattern" "shifts"):FnOk V.P V.w V.K V.mg V.base (Exc.CX1 V.P V.w) 20 fa fd nn (lSp V.K dY):=by
 refine Fun.okDW F sc_law (λds R h=>?_) (λcdv A outer s H E J hr=>⟨_,((ai (am 1 sc_law.nd (ax JZ hr (ac (aa 0) (ac ad ae))))
   (ai (bY 2 PassesOwn.never rfl sc_law.nd uA (aG (ax uW hr (ac (aa 0) (ac ad ae))) ad) (ai (am 3 sc_law.nd (ax JZ hr (ac (aa 0) (ac (ao ad (aE ad (aa 2))) ae))))
    (aq (am 1 sc_law.nd (bR (ac (ao (ao (ao (ao aw (af (aa 1) ad)) aw) (af (aa 3) ad)) aw) (ac (ao (af (aa 1) ad) ad) (ac (ao (af (aa 1) ad) (af (aa 3) ad)) ae))))))))
   (ai (am 4 sc_law.nd (ax LY hr (ac (ax J0 hr (ac (af (aa 1) ad) (ac (aR (ac ad (ac ad (ac ad ae)))) ae))) (ac (aR (ac ad (ac ad (ac ad ae)))) ae))))
   (ai (am 5 sc_law.nd (ax J0 hr (ac (af (aa 1) ad) (ac (aa 4) ae))))
   (ai (am 6 sc_law.nd (ax (CalX.no J1) hr (ac (af (aa 1) ad) ae)))
   (ai (bn (ck (bB (ax J2 hr (ac (ax Hj hr (ac (aa 6) ae)) (ac (aa 4) (ac (aa 5) ae)))))) (aq (aA bx)) aV)
   (ai (am 7 sc_law.nd (ax (CalX.no J1) hr (ac (ax LZ hr (ac (aa 4) (ac (aa 5) ae))) ae)))
   (ai (bn (cV (cU (ck (bB (ax Ic hr (ac (gl uN (aa 7)) (ac (aa 4) ae))))) (dv (ck (bB (ax J2 hr (ac (ax Hj hr (ac (aa 7) ae)) (ac (aa 4) (ac (aa 5) ae))))))))) (aq (aA bx)) aV)
   (ai (bn (zh (ax L0 hr (ac (aa 6) (ac (aa 7) ae))) bx) (aq (aA bx)) aV)
   (ai (bY 2 PassesOwn.never rfl sc_law.nd uA ad (ai (am 8 sc_law.nd (ax J3 hr (ac (ax uW hr (ac (aa 0) (ac (aE ad (aa 2)) ae))) ae)))
    (ai (am 9 sc_law.nd (ax J3 hr (ac (ax uW hr (ac (aa 0) (ac (ao (aE ad (aa 2)) ad) ae))) ae)))
    (ai (am 10 sc_law.nd (ax (CalX.no Ie) hr (ac (aa 7) (ac (aa 8) (ac (aa 9) ae)))))
    (aq (bn (cV (cU (ck (bB (ax Ib hr (ac (aa 10) ae)))) (dv (bX (aa 10) (ax HZ hr (ac (af (aa 1) ad) (ac (aa 8) (ac (aa 9) ae)))))))) (aq (aA bx)) aV))))))
   (aq (aA bx))))))))))))),λds R h=>?_⟩)
 .obtain⟨ns,rfl,_⟩:=h;rfl
 .obtain⟨ns,rfl,hl,hR⟩:=h;refine⟨λx=>∃ (p:Pat) (n:Int),x=PD p n/\p.Wf/\p.depth<=1/\P12 p,⟨ns,12,rfl,by decide,λp h1 h2 h3=>⟨p,_,rfl,h1,h2,h3⟩⟩,?_⟩;rintro _ ⟨p,n,rfl,h1,h2,h3⟩;k_places;refine⟨ns,11,rfl,by decide,by decide,⟨by lia,by lia⟩,λk z=>∃ (p:Pat) (n:Int) (o2 o3:Option D),z=[be (.rol (ns.map D.int)),be (PD p n),o2,o3,q_,q_,q_,q_,q_,q_,q_]/\p.Wf/\p.depth<=k+1/\P12 p,⟨p,n,_,_,rfl,h1,by lia,h3⟩,?_,?_⟩
  .clear h1 h2 h3 n p;rintro k v z hk ⟨p,n,o2,o3,rfl,h1,h2,h3⟩;k_places;obtain⟨s9,rfl⟩:=bT hk;refine⟨λx=>∃ q:Pat,x=q.D/\q.Wf/\q.depth<=1/\P12 q,⟨.inl ⟨by lia,by lia⟩,ns,_,rfl,by lia,λq g1 g2 g3=>⟨q,rfl,g1,g2,g3⟩⟩,?_⟩;rintro _ ⟨q,rfl,g1,g2,g3⟩;k_places;have tp:=Pat.text_short h1 (by lia);have tq:=Pat.text_short g1 (by lia);have n1:=Pat.leaves_32 (p:=p) (by lia);have n2:=Pat.leaves_32 (p:=q) (by lia);have l1:("(":x9).length=1:=rfl;have l2:("|":x9).length=1:=rfl;have l3:(")":x9).length=1:=rfl;refine⟨λx=>x=PD (.over p q) (n+1),⟨_,rfl,by lia,by rw[av];lia,_,rfl,by rw[av,av];lia,by rw[av,av,av];lia,_,rfl,_,rfl,_,rfl,by rw[DZ,DZ];lia,by show(3:Nat)<=1000;decide,?_⟩,?_⟩
   .unfold PD;rw[Pat.leaves,Ew];rfl
   rintro _ rfl;k_places;exact⟨_,_,_,_,rfl,⟨h1,g1⟩,by rw[Pat.depth];lia,Ca h3 g3⟩
  clear h1 h2 h3 n p;rintro z ⟨p,n,o2,o3,rfl,wf,hd,h3⟩;k_places;rw[bM] at hd;have dp:p.depth<=3:=by lia
  have ok:p.Ok:=⟨wf,by lia,Cc wf h3⟩;have OE:=Cb h3;refine⟨λx=>∃ w h s:Int,x= .tup [.int w,.int h,.int s]/\p.Least w h s/\w<=12/\h<=12,⟨_,rfl,by show(3:Nat)<=1000;decide,p,12,12,0,rfl,wf,by lia,by decide,by decide,by decide,by decide,by show(3:Nat)<=1000;decide,p,12,12,0,rfl,ok,OE,by decide,by decide,λw h s L _ l1 l2=>⟨w,h,s,rfl,L,l1,l2⟩⟩,?_⟩;rintro _ ⟨wi,hi,si,rfl,L,lw,lh⟩;k_places;have w0:=L.f.w0;have h0:=L.f.h0;have s0:=L.f.s0;have sw:=L.f.sw;obtain⟨w,rfl⟩:∃ w:Nat,wi=w:=⟨wi.toNat,by lia⟩;obtain⟨h,rfl⟩:∃ h:Nat,hi=h:=⟨hi.toNat,by lia⟩;obtain⟨s,rfl⟩:∃ s:Nat,si=s:=⟨si.toNat,by lia⟩;have ar:(w:Int)*h<=144:=by
   have:=GN lw lh (by lia) (by decide);lia
  have K:p.Kfam w h s:=⟨L.f,λq=>(L.lat _ _).mp q⟩;refine⟨λx=>x=bc p w h,⟨_,rfl,p,w,h,s,rfl,wf,by lia,w0,by lia,h0,by lia,rfl⟩,?_⟩;rintro _ rfl;k_places;refine⟨λx=>bE p x,⟨_,rfl,so ok λd hd=>hd⟩,?_⟩;rintro _ ⟨w1,h1,s1,L3,rfl,c1,c2,c3⟩;k_places;have ip:bE p (.obj "Pattern" L3):=⟨w1,h1,s1,L3,rfl,c1,c2,c3⟩;refine⟨p,_,rfl,ip,ok,λw' h' s' L' _ _ _=>?_⟩;obtain⟨rfl,rfl,rfl⟩:=L'.uniq L;refine⟨p,w,h,s,rfl,by lia,by lia,?_⟩;refine⟨λx=>∃ (q:Pat),bE q x/\q.Ok/\q.Fam w h s/\∀ x y,q.show x y=p.show x y,⟨p,w,h,s,rfl,K,wf,by lia,by lia,by lia,λq g1 g2 g3 g4=>so ⟨g1,by lia,⟨_,_,_,g3,by lia⟩⟩ λd hd=>⟨q,hd,⟨g1,by lia,⟨_,_,_,g3,by lia⟩⟩,g3,g4⟩⟩,?_⟩;rintro d2 ⟨q,iq,B_,F,same⟩;obtain⟨w',h',s',fs,rfl,e1,e2,pq⟩:=id iq;obtain⟨rfl,rfl,rfl⟩:=pq.toFam.uniq F;have Lq:q.Least w h s:=⟨L.f,λx y=>(L.lat x y).trans ⟨λk a b=>by rw[same,same];exact k a b,λk a b=>by rw[<- same,<- same];exact k a b⟩⟩;refine⟨rfl,_,e2,[(w:Int),h,s],rfl,by show(3:Nat)<=1000;decide,?_⟩;refine⟨q,_,rfl,iq,B_,λw' h' s' L' _ _ _=>?_⟩;obtain⟨rfl,rfl,rfl⟩:=L'.uniq Lq;rw[Cg same];refine⟨p,w,h,s,rfl,by lia,by lia,?_⟩;refine⟨p,q,_,_,rfl,ip,iq,ok,B_,λb hb=>?_⟩;have bt:b=true:=hb.mpr λx y=>(same x y).symm;subst bt;refine⟨⟨by decide,by decide⟩,λk z=>∃ o2 o8 o9 L4:Option D,z=[be (.rol (ns.map D.int)),be (PD p n),o2,o3,be (.tup [.int w,.int h,.int s]),be (bc p w h),be (.obj "Pattern" L3),be (.obj "Pattern" fs),o8,o9,L4],⟨_,_,_,_,rfl⟩,?_,?_⟩
  .rintro k v z hk ⟨o2,o8,o9,L4,rfl⟩;k_places;obtain⟨s9,rfl⟩:=bT hk;refine⟨λx=>∃ v:Int,x= .int v/\bo v,⟨.inl ⟨by lia,by lia⟩,ns,_,rfl,by lia,_,rfl,λv a b=>⟨v,rfl,a,b⟩⟩,?_⟩;rintro _ ⟨x,rfl,hx⟩;k_places;refine⟨λx=>∃ v:Int,x= .int v/\bo v,⟨.inl ⟨by lia,by lia⟩,ns,_,rfl,by lia,_,rfl,λv a b=>⟨v,rfl,a,b⟩⟩,?_⟩;rintro _ ⟨y,rfl,hy⟩;k_places;refine⟨λd=>d= .int (p.show x y),A3 (R:=λd=>d= .int (p.show x y)) iq B_ hx hy (by rw[same]),?_⟩;rintro _ rfl;k_places;refine⟨_,rfl,_,rfl,p.leaves,x,y,rfl,Pat.leaf_ok wf (by lia),?_⟩;rw[Pat.show_leaves wf (by lia)];exact ite2 (λc=>absurd c (by simp)) λ_=>⟨_,_,_,_,rfl⟩
  .rintro z ⟨o2,o8,o9,L4,rfl⟩;k_places;exact hR
end
local macro_rules | `(tactic| walk_at "b1") => `(tactic| exact yV λ_ _ _ _ _ _ _ => rfl)
local macro_rules | `(tactic| walk_at "b2") => `(tactic| exact bind2 λ_ _ _ _ _ _ _ _ => rfl)
local macro_rules | `(tactic| walk_at "b3") => `(tactic| exact bind3 λ_ _ _ _ _ _ _ _ _ => rfl)
local macro_rules | `(tactic| walk_at "b4") => `(tactic| exact bind4 λ_ _ _ _ _ _ _ _ _ _ => rfl)
local macro_rules | `(tactic| walk_at "b5") => `(tactic| exact bind5 λ_ _ _ _ _ _ _ _ _ _ _ => rfl)
structure TopIn(K:DR):Prop where
 uES:FnIn K "_law_at" ke
 uFB:FnIn K "_law_draws" kh
 uFT:FnIn K "_law_lines" kj
 uIA:FnIn K "_law_motif_text" ko
 uED:FnIn K "_law_wrapped" gI
 uHM:FnIn K "_law_own_motif" ku
 uEV:FnIn K "_law_keeps" ky
 uDY:FnIn K "_law_least" kA
 uFH:FnIn K "_law_on" kC
 uHF:FnIn K "_law_leaf_shows" kE
 uGW:FnIn K "_law_shows" kG
 uFE:FnIn K "_law_table" gJ
 uGR:FnIn K "line_from" kP
 uGX:FnIn K "lines_from" kR
 uHJ:FnIn K "number_from" kT
 uGJ:FnIn K "shift_from" kW
 uIC:FnIn K "levelled" kY
 uFM:FnIn K "spread" lf
 uFW:FnIn K "home" lm
 uHW:FnIn K "hues_by_home" lr
 uEY:FnIn K "motif_from" lz
 uGL:FnIn K "over_from" gK
 uFN:FnIn K "shifted_from" gL
 uFU:FnIn K "rehue_from" gM
 uGT:FnIn K "form_from" gN
 uEP:FnIn K "measure" lZ
 uEM:FnIn K "met" me
 uER:FnIn K "mirrored" mh
 uHQ:FnIn K "turned" mj
 uGV:FnIn K "read" mo
 uFZ:FnIn K "_law_whole" mv
 uHX:FnIn K "_law_numbers" mx
 uFP:FnIn K "_law_is_form" mB
 uGZ:FnIn K "refuse_far" mD
 uGO:FnIn K "cell_at" mG
 uHR:FnIn K "row_from" il
 uHN:FnIn K "field_rows" im
 uGC:FnIn K "measures" io
 uGS:FnIn K "round_row" mL
 uEK:FnIn K "changes_nothing" mN
 uEB:FnIn K "least_width" ir
 uHV:FnIn K "slant_at" mR
 uEJ:FnIn K "least_shifts" iu
 uGH:FnIn K "least_form" iv
 uFO:FnIn K "_law_again" iy
 uGQ:FnIn K "one_pattern" mZ
 uEZ:FnIn K "_law_coordinate" nh
 uHL:FnIn K "law" iA
 uGE:NnIn K "len"
 uFX:NnIn K "range"
 uGD:NnIn K "str"
 uFI:NnIn K "list"
 uIE:NnIn K "int"
 uHP:NnIn K "abs"
 uGU:NnIn K "enumerate"
 uDZ:NnIn K "isinstance"
 uGK:NnIn K "bool"
 uHK:NnIn K "tuple"
 uEF:NnIn K "max"
 uFJ:NnIn K "min"
 uBY:ClIn K "Reading"
 uBE:ClIn K "Motif"
 uCP:ClIn K "Mirror"
 uCY:ClIn K "Turn"
 uBT:ClIn K "Over"
 uBJ:ClIn K "Shifted"
 uBF:ClIn K "Rehue"
 uDF:ClIn K "Pattern"
 uEI:InIn K "Motif" "Motif.__init__" lv
 uHC:InIn K "Mirror" "Mirror.__init__" lD
 uET:InIn K "Turn" "Turn.__init__" lG
 uHO:InIn K "Over" "Over.__init__" lJ
 uGA:InIn K "Shifted" "Shifted.__init__" lL
 uFR:InIn K "Rehue" "Rehue.__init__" lN
 uHG:InIn K "Reading" "Reading.__init__" lQ
 uFK:InIn K "Pattern" "Pattern.__init__" lU
 uFA:MtIn K "Reading" "may_take" "Reading.may_take" kL
 uFL:MtIn K "Reading" "take" "Reading.take" kN
 uHI:MtIn K "Motif" "family" "Motif.family" gO
 uEN:MtIn K "Over" "family" "Over.family" gP
 uFY:MtIn K "Shifted" "family" "Shifted.family" gR
 uEU:MtIn K "Mirror" "family" "Mirror.family" gT
 uHB:MtIn K "Turn" "family" "Turn.family" gW
 uFC:MtIn K "Rehue" "family" "Rehue.family" gY
 uID:MtIn K "Motif" "shows" "Motif.shows" hU
 uEO:MtIn K "Over" "shows" "Over.shows" hV
 uFS:MtIn K "Shifted" "shows" "Shifted.shows" ia
 uHY:MtIn K "Mirror" "shows" "Mirror.shows" ic
 uEQ:MtIn K "Turn" "shows" "Turn.shows" ig
 uEW:MtIn K "Rehue" "shows" "Rehue.shows" ij
 uFV:NoIn K "Reading" "text"
 uHS:NoIn K "Reading" "place"
 uHE:NoIn K "Motif" "place"
 uGG:NoIn K "Motif" "shifts"
 uEC:NoIn K "Motif" "hues"
 uEH:NoIn K "Mirror" "form"
 uEX:NoIn K "Turn" "form"
 uGP:NoIn K "Over" "above"
 uEG:NoIn K "Over" "below"
 uHU:NoIn K "Shifted" "form"
 uGY:NoIn K "Shifted" "x"
 uGF:NoIn K "Shifted" "y"
 uHD:NoIn K "Rehue" "form"
 uDX:NoIn K "Rehue" "old"
 uHZ:NoIn K "Rehue" "new"
 uFG:NoIn K "Pattern" "text"
 uEA:NoIn K "Pattern" "shifts"
 uIB:NoIn K "Pattern" "form"
 uHA:CsIn K "SIGNS" ".123456"
 uEE:CiIn K "LONGEST" 8
 uGM:CiIn K "DEEP" 5
 uEL:CiIn K "MOST" 720
 uFF:CiIn K "FAR" 1000000000000
 eb:EbIn K
 uAA:E1In K "WrongSign" "WrongSign.__init__" kJ
 uAQ:EaIn K "WrongSign"
 uGN:NoIn K "WrongSign" "place"
 uAE:E1In K "OneLine" "OneLine.__init__" lW
 uBA:EaIn K "OneLine"
 uHH:NoIn K "OneLine" "place"
 uGB:E0In K "TooGreat"
 uGI:E0In K "TooFar"
 uFD:EiIn K "MotifError"
def DD{V:Bx}{h:Heap}(t:TopIn V.K)(X:V.K.In h)(G:h.Ns O8 V.mg){fa:KF}{fd:Ph}(F:Fun V.K "law" "law" iA fa fd):FnOk V.P V.w V.K V.mg V.base (Exc.CX1 V.P V.w) 20 fa fd nn (lSp V.K dY):=by
 have uB:=mg_none_of X G t.uGE;have uA:=mg_none_of X G t.uFX;have uK:=mg_none_of X G t.uGD;have K6:=mg_none_of X G t.uFI;have uL:=mg_none_of X G t.uIE;have HH:=mg_none_of X G t.uHP;have HI:=mg_none_of X G t.uGU;have uU:=mg_none_of X G t.uDZ;have LM:=mg_none_of X G t.uGK;have uX:=mg_none_of X G t.uHK;have LN:=mg_none_of X G t.uEF;have Ih:=mg_none_of X G t.uFJ;have Hb:=t.uBY.a t.uFV;have uE:=t.uBY.a t.uHS;have Hc:=t.uBE.a t.uHE;have uM:=t.uBE.a t.uGG;have Hd:=t.uBE.a t.uEC;have uQ:=t.uCP.a t.uEH;have uO:=t.uCY.a t.uEX;have uP:=t.uBT.a t.uGP;have uS:=t.uBT.a t.uEG;have uT:=t.uBJ.a t.uHU;have Hf:=t.uBJ.a t.uGY;have Hg:=t.uBJ.a t.uGF;have uR:=t.uBF.a t.uHD;have Hh:=t.uBF.a t.uDX;have Hi:=t.uBF.a t.uHZ;have LD:=t.uDF.a t.uFG;have uN:=t.uDF.a t.uEA;have Ia:=t.uDF.a t.uIB;have uY:=t.uHA.g X G;have JV:=t.uEE.g X G;have Jp:=t.uGM.g X G;have LH:=t.uEL.g X G;have LO:=t.uFF.g X G;have uAQ:=t.uAA.a t.eb t.uAQ X G;have Lo:=t.uGN.all;have uBA:=t.uAE.a t.eb t.uBA X G;have LF:=t.uHH.all;have LK:=t.uGB.k t.eb X G;have LP:=t.uGI.k t.eb X G;have H8:=t.uFD.b X G;have uW:iC V:=Ch (t.uES.tx X G (by walk_at "b2")) uB;have Lf:nq V:=Ci (t.uFB.tx X G (by walk_at "b3")) uA uW;have Lg:nt V:=Cj (t.uFT.tx X G (by walk_at "b1")) uA uB;have HW:iD V:=Ck (t.uIA.tx X G (by walk_at "b3")) uK;have Lh:nu V:=Cl (t.uED.tx X G (by walk_at "b2")) uK K6 uL;have JZ:nv V:=Cn (t.uHM.tx X G (by walk_at "b2")) Lf Lg HW Lh;have JT:nw V:=Co (t.uEV.tx X G (by walk_at "b4")) uA;have LY:ny V:=Cp (t.uDY.tx X G (by walk_at "b2")) JT;have Lk:nz V:=Cq (t.uFH.tx X G (by walk_at "b4"));have Ln:nA V:=Cr (t.uHF.tx X G (by walk_at "b3")) uA uB uL Lk;have HZ:iE V:=Cs (t.uGW.tx X G (by walk_at "b3")) Ln;have J0:nB V:=Ct (t.uFE.tx X G (by walk_at "b2")) uA HZ;have uAA:iF V:=Cu (t.uAA.txe t.eb X G (by walk_at "b2")) H8 uAQ Lo;have uG:dm V:=Cw (t.uFA.txm t.uBY (by walk_at "b2")) uB Hb uE;have uC:cJ V:=Cy (t.uFL.txm t.uBY (by walk_at "b2")) uE uG uAA;have JU:nC V:=Cz (t.uGR.tx X G (by walk_at "b3")) uA uY uC uG;have Lv:nD V:=CA (t.uGX.tx X G (by walk_at "b1")) uB JU JV uG;have JX:nE V:=CB (t.uHJ.tx X G (by walk_at "b1")) uL uG uC;have uZ:fE V:=CC (t.uGJ.tx X G (by walk_at "b1")) JX uC;have H9:iG V:=CD (t.uIC.tx X G (by walk_at "b2"));have H_:iH V:=CF (t.uFM.tx X G (by walk_at "b2")) HH H9;have uV:eN V:=CG (t.uFW.tx X G (by walk_at "b3"));have Lu:nF V:=CH (t.uHW.tx X G (by walk_at "b2")) HI uV uY;have Lw:nG V:=CI (t.uEI.txi X G (by walk_at "b5")) H_ Lu Hc uM Hd;have Jo:iI V:=CJ (t.uEY.tx X G (by walk_at "b1")) Lv uZ uE Lw uC;have Jq:iJ V:=CK (t.uHC.txi X G (by walk_at "b2")) uQ;have Jr:iK V:=CL (t.uET.txi X G (by walk_at "b2")) uO;have Jk:iL V:=CM (t.uHO.txi X G (by walk_at "b3")) uP uS;have Jl:iM V:=CN (t.uGA.txi X G (by walk_at "b4")) uT Hf Hg;have Jn:iN V:=CO (t.uFR.txi X G (by walk_at "b4")) uR Hh Hi;have uH:sN V:=CU (t.uGL.tx X G (by walk_at "b2")) (t.uFN.tx X G (by walk_at "b2")) (t.uFU.tx X G (by walk_at "b2")) (t.uGT.tx X G (by walk_at "b2")) Jk uC uZ Jl uL Jn Jo Jp Jq Jr uG 6;have LI:nH V:=CV (t.uHG.txi X G (by walk_at "b2")) Hb uE;have LJ:nK V:=CW (t.uFK.txi X G (by walk_at "b4")) LD uN Ia;have uAE:iO V:=CY (t.uAE.txe t.eb X G (by walk_at "b2")) H8 uBA LF;have Jt:nL V:=CZ (t.uEP.tx X G (by walk_at "b2")) H9;have Ju:iP V:=C0 (t.uEM.tx X G (by walk_at "b2")) Jt;have Jw:iQ V:=C1 (t.uER.tx X G (by walk_at "b1"));have Jy:iR V:=C3 (t.uHQ.tx X G (by walk_at "b1")) H_;have uF:sO V:=C9 (t.uHI.txm t.uBE (by walk_at "b1")) (t.uEN.txm t.uBT (by walk_at "b1")) (t.uFY.txm t.uBJ (by walk_at "b1")) (t.uEU.txm t.uCP (by walk_at "b1")) (t.uHB.txm t.uCY (by walk_at "b1")) (t.uFC.txm t.uBF (by walk_at "b1")) uM Hc uAE Ju uP uS uT Jw uQ Jy uO uR 6;have J1:nM V:=Da (t.uGV.tx X G (by walk_at "b1")) uB uH LH uE LI LJ uF uAA LK;have Ib:iS V:=Db (t.uFZ.tx X G (by walk_at "b1")) uU LM uL;have Ic:iT V:=Dc (t.uHX.tx X G (by walk_at "b2")) uB uU uX uA Ib;have J2:nN V:=De (t.uFP.tx X G (by walk_at "b3")) uB uU uX uA uK Ic;have LQ:nO V:=Df (t.uGZ.tx X G (by walk_at "b2")) LN HH LO LP;have uD:sP V:=Dl (t.uID.txm t.uBE (by walk_at "b3")) (t.uEO.txm t.uBT (by walk_at "b3")) (t.uFS.txm t.uBJ (by walk_at "b3")) (t.uHY.txm t.uCP (by walk_at "b3")) (t.uEQ.txm t.uCY (by walk_at "b3")) (t.uEW.txm t.uBF (by walk_at "b3")) uV Hd uM uP uS uT Hg Hf uQ uO uR Hh Hi 6;have Ie:iU V:=Dm (t.uGO.tx X G (by walk_at "b3")) LQ Ia uD;have Ig:iV V:=Dn (t.uHR.tx X G (by walk_at "b4")) uA Ie uY;have LU:nP V:=Do (t.uHN.tx X G (by walk_at "b1")) uA Ig uN;have Ii:C_measures V:=Dp (t.uGC.tx X G (by walk_at "b1")) uA;have LR:nQ V:=Dq (t.uGS.tx X G (by walk_at "b4")) uV;have Ij:iW V:=Dr (t.uEK.tx X G (by walk_at "b4")) HI LR;have LV:nR V:=Ds (t.uEB.tx X G (by walk_at "b2")) Ih Ii Ij;have JY:nS V:=Dt (t.uHV.tx X G (by walk_at "b4")) uA Ij;have LW:nU V:=Du (t.uEJ.tx X G (by walk_at "b1")) Ih LU LV Ii JY uN;have Hj:iX V:=Dv (t.uGH.tx X G (by walk_at "b1")) uA uX LW Ig;have LZ:nV V:=Dx (t.uFO.tx X G (by walk_at "b2")) uA uK HW;have L0:nW V:=Dz (t.uGQ.tx X G (by walk_at "b2")) Hj;have J3:nX V:=DB (t.uEZ.tx X G (by walk_at "b1"));exact DC F uA JZ uW LY J0 J1 J2 Hj LZ Ic L0 J3 Ie HZ Ib uN
def all_mk{l:FW}{w:Pe}{K:DR}{h:Heap}{mg:x9->Option KB}{fa:KF}(X:K.In h)(G:h.Ns O8 mg)(IT:mg "law"=be (.ref fa))(t:TopIn K):
  ∃ fd:Ph,(∀ (s:KM) (v:KB),Qi s fd ⟨[v],[]⟩ [("_law_script",v)])/\∀ base:Heap,K.In base->base.Ns O8 mg->FnOk l.prog w K mg base (Exc.CX1 l.prog w) 20 fa fd ["_law_script"] (lSp K dY):=by
 obtain⟨fd,b,F⟩:=t.uHL.law X G IT (λ_ _ _ _ _ _ _=>rfl);exact⟨fd,b,λbase _ _=>DD (V:=⟨l.prog,w,K,mg,base⟩) t X G F⟩
def law_walk{l:FW}{q:O9}{h_:List x9}{XP:(x9->Option KB)->Heap->Prop}{YP:Pe->Heap->Prop}{d:DefRec}{K:Params->DR}(hn:l.most=be 63)(Iv:d.params.defaults=[])
  (hY:∀ (w:Pe) (h:Heap),YP w h->(K w.params).In h)
  (F:∀ (w:Pe) (mg:x9->Option KB) (fa:KF) (h:Heap),(K w.params).In h->h.Ns O8 mg->mg d.name=be (.ref fa)->
   ∃ fd:Ph,(∀ (s:KM) (u:KB),Qi s fd ⟨[u],[]⟩ [("_law_script",u)])/\∀ base:Heap,(K w.params).In base->base.Ns O8 mg->FnOk l.prog w (K w.params) mg base (Exc.CX1 l.prog w) 20 fa fd ["_law_script"] (lSp (K w.params) dY)):
  Gq q h_ XP YP l.row.toRowW d [] (λf vs=>PySem.call f vs):=
 L2.walk_of (n:=63) (k:=20) (x:="_law_script") (CX:=λw=>Exc.CX1 l.prog w) (sp:=λw=>lSp (K w.params) dY) hn (by decide) Iv ⟨rfl,by decide,by decide⟩ hY F (λ_ _ a ns hl _ hS=>wZ hl hS) λ_ _ _ _ _ h=>by obtain⟨_,_,_,_,_,_,_,_,_,_,_,_,_,_,_,z⟩:=h;exact z
end My
open PySem PySem.W PyProof.Rows
set_option maxRecDepth 100000 in
set_option maxHeartbeats 0 in
theorem PySem.Challenge.cw_motiffield_k45_whole_least_again_holds : PySem.Challenge.rw_motiffield_k45_whole_least_again.Holds := by
  w_on; o_law; k_head; (case hw => w_witness2)
  k_fill
  refine My.law_walk (l := PySem.Challenge.rw_motiffield_k45_whole_least_again) rfl rfl (λw h Y => kIn_of Y) ?F
  case F =>
    intro w mg fa h KX G k8;refine My.all_mk KX G k8 ?_;constructor
    all_goals first | ((with_reducible refine' My.fnIn_mk ?a ?l ?c ?k); (case a => k_is); (case l => k_is); (case c => k_is); (case k => k_is)) | ((with_reducible refine' My.nnIn_mk ?a); (case a => k_is)) | ((with_reducible refine' My.noIn_mk ?a ?b); (case a => k_is); (case b => k_is)) | ((with_reducible refine' My.mtIn_mk ?a ?b ?i ?l ?c ?k); (case a => k_is); (case b => k_is); (case i => k_is); (case l => k_is); (case c => k_is); (case k => k_is)) | ((with_reducible refine' My.inIn_mk ?a ?mk ?b ?i ?kp ?l ?c ?k); (case a => k_is); (case mk => k_is); (case b => k_is); (case i => k_is); (case kp => k_is); (case l => k_is); (case c => k_is); (case k => k_is)) | ((with_reducible refine' My.clIn_mk ?a ?pg ?hd ?po ?sa ?ha ?hn ?ht ?hm); (case a => k_is); (case pg => k_is); (case hd => k_is); (case po => k_is); (case sa => k_is); (case ha => k_is); (case hn => k_is); (case ht => k_is); (case hm => k_is)) | ((with_reducible refine' My.ciIn_mk ?a); (case a => k_is)) | ((with_reducible refine' My.csIn_mk ?a); (case a => k_is)) | ((with_reducible refine' My.ebIn_mk ?a ?kp ?o ?nk ?al ?ni); (case a => k_is); (case kp => k_is); (case o => k_is); (case nk => k_is); (case al => rfl); (case ni => k_is)) | ((with_reducible refine' My.e0In_mk ?b ?a ?kp ?o ?nk ?al ?ni); (case b => k_is); (case a => k_is); (case kp => k_is); (case o => k_is); (case nk => k_is); (case al => rfl); (case ni => k_is)) | ((with_reducible refine' My.e1In_mk ?b ?a ?kp ?o ?j ?i ?l ?c ?k); (case b => k_is); (case a => k_is); (case kp => k_is); (case o => k_is); (case j => k_is); (case i => k_is); (case l => k_is); (case c => k_is); (case k => k_is)) | ((with_reducible refine' My.eaIn_mk ?a ?b); (case a => k_is); (case b => k_is)) | ((with_reducible refine' My.eiIn_mk ?a ?b ?c ?d); (case a => k_is); (case b => k_is); (case c => k_is); (case d => k_is))
end
