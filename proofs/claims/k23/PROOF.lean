import PyProof.Rows.All
import Wide.All
import OpenK.AllK
import Wide.FinOn
import Lean
import PyProof.EqAt
import PyProof.EqKinds
import PyProof.TupleCall
import PySem.Challenge.RW_motiffield_k23_first_parting
set_option compiler.extract_closed false
set_option Elab.async false
set_option linter.all false
set_option maxRecDepth 100000
set_option maxHeartbeats 4000000
open PySem renaming Str->D'
open Option renaming some->be,none->m9
open PySem renaming Value->KB,Addr->KF,Shared->KM,wpAny_bind->Os,mainGlobals->Pi,Program->P3,Stmt->RO,Expr->RP,wpAny_pure->RQ,model->RR,wpAny->RS,World->RT,Around->RU,starEach->RV,assignEach->RW,FuncData->RY,attributeBase->RZ,eval->R1,wpAny_mono->R3,wpAny_Call_Name_kw->R4,Pos->R5,wpAny_newObj_type->R6,wpAny_loadPart_at->R8,compareOp->R9,Obj->R',bootBuiltins->R_,swapsWith->Sa,excClassObj->Sb,binaryOp->Sd,PassesOwn->Se,wpAny_passesOwn->Sf,behindInMarks->Sg,sysModules->Sh,wpAny_standAt->Si,wpAny_holding->Sj,Scope->Sk,ExceptHandler->Sl,wpAny_getItem_str_slice->Sm,swapsWithSole->Sn,swappedStores->So,wpAny_field->Sq,sliceBounds->Sr,keywordEach->Ss,NameKind->Su,wpAny_execs_nil->Sv,backTo->Sw,assign->Sx,wpAny_isSubtype_exc->Sy,holding->Sz,codeAny_mono->SA,bindArgs->SB,Env->SE,wpAny_truthy_bool->SG,wpAny_pyIter_enum->SH,wpAny_assign_Name->SI,tupleKind->SK,wpAny_call->SL,standAt->SM,rawInt->SN,codeAny->SO,post_val_or_str->SQ,letOwnedTupleGo->SR,wpAny_setField->SS,sizeLine_eq->SU,backToKw->SV,noteFrame->SW,Keyword->SX,callerA->SZ,BindsTo->S2,plainObj_wpAny_Assign_Attribute->S3,getMethod->S4,IsPart->S5,atKey->S6,valueAt->S7,wpAny_letOwnedTupleGo_enum->S8,dictSetDefault->S9,compEnvC->S',wpAny_comprehension_free->S_,assignInOrder->Ta,setFlight->Tb,cLine->Tc,bindL->Td,bindC->Tf,seqIndex_neg->Th,leaving->Tj,getItem->Tn,codeAny_compStart_list->To,call_meetsIn->Tp,Sem->Tq,wpAny_newFunctionEnv->Tr,seqIndex_of->Ts,lookup_relabel_local->Tt,codeAny_call_builtin->Tu,bindName->Tv,GenState->Tw,wpAny_call_exc_subT->Tz,wpAny_rule->TB,wpAny_entryPlaceOf->TC,wpAny_Name->TF,typeIs_str->TJ,tupleKind_room_in1->TK,isInstance->TL,builtinsNs->TM,wpAny_frameOf_fun->TN,relabel->TQ,foldedSetIterable->TR,Model->TV,CmpOp->TX
open PyProof.Rows renaming envOfC->R7,AllBare->SJ,assignInOrder_cons->SY,IntsAre->S1,subscriptTail_builtinR->Tg,assignInOrder_nil->TU
open PySem.W renaming Frag->Ex,findIn->Fw,mroIn->Gb,OpenLaw->Hr,clsIn->Hu,WalkO->HR
open List renaming mem_singleton->Fl,mem_cons->Fp,length_cons->Fq,length_map->Fs,range->Ft,mem_cons_of_mem->Fu,mem_cons_self->Fv,length_append->Fx,map_cons->FB,mem_append_right->FC,size_toArray->FD,getElem?_map->FF,getElem?_eq_some_iff->FG,lookup_cons->FI,getElem?_eq_getElem->FJ,set_cons_succ->FL,getElem?_set_ne->FM,set_cons_zero->FN,mem_append->FO,mem_map->FP,getElem_mem->FT,map_append->FX,append_assoc->F4,append_nil->F7,getElem?_append_left->F8,cons_append->F9,getElem?_set_self->Ga,not_mem_nil->Gd,mem_append_left->Ge,nodup_cons->Gf,replicate->Gg,getElem?_append_right->Gh,map_nil->Gi,length_set->Gj,getD->Gk,getElem?_eq_none->Gn,lookup->Gr,length->Gu,all_eq_true->Gv,length_drop->GB,any_cons->GC,find?_cons->GD,getElem?_range->GI,all_cons->GK,length_nil->GL,map->GM,getElem?_set->GN,range_succ->GO,drop->GP,nodup_append->GQ,drop_eq_getElem_cons->GU,filterMap_cons->GX,length_take->G0,mem_of_getElem?->G1,ext_getElem?->G6,map_map->Ha,take_length->Hd,of_mem_zip->Ho,getElem?_replicate->Hq,contains_cons->Hs,map_congr_left->Hv,take_of_length_le->Hw,eq_nil_of_length_eq_zero->Hx,length_range->HH,drop_eq_nil_of_le->HI,mem_filter->HK,mem_filterMap->HL,getElem?_take_of_lt->HN,filterMap_map->HP,nodup_nil->HV,forIn_cons->HY,take_succ->H9,dropLast_cons₂->Ia,nil_append->Iq,drop_zero->IB,set_append_left->ID,set_append_right->IE,mem_or_eq_of_mem_set->IF,map_set->IG,mem_of_mem_drop->II,drop_length->IK,mem_iff_getElem?->IL,length_pos_of_mem->IM
open Nat renaming le_refl->Fo,ne_of_lt->Fy,le_trans->FA,lt_of_lt_of_le->FQ,zero_le->FR,pow_succ->FZ,pow_le_pow_right->Gc,pow_pos->Gp,ne_of_gt->Gq,le_succ->Gs,not_lt_zero->Gw,lt_irrefl->Gz,lt_or_ge->GE,succ_mul->GR,zero_add->GV,le_of_lt->GW,le_of_eq->GZ,le_of_not_lt->G3,mul_le_mul->G8,le_max_left->HD,le_max_right->HE,pow_add->HF,lt_succ_self->HM,lt_of_le_of_lt->HS,lt_trans->HU,log2_lt->HW,lt_succ_of_lt->HZ,add_sub_add_right->H4,succ_ne_self->Ib,lt_of_succ_lt_succ->Ic,mul_le_mul_right->Ii,add_sub_cancel->Ip,mod_eq_of_lt->IA
open Bool renaming false_ne_true->Fz,and_eq_true->FS,eq_false_iff->FW,eq_iff_iff->GY,or_true->G4
open Int renaming mul_pos->FE,mul_le_mul_of_nonneg_right->FH,mul_comm->FK,emod_nonneg->FU,emod_lt_of_pos->FV,mul_ediv_cancel->FY,toNat_of_nonneg->F5,emod_def->F6,mul_nonpos_of_nonpos_of_nonneg->Gm,mul_neg->Go,natAbs_mul->Gx,neg_mul->Gy,eq_of_mul_eq_mul_right->GF,emod_add_mul_ediv->GH,lt_trichotomy->GJ,zero_mul->GS,mul_eq_zero->GT,toNat_natCast->G2,mul_emod_left->G7,mul_le_mul_of_nonneg_left->G9,dvd_mul_of_dvd_right->Hb,sub_zero->Hc,sub_mul->Hf,add_mul->Hg,add_zero->Hi,mul_zero->Hj,mul_neg_of_neg_of_pos->Hk,neg_add->Hl,add_comm->Hm,le_trans->Hn,mul_nonneg->Hy,fmod_eq_zero_of_dvd->Hz,natCast_mul->HA,eq_of_mul_eq_mul_left->HB,dvd_add->HC,zero_add->HG,natAbs_eq_zero->HX,le_total->Ie,fmod_nonneg_of_pos->Ig,fmod_lt_of_pos->Ih,dvd_mul_of_dvd_left->Ij,mul_fdiv_cancel_of_fmod_eq_zero->Ik,dvd_antisymm->Il,sub_self->Im,mul_le_mul->Io,add_mul_emod_self_right->Iu,dvd_add_left->Iv,dvd_mul_right->Iw,add_assoc->Ix,sub_eq_add_neg->Iy,natCast_add->Iz,neg_neg->IC,one_mul->IH,ediv_nonneg->IJ
open Array renaming length_toList->GA,getElem?_eq_some_iff->G5,append_assoc->HJ,all_toList->H8,toList_inj->Ir
open Option renaming bind_some->Ht,getD_none->HQ
open PySem.W (InitBack any_some callWith_K callWith_K0 cellsFrom_some cls_value codeIn codeRec_of emptyDict eq_bytes findCls findObj_own fnOf get_value handedIn hasDictIn hideAll hideAll_get hideAll_none hideAll_size instObj isFn isNs_of_in kIn_of keepIn ki_setAt ki_setBack kia_one kitOne kitx_bool kitx_dict kitx_float kitx_int kitx_list kitx_none kitx_own kitx_str kitx_tuple kun_itemsOf len_bytes lookIn make_core makesIn makes_of methodCall_KW methodObj method_cls method_fn mg_none_of mg_of ne_bytes nsIn nsMap_none_of_in nsOkIn of_hideAll osa_open plainGet plainGet_of plainOver readsIn specialIn tailIn tail_of_in takerIn takesIn truthy_bytes)
def qZ0(_:0=0:=by rfl):=0
def zA0:=qZ0._auto_1
def qZ1(_:0=0:=by decide):=0
def zA1:=qZ1._auto_1
def qZ2(_:0=0:=by exact λ_=>rfl):=0
def zA2:=qZ2._auto_1
def qZ3(_:0=0:=by first|exact .inl rfl|exact .inr rfl|assumption):=0
def zA3:=qZ3._auto_1
def qZ4(_:0=0:=by first|exact Or.inl rfl|exact Or.inr rfl):=0
def zA4:=qZ4._auto_1
def qZ5(_:0=0:=by first|exact Or.inl rfl|exact Or.inr (Or.inl rfl)|exact Or.inr (Or.inr rfl)):=0
def zA5:=qZ5._auto_1
def qZ6(_:0=0:=by exact λ_ _=>rfl):=0
def zA6:=qZ6._auto_1
namespace PySem.W.Fast
def tw2496266518338721069:=Nat
def tw371500028842144767:=Nat
def tw11101450508730617944:=Nat
def tw14327205295914916316:=Nat
def tw2900535516462829766:=Nat
def tw17920682874990121260:=Nat
def tw12229586945233199103:=Nat
def tw7639650490853790261:=Nat
def tw3539478868782436997:=Nat
def tw570226851436895019:=Nat
def tw13099753030817228696:=Nat
def tw1281755496703636730:=Nat
def tw14482087022458741362:=Nat
def tw12917103432121412955:=Nat
def tw1024421313771807881:=Nat
def tw12688213406417069725:=Nat
def tw1192147909472489292:=Nat
def tw10421319364486882718:=Nat
def tw9374794729148805357:=Nat
def tw1593597227570267663:=Nat
def tw7377084925311730842:=Nat
def tw7884103591486358513:=Nat
def tw16888241426964210136:=Nat
def tw2738599368795793627:=Nat
def tw14151762827568372548:=Nat
def tw15084422511527818761:=Nat
def tw3060392241496717771:=Nat
def tw7721248613370691366:=Nat
def tw17071109001941755632:=Nat
def tw2988381591040993009:=Nat
def tw10446468386184455916:=Nat
def tw4271083184823631829:=Nat
def tw3460978007759422893:=Nat
def tw13735730075268481435:=Nat
def tw17568920477993315908:=Nat
def tw10138919184149009100:=Nat
def tw7451746761327329733:=Nat
def tw1791427987998793755:=Nat
def tw250216188494756812:=Nat
def tw13690684568929753825:=Nat
def tw8906469589399221230:=Nat
def tw9412414411276264164:=Nat
def tw13570209152396487027:=Nat
def tw6411357108887623658:=Nat
def tw5593778528449189019:=Nat
def tw7438581336421478292:=Nat
def tw10741707203241781453:=Nat
def tw2818552688265810975:=Nat
def tw13567894694810331252:=Nat
def tw14781044145893306550:=Nat
def tw15286256771641464492:=Nat
def tw13527641497271785919:=Nat
def tw15401191259255754190:=Nat
def tw10743440535681005989:=Nat
def tw10177906322570181700:=Nat
def tw16776618105636683925:=Nat
def tw18218652725979209867:=Nat
def tw5956266589395189:=Nat
def tw15751884164244420672:=Nat
def tw2300890740402933467:=Nat
def tw99798147828913658:=Nat
def tw6559913560295367055:=Nat
def tw12548283082437644296:=Nat
def tw5652210289380720069:=Nat
def tw5950878539651366760:=Nat
def tw853586720431152790:=Nat
def tw3778402820628037349:=Nat
def tw13436085837870834864:=Nat
def tw6847553089668517735:=Nat
def tw1566976455313429311:=Nat
def tw2438186603364624704:=Nat
def tw9295910602397685152:=Nat
def tw12004358038990637581:=Nat
def tw12578347851654332157:=Nat
def tw15457748362836438682:=Nat
def tw2844045523404021589:=Nat
def tw16855553428017157785:=Nat
def tw14315546343121667846:=Nat
def tw8957612265759471940:=Nat
def tw1632291639696476614:=Nat
def tw470063844507345881:=Nat
def tw1182730939180107666:=Nat
def tw8640393964516717641:=Nat
def tw2975415904068930282:=Nat
def tw13715404499404010219:=Nat
def tw15986652312266636334:=Nat
def tw10878999650314901363:=Nat
def tw4939219640937997063:=Nat
def tw16035745271611518440:=Nat
def tw12902828065621245089:=Nat
def tw18186585000594197290:=Nat
def tw11053180232986876654:=Nat
def tw12683480154609899969:=Nat
def tw11746629138524561090:=Nat
def tw12414504442437239809:=Nat
def tw13573102449258051428:=Nat
def tw464876715921224598:=Nat
def tw15277496075303180675:=Nat
def tw17278455602826831544:=Nat
def tw7424389669122007463:=Nat
def tw4724381209168220363:=Nat
def tw9035245997577231072:=Nat
def tw10404676800958226657:=Nat
def tw16109843749142865377:=Nat
def tw10818543940041843767:=Nat
def tw17532455886702202479:=Nat
def tw9503171759326222262:=Nat
def tw17666179276020313820:=Nat
def tw5031707096151965541:=Nat
def tw16676166158503317432:=Nat
def tw8577928366151082891:=Nat
def tw9911128292205007810:=Nat
def tw988501893033069251:=Nat
def tw14797721364092570941:=Nat
def tw13225998032100842002:=Nat
def tw13172304425687937586:=Nat
def tw2532819156068685900:=Nat
def tw18141424368487346274:=Nat
def tw18400825948380139521:=Nat
def tw10006738613627043079:=Nat
def tw18010070250565347551:=Nat
def tw16897669639651168712:=Nat
def tw15386184441357289448:=Nat
def tw16148688717715405788:=Nat
def tw9140008585621467911:=Nat
def tw4114760007853724238:=Nat
def tw15702254788818530033:=Nat
def tw15648209342748569613:=Nat
def tw13122395837273591274:=Nat
def tw7914151811889303956:=Nat
def tw2278109131393496972:=Nat
def tw15842661450154129060:=Nat
def tw17222966186671343914:=Nat
def tw9449536021137803501:=Nat
def tw15299916357218168212:=Nat
def tw2948118109381591574:=Nat
def tw13551645171206884624:=Nat
def tw11642619851237536589:=Nat
def tw14497255603159969261:=Nat
def tw15704133850559733910:=Nat
def tw10314080299815992013:=Nat
def tw11160215876759671038:=Nat
def tw5504437433369139554:=Nat
def tw4760735825819925746:=Nat
def tw3929307597684014445:=Nat
def tw7990122229091535598:=Nat
def tw14852503900600083775:=Nat
def tw3950546862881123316:=Nat
def tw17347420831207476620:=Nat
def tw8086943708690174264:=Nat
def tw3166332773170715743:=Nat
def tw11016350269022560143:=Nat
def tw16158833479771541581:=Nat
def tw13548136297379651639:=Nat
def tw7311610557650235016:=Nat
def tw8867001853667240731:=Nat
def tw14585942500082198300:=Nat
def tw12706765254466428475:=Nat
def tw8294055050837878956:=Nat
def tw2115424192767952998:=Nat
def tw14957179158798269577:=Nat
def tw2117311756760656115:=Nat
def tw17975357918797882775:=Nat
def tw17919825853045403434:=Nat
def tw155637051380354626:=Nat
def tw9014593976795089980:=Nat
def tw2506433590720241362:=Nat
def tw8634770127387346407:=Nat
def tw814700907679964072:=Nat
def tw17714076213106790657:=Nat
def tw13562384800042150414:=Nat
def tw17316415783170672096:=Nat
def tw4691462187409258388:=Nat
def tw2693445119561793797:=Nat
def tw1369281116541768583:=Nat
def tw2908885601867634419:=Nat
def tw16716574773580813837:=Nat
def tw10613851185951433801:=Nat
def tw12064933294229989430:=Nat
def tw14943882992047974028:=Nat
def tw1449749192822397484:=Nat
def tw11842719281088157915:=Nat
def tw2996952041122571511:=Nat
def tw15387582097268892650:=Nat
def tw16382597368149993813:=Nat
def tw14323245191980526686:=Nat
def tw14156760631612502895:=Nat
def tw9594894604296612822:=Nat
def tw8348554024138995201:=Nat
def tw12550011011014492687:=Nat
def tw13258171351359185577:=Nat
def tw8073991445027288088:=Nat
def tw2361678972739364824:=Nat
def tw11967746312438250909:=Nat
def tw17210813082948987668:=Nat
def tw9240711682540868678:=Nat
def tw14016940860180581659:=Nat
def tw11659252274412792580:=Nat
def tw10811282247279760863:=Nat
def tw8016024519389362908:=Nat
def tw11022303531805672027:=Nat
def tw283399650425177614:=Nat
def tw5761824035453714501:=Nat
def tw16808530082575537092:=Nat
def tw12076444449266396365:=Nat
def tw12564701944468909982:=Nat
def tw16273588367468131891:=Nat
def tw7722102547466572880:=Nat
def tw7006495522176323198:=Nat
def tw12413364409007531371:=Nat
def tw18063016080550540949:=Nat
def tw15153101078939608916:=Nat
def tw11937168695587608724:=Nat
def tw4125446809610777701:=Nat
def tw6000910180135517740:=Nat
def tw14611224265554060338:=Nat
def tw1544713684501918369:=Nat
def tw4917001564592080831:=Nat
def tw11287585624665623058:=Nat
def tw7678413838279215145:=Nat
def tw8526362736867930583:=Nat
def tw9126419015735921203:=Nat
def tw9642541351139098109:=Nat
def tw11090812470287732265:=Nat
def tw882239142415955563:=Nat
def tw18338018810611924566:=Nat
def tw9853552591801882233:=Nat
def tw15539476844676614732:=Nat
def tw1459357565495349633:=Nat
def tw16230163284477115043:=Nat
def tw1207550718980796156:=Nat
def tw12342450691041245386:=Nat
def tw8129727770226164154:=Nat
def tw2456319263288454783:=Nat
def tw10723500483448838753:=Nat
def tw14503576383087301301:=Nat
def tw11943847506809860397:=Nat
def tw10852535528674004658:=Nat
def tw12849361607490316630:=Nat
def tw5114099859810608423:=Nat
def tw4342872476437620474:=Nat
def tw8439173703546573045:=Nat
def tw13188784942041949587:=Nat
def tw11200820306320958069:=Nat
def tw14015086804159381488:=Nat
def tw2067288933255931893:=Nat
def tw5187495983936869541:=Nat
def tw14882020353119699677:=Nat
def tw5304353442122614061:=Nat
def tw18023994633675681583:=Nat
def tw16641622619408733912:=Nat
def tw4562737047069121696:=Nat
def tw17569479436174905210:=Nat
def tw4256946194692896922:=Nat
def tw6825842933252895213:=Nat
def tw2468251590769822961:=Nat
def tw2812598518298464089:=Nat
def tw12523873347285131647:=Nat
def tw14811023999365126904:=Nat
def tw14287480578501554494:=Nat
def tw2191620051377989372:=Nat
def tw9819238979961043450:=Nat
def tw223020622487819179:=Nat
def tw9257044103723856349:=Nat
def tw8456739803124027666:=Nat
def tw6285243468242127222:=Nat
def tw10994835697418753537:=Nat
def tw6546346778460414941:=Nat
def tw1850372008173018233:=Nat
def tw5335625857616295603:=Nat
def tw15659943865765382112:=Nat
def tw9792317553399111435:=Nat
def tw18197251427183349646:=Nat
def tw5479739884960808355:=Nat
def tw9097524579781097224:=Nat
def tw9092103576284196512:=Nat
def tw14638812745209651584:=Nat
def tw5954349698450345469:=Nat
def tw17114714246290757741:=Nat
def tw3495482585442262309:=Nat
def tw1713620756198251110:=Nat
def tw16198005492967564850:=Nat
def tw13665691412598623058:=Nat
def tw14917555216057686093:=Nat
def tw17511910288431680611:=Nat
def tw986650114504962245:=Nat
def tw1784398648592581880:=Nat
def tw5304561754218776828:=Nat
def tw1169091663831265400:=Nat
def tw13960774705218157886:=Nat
def tw15376997725653596906:=Nat
def tw6736907571974018504:=Nat
def tw18093673810089233637:=Nat
def tw10132905455163654264:=Nat
def tw4282348287221825828:=Nat
def tw7307427679329058557:=Nat
def tw8004996387438227317:=Nat
def tw16551194891570680700:=Nat
def tw2406030514030242380:=Nat
def tw14943056646411704777:=Nat
def tw5929283078056304716:=Nat
def tw15449411934445825411:=Nat
def tw2081088295202885099:=Nat
def tw1320257164614410337:=Nat
def tw8504844149966073269:=Nat
def tw2977345016005182224:=Nat
def tw3646226152787659909:=Nat
def tw3674065885978600518:=Nat
def tw14873981395605353058:=Nat
def tw14784009870928305706:=Nat
def tw5026158660028091155:=Nat
def tw10590687371477533596:=Nat
def tw17619085481182634563:=Nat
def tw11404232659748165611:=Nat
def tw17194351091119716249:=Nat
def tw15698040341656863675:=Nat
def tw744535697003688897:=Nat
def tw15599915121480546143:=Nat
def tw7102255869422936876:=Nat
def tw8136868766912945419:=Nat
def tw11972853934721272823:=Nat
def tw1874109288095307166:=Nat
def tw4408368178462744050:=Nat
def tw3414684665525779199:=Nat
def tw11745046186805821221:=Nat
def tw89324275699205004:=Nat
def tw15240032931777716944:=Nat
def tw5709791705055479262:=Nat
def tw16708506628883981912:=Nat
def tw2803703033033877086:=Nat
def tw1232516171423464546:=Nat
def tw9971328019232873749:=Nat
def tw6418843275135344948:=Nat
def tw14853649901833893169:=Nat
def tw5233593634168977756:=Nat
def tw13216445134087519427:=Nat
def tw2922190334182037908:=Nat
def tw10915006700362924665:=Nat
def tw6953857598332567415:=Nat
def tw4225444948257866906:=Nat
def tw5926363915599656638:=Nat
def tw2082708908307026458:=Nat
def tw12758349830773589953:=Nat
def tw7953752007556337879:=Nat
def tw14334731362623275071:=Nat
def tw5031101498409811883:=Nat
def tw8199188319037351726:=Nat
def tw12069211702952351018:=Nat
def tw8123927469243692642:=Nat
def tw9772259274427403535:=Nat
def tw5027259484726439199:=Nat
def tw15276625984495669030:=Nat
def tw291523848613589136:=Nat
def tw8011581913684036978:=Nat
def tw16829035395236160290:=Nat
def tw9306326026357930243:=Nat
def tw9616748452316858999:=Nat
def tw9767235459512000685:=Nat
def tw17183616006603918161:=Nat
def tw17447287332951008601:=Nat
def tw2531959297505282213:=Nat
def tw15541401035431206153:=Nat
def tw13819133046642802159:=Nat
def tw484936778744587047:=Nat
def tw2302347545208714770:=Nat
def tw17852607465189307676:=Nat
def tw3999787285880418635:=Nat
def tw15407613997314723318:=Nat
def tw510318142582884218:=Nat
def tw3680128913015100495:=Nat
def tw9345617878254108133:=Nat
def tw14794615452270014161:=Nat
def tw17036948692739043146:=Nat
def tw18257698944459271392:=Nat
def tw9264980267991496320:=Nat
def tw14791433332419829640:=Nat
def tw9315119991967627161:=Nat
def tw11830173158907152972:=Nat
def tw13179320272509770731:=Nat
def tw11684730277870705793:=Nat
def tw11601051333916784518:=Nat
def tw6252089703917602335:=Nat
def tw14980069867861533022:=Nat
def tw2329515479175299315:=Nat
def tw14225668626106445195:=Nat
def tw10966071549169533386:=Nat
def tw9760637626468247111:=Nat
def tw1084349517789557577:=Nat
def tw17899298999031945092:=Nat
def tw6576299474219053032:=Nat
def tw10578602659165076498:=Nat
def tw4566855539381720366:=Nat
def tw13134852518465987378:=Nat
def tw17838037960016102906:=Nat
def tw13724823776065140423:=Nat
def tw7051854997901883381:=Nat
def tw1298705628131180254:=Nat
def tw10374497559706547586:=Nat
def tw11571572070342589100:=Nat
def tw16355575579901539654:=Nat
def tw5487596983121962151:=Nat
def tw1952684169461413865:=Nat
def tw17433580474548310580:=Nat
def tw3289481086498350825:=Nat
def tw15358378656300363430:=Nat
def tw3268483536628139226:=Nat
def tw9481204677921243617:=Nat
def tw8374972298564227081:=Nat
def tw3688803894407127517:=Nat
def tw10444073698632109576:=Nat
def tw12898649699565396589:=Nat
def tw3409898855354951557:=Nat
def tw1037493028253651606:=Nat
def tw14149581446062465075:=Nat
def tw6455612086557901257:=Nat
def tw11306771589523339421:=Nat
def tw6086270252207368548:=Nat
def tw7435985966432925544:=Nat
def tw7539377793436780108:=Nat
def tw15402013869765239172:=Nat
def tw1399168288672713847:=Nat
def tw1569438392892598944:=Nat
def tw3994584266565674568:=Nat
def tw5429518388686467742:=Nat
def tw1018684073291915082:=Nat
def tw14931872402046366607:=Nat
def tw6290220685278356085:=Nat
def tw14233149333595317867:=Nat
def tw6588984461001413844:=Nat
def tw248899588842462402:=Nat
def tw10736427918903986930:=Nat
def tw5210260198786298839:=Nat
def tw16781541339528317798:=Nat
def tw2258399102049331501:=Nat
def tw11845001550163801018:=Nat
def tw14710454397738932752:=Nat
def tw11507883352920172700:=Nat
def tw1417191950255085023:=Nat
def tw8998783946200367766:=Nat
def tw16812427187160744570:=Nat
def tw6236216930834982633:=Nat
def tw17412521815015921655:=Nat
def tw3551657221524496287:=Nat
def tw11942081930547976239:=Nat
def tw6468953863760227378:=Nat
def tw3273020216619822392:=Nat
def tw11495345433041280578:=Nat
def tw13991479268499724695:=Nat
def tw4817576130758373514:=Nat
def tw10352786838015038662:=Nat
def tw10977525499576926718:=Nat
def tw13988750981039804204:=Nat
def tw9560563918930631419:=Nat
def tw14737011357434114483:=Nat
def tw2200927125199036238:=Nat
def tw17172395635410430661:=Nat
def tw4420425875935078539:=Nat
def tw2233198959158498258:=Nat
def tw6014177579268458703:=Nat
def tw12404308302025893116:=Nat
def tw9445110208148071427:=Nat
def tw14204306687518915267:=Nat
def tw2994871020519020787:=Nat
def tw3113509984751981278:=Nat
def tw14335681358448843963:=Nat
def tw9235193322303368188:=Nat
def tw6642521446247724011:=Nat
def tw14605218446326601513:=Nat
def tw14908593730981889441:=Nat
def tw8434470684204415968:=Nat
def tw17831031464299145053:=Nat
def tw8398572471563946776:=Nat
def tw16381417391601385758:=Nat
def tw4312305455103361497:=Nat
def tw9742984596366764655:=Nat
def tw12028910501855449586:=Nat
def tw12923886024093995506:=Nat
def tw6495052183482708717:=Nat
def tw13025753941258835315:=Nat
def tw1226641231469159004:=Nat
def tw11476946791612695903:=Nat
def tw17535947964250661394:=Nat
def tw7574534792844964100:=Nat
def tw14317956359939826584:=Nat
def tw504440072865541694:=Nat
def tw4667039836217044423:=Nat
def tw11065366340428230603:=Nat
def tw2429523047325519882:=Nat
def tw17185113259138433495:=Nat
def tw3619542424529427433:=Nat
def tw3064090287404106327:=Nat
def tw16341328391188060087:=Nat
def tw3550267271601625866:=Nat
def tw11567438048082176461:=Nat
def tw6877114014902952008:=Nat
def tw3044089739863811857:=Nat
def tw3508097079185319268:=Nat
def tw10720260320372919715:=Nat
def tw3469185361296556502:=Nat
def tw10765411381007246881:=Nat
def tw17404906746431005751:=Nat
def tw2829970542400197410:=Nat
def tw11174182624092345175:=Nat
def tw5281307561356460033:=Nat
def tw1996310799623462655:=Nat
def tw16614792272467366885:=Nat
def tw7420729851037967671:=Nat
def tw2416368352801535039:=Nat
def tw188534150152405210:=Nat
def tw4640280004358349123:=Nat
def tw11178826155906831037:=Nat
def tw12616488526896668653:=Nat
def tw6706370240033848668:=Nat
def tw8539260715158011638:=Nat
def tw367882222228196400:=Nat
def tw16842862667683924993:=Nat
def tw286306821223946426:=Nat
def tw10090486809415818903:=Nat
def tw15799317038454758728:=Nat
def tw10066948730175672107:=Nat
def tw1619927680360241716:=Nat
def tw13291152093367469656:=Nat
def tw3570670763874723104:=Nat
def tw15020537054155404506:=Nat
def tw16797788092516384577:=Nat
def tw1448829195751134120:=Nat
def tw12647054295376530940:=Nat
def tw6906760403006134469:=Nat
def tw3075186052700155527:=Nat
def tw12823489503978971109:=Nat
def tw11251858743403425250:=Nat
def tw17271539002303109540:=Nat
def tw13500166970322305063:=Nat
def tw6567927106749161252:=Nat
def tw1623090979459373294:=Nat
def tw6607176615203668110:=Nat
def tw10992763857613628195:=Nat
def tw2424168377640901991:=Nat
def tw1874031992057137512:=Nat
def tw12460342902046842237:=Nat
def tw10287441140545987653:=Nat
def tw13818609176707345299:=Nat
def tw1415396981424814438:=Nat
def tw13277497029947706254:=Nat
def tw5588647768436497149:=Nat
end PySem.W.Fast
section
namespace L2
open PySem PySem.Spec PyProof.Rows
abbrev Key:=Sum Int D'
def dW:Key->KB->Bool
 | .inl k,v=>Value.isInt k v
 | .inr x,v=>Value.isStrOf x v
def keyH(w:RT):Key->Int
 | .inl k=>hashInt k
 | .inr x=>hashStr w x
def keyIs_shape:∀ {k:Key} {v:KB},dW k v=true->(∃ i t,k=Sum.inl i/\v=Value.int i t)\/(∃ x t,k=Sum.inr x/\v=Value.str x t)
 | .inl i,v,h=>by
  obtain⟨t,e⟩:=Value.isInt_shape (k:=i) (v:=v) h;exact .inl ⟨i,t,rfl,e⟩
 | .inr x,v,h=>by
  obtain⟨t,e⟩:=Value.isStrOf_shape (x:=x) (v:=v) h;exact .inr ⟨x,t,rfl,e⟩
def vo(i:Int)(t:Tok):dW (.inl i) (.int i t)=true:=by simp[dW,Value.isInt]
def vp(x:D')(t:Tok):dW (.inr x) (.str x t)=true:=by simp[dW,Value.isStrOf]
def vq(a b:Int):decide ((Sum.inl a:Key)=Sum.inl b)=(a==b):=by
 by_cases e:a=b
 .subst e;simp
 .have h:¬ (Sum.inl a:Key)=Sum.inl b:=λq=>e (Sum.inl.inj q);rw[decide_eq_false h];exact(beq_eq_false_iff_ne.mpr e).symm
def vt(a b:D'):decide ((Sum.inr a:Key)=Sum.inr b)=decide (a=b):=by
 by_cases e:a=b
 .subst e;simp
 .have h:¬ (Sum.inr a:Key)=Sum.inr b:=λq=>e (Sum.inr.inj q);rw[decide_eq_false h,decide_eq_false e]
def vw(a:Int)(b:D'):decide ((Sum.inl a:Key)=Sum.inr b)=false:=decide_eq_false (λq=>nomatch q)
def vx(a:D')(b:Int):decide ((Sum.inr a:Key)=Sum.inl b)=false:=decide_eq_false (λq=>nomatch q)
def bD(prog:P3)(w:RT):PySem.KeyKind prog w Key where
 is:=dW
 hash:=keyH w
 inj:=λv a b ha hb=>by
  rcases keyIs_shape ha with⟨i,t,rfl,rfl⟩|⟨x,t,rfl,rfl⟩
  .rcases keyIs_shape hb with⟨j,u,rfl,e⟩|⟨y,u,rfl,e⟩
   .injection e with e1 _;rw[e1]
   .exact nomatch e
  .rcases keyIs_shape hb with⟨j,u,rfl,e⟩|⟨y,u,rfl,e⟩
   .exact nomatch e
   .injection e with e1 _;rw[e1]
 byValue:=λk v h=>by
  rcases keyIs_shape h with⟨i,t,rfl,rfl⟩|⟨x,t,rfl,rfl⟩<;>rfl
 pyHash:=λhv h=>by
  rcases keyIs_shape hv with⟨i,t,rfl,rfl⟩|⟨x,t,rfl,rfl⟩
  .exact wpAny_pyHash_int h
  .exact wpAny_pyHash_str h
 eqBool:=λhu hv h=>by
  rcases keyIs_shape hu with⟨i,t,rfl,rfl⟩|⟨x,t,rfl,rfl⟩
  .rcases keyIs_shape hv with⟨j,u,rfl,rfl⟩|⟨y,u,rfl,rfl⟩
   .rw[vq] at h;exact wpAny_eqBool_int h
   .rw[vw] at h;exact SeqAt.EqAt.int_str i t y u _ _ _ _ h
  .rcases keyIs_shape hv with⟨j,u,rfl,rfl⟩|⟨y,u,rfl,rfl⟩
   .rw[vx] at h;exact SeqAt.EqAt.str_int x t j u _ _ _ _ h
   .rw[vt] at h;exact wpAny_eqBool_str h
 «strs»:=λk x t v h=>by
  rcases keyIs_shape h with⟨i,u,rfl,e⟩|⟨y,u,rfl,e⟩
  .exact nomatch e
  .injection e with e1 _;subst e1;cases v<;>rfl
def mixKind_int(prog:P3)(w:RT)(i:Int)(t:Tok):(bD prog w).is (.inl i) (.int i t)=true:=vo i t
def vy(prog:P3)(w:RT)(x:D')(t:Tok):(bD prog w).is (.inr x) (.str x t)=true:=vp x t
inductive V where
 |non|bl (b:Bool)|int (i:Int)|str (x:Str)|byt (b:Array UInt8)|flt (b:UInt64)|ref (a:KF)|ty (n:String)
 deriving DecidableEq
def RelV:V->KB->Prop
 | .non,u=>u=Value.none
 | .bl b,u=>u=Value.bool b
 | .int i,u=>∃ t,u=Value.int i t
 | .str x,u=>∃ t,u=Value.str x t
 | .byt b,u=>∃ t,u=Value.bytes b t
 | .flt b,u=>∃ t,u=Value.float b t
 | .ref a,u=>u=Value.ref a
 | .ty n,u=>u=Value.type n
abbrev Vals:List V->List KB->Prop:=Paired RelV
variable{xs:List V}{us:List KB}
def Vals.length(r:Vals xs us):xs.length=us.length:=Paired.length r
def Vals.get:∀ {xs:List V} {us:List KB} {i:Nat} {x:V},Vals xs us->xs[i]?=be x->∃ u,us[i]?=be u/\RelV x u
 |_,_,_,_,.nil,e=>by simp at e
 |_,_,0,_,.cons r _,e=>by simp at e;subst e;exact⟨_,rfl,r⟩
 |_,_,i+1,x,.cons _ t,e=>by
  obtain⟨u,h1,h2⟩:=Vals.get (i:=i) (x:=x) t (by simpa using e);exact⟨u,by simpa using h1,h2⟩
def Vals.set{x:V}{u:KB}(r:RelV x u):∀ {xs:List V} {us:List KB} (i:Nat),Vals xs us->Vals (xs.set i x) (us.set i u)
 |_,_,_,.nil=> .nil
 |_,_,0,.cons _ t=> .cons r t
 |_,_,i+1,.cons q t=> .cons q (Vals.set r i t)
def Vals.append:∀ {xs ys:List V} {us ws:List KB},Vals xs us->Vals ys ws->Vals (xs++ys) (us++ws):=by
 intro xs ys us ws h s;induction h with
 |nil=>exact s
 |cons r _ e=>exact .cons r e
def Vals.take:∀ {xs:List V} {us:List KB} (n:Nat),Vals xs us->Vals (xs.take n) (us.take n)
 |_,_,0,_=> .nil
 |_,_,_+1,.nil=> .nil
 |_,_,n+1,.cons r t=> .cons r (Vals.take n t)
def Vals.drop:∀ {xs:List V} {us:List KB} (n:Nat),Vals xs us->Vals (xs.drop n) (us.drop n)
 |_,_,0,r=>r
 |_,_,_+1,.nil=> .nil
 |_,_,n+1,.cons _ t=>Vals.drop n t
def RelO:Option V->Option KB->Prop
 |some v,be u=>RelV v u
 |none,m9=>True
 |_,_=>False
def KV{κ:Type}:List (κ × V)->List (κ × KB)->Prop:=Paired λ(p:κ × V) (q:κ × KB)=>p.1=q.1/\RelV p.2 q.2
def kV:Key->V
 | .inl i=> .int i
 | .inr x=> .str x
inductive HO where
  |lst (xs:List V)
  |tup (xs:List V)
  |dK (a8:List (Key × V))|dT (a8:List (List Key × V))
  |set (S:Int->Bool) (n:Nat)
  |ins (C dx:KF) (fs:List (D' × V))
  |own (x:KF)
  |xd (fs:List (D' × V))
  |met (f x:KF)
  |rng (lo hi:Int)
  |frz (o:R') (u:HO)
  |tbl (ps:Array KB)
  |ext (φ:Heap->Prop)
abbrev Hp:=KF->Option HO
def upd(H:Hp)(a:KF)(o:HO):Hp:=λb=>if b=a then be o else H b
variable{H:Hp}{a:KF}{o:HO}
def aC:upd H a o a=be o:=by unfold upd;rw[if_pos rfl]
variable{b:KF}
def au(h:b≠a):upd H a o b=H b:=by unfold upd;rw[if_neg h]
def vz{u:HO}(h:H a=be o)(h':H b=be u)(d:o≠u):a≠b:=by
 intro e;subst e;rw[h] at h';exact d (Option.some.inj h')
def bQ(h:H a=be o)(h':H b=m9):a≠b:=by
 intro e;subst e;rw[h] at h';cases h'
section
variable (P:P3)(w:RT)
def ObjOk(H:Hp)(h:Heap)(a:KF):HO->Prop
 | .lst xs=>xs.length<=sizeLine/\∃ (its:List KB) (n:Nat),Vals xs its/\h.get? a=be {cls:= .type "list",data:= .seq its.toArray n}
 | .tup xs=>xs.length<=sizeLine/\∃ its:List KB,Vals xs its/\IsTup h a its.toArray
 | .dK a8=>a8.length<=sizeLine/\(a==Sh)=false/\∃ vs,KV a8 vs/\h.DictOf (bD P w) a vs
 | .dT a8=>a8.length<=sizeLine/\(a==Sh)=false/\∃ xs:List (List Key × KF × KB),
   Paired (λ(p:List Key × V) (q:List Key × KF × KB)=>p.1=q.1/\H q.2.1=be (.tup (p.1.map kV))/\RelV p.2 q.2.2) a8 xs/\
   ∃ o es ep,h.get? a=be o/\o.ExactDict/\o.data= .dict es ep/\es.toList=xs.map (entryOfKey (SK (bD P w)))/\(xs.map (·.1)).Nodup
 | .set S n=>h.SetOf (intKind P w) a S n
 | .ins C dx fs=>H dx=be (.own a)/\fs.length<=1000/\dx≠a/\h.get? a=be (instObj C dx)/\
   ∃ mA,h.Ns1 dx mA/\(∀ f,RelO (fs.lookup f) (mA f))/\PySem.Within mA (fs.map (·.1))
 | .own _=>∃ o,h.get? a=be o
 | .xd fs=>∃ mA,h.Ns1 a mA/\∀ f,RelO (fs.lookup f) (mA f)
 | .rng lo hi=>∃ t u v,h.get? a=be {cls:= .type "range",data:= .fields #[.int lo t,.int hi u,.int 1 v]}
 | .frz o u=>h.get? a=be o/\ObjOk H h a u
 | .tbl ps=>h.get? a=be {cls:= .none,data:= .fields ps}
 | .met f x=>h.get? a=be (methodObj (.ref f) (.ref x))
 | .ext φ=>φ h/\(∃ o,h.get? a=be o)/\∀ h1 h2:Heap,φ h1->(∀ o,h1.get? a=be o->h2.get? a=be o)->φ h2
def HOk(H:Hp)(h:Heap):Prop:=∀ a o,H a=be o->ObjOk P w H h a o
end
section
variable {P:P3}{w:RT}{H H':Hp}{h h':Heap}{a:KF}{o:HO}
def ObjOk.lt(x:ObjOk P w H h a o):a<h.objs.size:=by
 cases o with
 |lst xs=>obtain⟨_,_,_,_,e⟩:=x;exact Heap.lt_size e
 |tup xs=>obtain⟨_,_,_,p⟩:=x;exact p.lt
 |dK a8=>obtain⟨_,_,_,_,o,_,_,e,_⟩:=x;exact Heap.lt_size e
 |dT a8=>obtain⟨_,_,_,_,o,_,_,e,_⟩:=x;exact Heap.lt_size e
 |set S n=>obtain⟨o,_,_,_,e,_⟩:=x;exact Heap.lt_size e
 |ins C dx fs=>obtain⟨_,_,_,e,_⟩:=x;exact Heap.lt_size e
 |own y=>obtain⟨_,e⟩:=x;exact Heap.lt_size e
 |xd fs=>obtain⟨_,⟨_,_,_,e,_⟩,_⟩:=x;exact Heap.lt_size e
 |rng lo hi=>obtain⟨_,_,_,e⟩:=x;exact Heap.lt_size e
 |frz ob u=>obtain⟨e,_⟩:=x;exact Heap.lt_size e
 |tbl ps=>exact Heap.lt_size (show h.get? a=be _ from x)
 |met f y=>exact Heap.lt_size (show h.get? a=be _ from x)
 |ext φ=>obtain⟨_,⟨_,e⟩,_⟩:=x;exact Heap.lt_size e
def Paired.mapP{α β:Type}{F G:α->β->Prop}:∀ {l₁:List α} {l₂:List β},Paired F l₁ l₂->(∀ a b,F a b->G a b)->Paired G l₁ l₂:=by
 intro l₁ l₂ h f;induction h with
 |nil=>exact .nil
 |cons r _ e=>exact .cons (f _ _ r) e
def ObjOk.stay(x:ObjOk P w H h a o)(k:∀ b u,(b=a\/H b=be (.own a))->h.get? b=be u->h'.get? b=be u)
  (ho:∀ b,H b=be (.own a)->H' b=be (.own a)) (ht:∀ b xs,H b=be (.tup xs)->H' b=be (.tup xs)):ObjOk P w H' h' a o:=by
 induction o with
 |lst xs=>obtain⟨z,its,n,r,e⟩:=x;exact⟨z,its,n,r,k _ _ (.inl rfl) e⟩
 |tup xs=>obtain⟨z,its,r,ob,e,c⟩:=x;exact⟨z,its,r,ob,k _ _ (.inl rfl) e,c⟩
 |dK a8=>obtain⟨z,y,vs,r,ob,es,ep,e,c⟩:=x;exact⟨z,y,vs,r,ob,es,ep,k _ _ (.inl rfl) e,c⟩
 |dT a8=>
  obtain⟨z,y,xs,r,ob,es,ep,e,c⟩:=x;exact⟨z,y,xs,Paired.mapP r λp q z=>⟨z.1,ht _ _ z.2.1,z.2.2⟩,ob,es,ep,k _ _ (.inl rfl) e,c⟩
 |set S n=>obtain⟨ob,es,ep,t,e,c⟩:=x;exact⟨ob,es,ep,t,k _ _ (.inl rfl) e,c⟩
 |ins C dx fs=>
  obtain⟨d,z,ne,e,mA,⟨od,es,ep,e2,c⟩,r⟩:=x;exact⟨ho _ d,z,ne,k _ _ (.inl rfl) e,mA,⟨od,es,ep,k _ _ (.inr d) e2,c⟩,r⟩
 |own y=>obtain⟨ob,e⟩:=x;exact⟨ob,k _ _ (.inl rfl) e⟩
 |xd fs=>obtain⟨mA,⟨od,es,ep,e,c⟩,r⟩:=x;exact⟨mA,⟨od,es,ep,k _ _ (.inl rfl) e,c⟩,r⟩
 |rng lo hi=>obtain⟨t,u,v,e⟩:=x;exact⟨t,u,v,k _ _ (.inl rfl) e⟩
 |frz ob u ih=>obtain⟨e,q⟩:=x;exact⟨k _ _ (.inl rfl) e,ih q⟩
 |tbl ps=>
  have e:h.get? a=be {cls:= .none,data:= .fields ps}:=x;show h'.get? a=be {cls:= .none,data:= .fields ps};exact k a _ (.inl rfl) e
 |met f y=>
  have e:h.get? a=be (methodObj (.ref f) (.ref y)):=x;show h'.get? a=be (methodObj (.ref f) (.ref y));exact k a _ (.inl rfl) e
 |ext φ=>obtain⟨p,⟨o,e⟩,st⟩:=x;exact⟨st _ _ p λo q=>k _ _ (.inl rfl) q,⟨o,k _ _ (.inl rfl) e⟩,st⟩
def HOk.lt(x:HOk P w H h)(e:H a=be o):a<h.objs.size:=(x a o e).lt
def HOk.fresh(x:HOk P w H h)(e:h.objs.size<=a):H a=none:=by
 cases q:H a with
 |none=>rfl
 |some u=>exact absurd (FQ (x.lt q) e) (Gz _)
def HOk.kept(x:HOk P w H h)(k:∀ b u,h.get? b=be u->h'.get? b=be u):HOk P w H h':=λa o e=>
 (x a o e).stay (λb u _ q=>k b u q) (λ_ q=>q) λ_ _ q=>q
def HOk.laid(x:HOk P w H h)(k:∀ b u,h.get? b=be u->h'.get? b=be u)(hp:h.objs.size<=a)(new:ObjOk P w (upd H a o) h' a o):HOk P w (upd H a o) h':=λb u e=>by
 have hn:=x.fresh hp;by_cases hb:b=a
 .subst hb;rw[aC] at e;cases e;exact new
 .rw[au hb] at e;exact(x b u e).stay (λc v _ q=>k c v q) (λc q=>by rw[au (bQ q hn)];exact q) λc xs q=>by rw[au (bQ q hn)];exact q
end
def Rd(H:Hp)(a:KF)(u:HO):Prop:=H a=be u\/∃ o,H a=be (.frz o u)
def Rd.of{u:HO}(h:H a=be u):Rd H a u:= .inl h
variable{P:P3}{w:RT}{h:Heap}
def Rd.ok{u:HO}(r:Rd H a u)(x:HOk P w H h):ObjOk P w H h a u:=by
 rcases r with r|⟨o,r⟩
 .exact x a u r
 .obtain⟨_,q⟩:=x a _ r;exact q
def Mut:Option HO->Prop
 |some (.lst _)=>True
 |some (.dK _)=>True
 |some (.dT _)=>True
 |some (.set _ _)=>True
 |some (.ins _ _ _)=>True
 |some (.ext _)=>True
 |_=>False
section
variable {P:P3}{w:RT}{H:Hp}{h h':Heap}{x e:KF}{o':HO}
def HOk.write(ok:HOk P w H h)(mu:Mut (H x))(he:e=x\/H e=be (.own x))(k:∀ b u,b≠e->h.get? b=be u->h'.get? b=be u)(z8:∃ u,h'.get? e=be u)
  (new:ObjOk P w (upd H x o') h' x o'):HOk P w (upd H x o') h':=λb u q=>by
 have Kp:∀ c y,H c=be (.own y)->c≠x:=λc y r z=>by subst z;rw[r] at mu;exact mu
 have L9:∀ c xs,H c=be (.tup xs)->c≠x:=λc xs r z=>by subst z;rw[r] at mu;exact mu
 by_cases hb:b=x
 .subst hb;rw[aC] at q;cases q;exact new
 .rw[au hb] at q;by_cases Jw:b=e
  .have q':H b=be (.own x):=by
    rcases he with z|z
    .exact absurd (Jw.trans z) hb
    .rw[Jw];exact z
   rw[q] at q';cases q';obtain⟨v,hv⟩:=z8;exact⟨v,by rw[Jw];exact hv⟩
  .refine(ok b u q).stay (λc v hc r=>k c v ?_ r) (λc r=>by rw[au (Kp c b r)];exact r) λc xs r=>by rw[au (L9 c xs r)];exact r
   rcases hc with rfl|hc
   .exact Jw
   .rintro rfl;rcases he with z|z
    .exact Kp c b hc z
    .rw[hc] at z;cases z;exact hb rfl
end
structure Un(fs ex:List KF)(H H':Hp)(h h':Heap):Prop where
 keep:∀ b o,h.get? b=be o->H b=m9->b ∉ fs->b ∉ ex->h'.get? b=be o
 slot:∀ b o,h.get? b=be o->H b=m9->b∈fs->b ∉ ex->∃ sl,h'.get? b=be {o with slots:=sl}
 free:∀ b o,h.get? b=be o->H b=m9->b ∉ ex->H' b=m9
 there:∀ b o,h.get? b=be o->b ∉ ex->∃ o',h'.get? b=be o'
 tups:∀ b xs,H b=be (.tup xs)->H' b=be (.tup xs)
 frzs:∀ b o u,H b=be (.frz o u)->H' b=be (.frz o u)
 tbls:∀ b ps,H b=be (.tbl ps)->∃ more,H' b=be (.tbl (ps++more))
section
variable {fs j5 ex Kq:List KF}{H H1 H2:Hp}{h h1 h2 h':Heap}{a x e:KF}{o:HO}
def Un.any(u:Un fs ex H H1 h h1){b:KF}{ob:R'}(q:h.get? b=be ob)(n:H b=m9)(hx:b ∉ ex):∃ sl,h1.get? b=be {ob with slots:=sl}:=by
 by_cases hb:b∈fs
 .exact u.slot b ob q n hb hx
 .exact⟨ob.slots,u.keep b ob q n hb hx⟩
def Un.trans(a:Un fs ex H H1 h h1)(b:Un fs ex H1 H2 h1 h2):Un fs ex H H2 h h2 where
 keep:=λc ob q n hc hx=>b.keep c ob (a.keep c ob q n hc hx) (a.free c ob q n hx) hc hx
 slot:=λc ob q n hc hx=>by
  obtain⟨sl,e1⟩:=a.slot c ob q n hc hx;obtain⟨r_,e2⟩:=b.slot c _ e1 (a.free c ob q n hx) hc hx;exact⟨r_,e2⟩
 free:=λc ob q n hx=>by
  obtain⟨o',e1⟩:=a.there c ob q hx;exact b.free c o' e1 (a.free c ob q n hx) hx
 there:=λc ob q hx=>by
  obtain⟨o',e1⟩:=a.there c ob q hx;exact b.there c o' e1 hx
 tups:=λc xs q=>b.tups c xs (a.tups c xs q)
 frzs:=λc ob xs q=>b.frzs c ob xs (a.frzs c ob xs q)
 tbls:=λc ps q=>by
  obtain⟨m1,e1⟩:=a.tbls c ps q;obtain⟨m2,e2⟩:=b.tbls c _ e1;exact⟨m1++m2,by rw[e2,HJ]⟩
def Un.kept(k:∀ b u,h.get? b=be u->h'.get? b=be u):Un fs ex H H h h':=
 ⟨λb ob q _ _ _=>k b ob q,λb ob q _ _ _=>⟨ob.slots,k b ob q⟩,λ_ _ _ n _=>n,λb ob q _=>⟨ob,k b ob q⟩,λ_ _ q=>q,λ_ _ _ q=>q,λ_ ps q=>⟨#[],by rw[q];simp⟩⟩
def Un.refl:Un fs ex H H h h:=Un.kept λ_ _ q=>q
def Un.laid(k:∀ b u,h.get? b=be u->h'.get? b=be u)(hp:h.objs.size<=a)(hn:H a=m9):Un fs ex H (upd H a o) h h' where
 keep:=λb u q _ _ _=>k b u q
 slot:=λb u q _ _ _=>⟨u.slots,k b u q⟩
 free:=λb u q n _=>by rw[au (Fy (FQ (Heap.lt_size q) hp))];exact n
 there:=λb u q _=>⟨u,k b u q⟩
 tups:=λb xs q=>by rw[au (bQ q hn)];exact q
 frzs:=λb u xs q=>by rw[au (bQ q hn)];exact q
 tbls:=λb ps q=>⟨#[],by rw[au (bQ q hn),q];simp⟩
def Un.write(mu:Mut (H x))(he:e=x\/H e=be (.own x))(k:∀ b u,b≠e->h.get? b=be u->h'.get? b=be u)(z8:∃ u,h'.get? e=be u):Un fs ex H (upd H x o) h h':=by
 have hx:∀ b,H b=m9->b≠x:=λb n z=>by subst z;rw[n] at mu;exact mu
 have hb:∀ b,H b=m9->b≠e:=λb n z=>by
  subst z;rcases he with r|r
  .exact hx b n r
  .rw[n] at r;cases r
 have hm:∀ b u,H b=be u->¬ Mut (be u)->b≠x:=λb u q nm z=>by subst z;rw[q] at mu;exact nm mu
 refine⟨λb u q n _ _=>k b u (hb b n) q,λb u q n _ _=>⟨u.slots,k b u (hb b n) q⟩,λb u q n _=>by rw[au (hx b n)];exact n,λb u q _=>?_,
  λb xs q=>by rw[au (hm b _ q λz=>z)];exact q,λb u xs q=>by rw[au (hm b _ q λz=>z)];exact q,λb ps q=>⟨#[],by rw[au (hm b _ q λz=>z),q];simp⟩⟩
 by_cases Jw:b=e
 .subst Jw;exact z8
 .exact⟨u,k b u Jw q⟩
end
def trk(h:Heap)(H:Hp):List KF:=(Ft h.objs.size).filter λa=>(H a).isSome
def hidT(h:Heap)(H:Hp):Heap:=hideAll h (trk h H)
def vA(h:Heap)(H:Hp):(hidT h H).objs.size=h.objs.size:=hideAll_size _ _
def vB{o:R'}(e:h.get? b=be o)(n:H b=m9):(hidT h H).get? b=be o:=
 hideAll_get _ e λhm=>by
  have q:(H b).isSome=true:=(HK.mp hm).2;rw[n] at q;simp at q
def vC{o:R'}(e:(hidT h H).get? b=be o):h.get? b=be o/\H b=none:=by
 have e':h.get? b=be o:=of_hideAll (trk h H) e;refine⟨e',?_⟩;cases q:H b with
 |none=>rfl
 |some x=>
  have hm:b∈trk h H:=HK.mpr ⟨List.mem_range.mpr (Heap.lt_size e'),by simp[q]⟩;have z:(hidT h H).get? b=none:=hideAll_none (trk h H) hm;rw[z] at e;cases e
def allNews(g h:Heap)(L:KF):List (KF × R'):=(Ft h.objs.size).filterMap λa=>if a=L\/(g.get? a).isSome=true then m9 else(h.get? a).map λo=>(a,o)
def rest(g h:Heap)(L d:KF):List (KF × R'):=(allNews g h L).filter λp=>decide (p.1≠d)
structure Mod(K:Ex)(mg:Str->Option KB)(base:Heap):Prop where
 kin:K.In base
 glob:base.Ns Pi mg
 blt:∃ mb,base.Ns TM mb/\∀ x:D',x≠"__name__"->mb x=R_ x
 nolimit:base.NoLimit
structure Cx where
 prog:P3
 w:RT
 K:Ex
 mg:D'->Option KB
 base:Heap
 A:RU
 N:List D'
 s₀:KM
 H₀:Hp
 env:SE
 outer:List SE
 stack:List SE
 ex:List KF
 fn:D'->Bool
 calm:Bool
 pn:List (KF × R')
 xe:KB->KM->Prop
abbrev zSE(X:Cx)(e:RP)(es:List RP):Prop:=RV (e::es) X.env=(false,R1 e X.env)::RV es X.env
abbrev zPL(X:Cx)(p:R5)(es:List RP):Prop:=(Sw p (RV es X.env)).any (·.1)=false
abbrev zHF(X:Cx)(p:R5)(es:List RP):Prop:=((Sw p (RV es X.env)).all (λx=>!x.1) && (SV p (Ss [] X.env)).all (λx=>x.1.isSome) && decide (es.length+([]:List SX).length+(if([]:List SX).isEmpty then 0 else 1)<30))=true
abbrev zFN(X:Cx)(x:D'):Prop:=X.fn x=true\/X.env.scope.names.lookup x=be .local
abbrev zND(x:D'):Prop:=(x==("__debug__":D'))=false
abbrev zNC(x:D'):Prop:=(x==("__classdict__":D'))=false
abbrev zFS(X:Cx)(e:RP)(y:KB):Prop:=TR e X.env y=pure y
def frs(l:List SE):List KF:=l.filterMap (·.frame)
abbrev Cx.fs(X:Cx):List KF:=frs X.outer
def Vis(sc:Sk)(x:D'):Prop:=sc.names.lookup x=be .local\/sc.names.lookup x=be .cell\/sc.names.lookup x=be .free
def Loc(sc:Sk)(x:D'):Prop:=sc.names.lookup x=be .local\/sc.names.lookup x=be .cell
def Look(env:SE)(h:Heap)(m:D'->Option KB)(x:D')(u:KB):Prop:=
 (env.kindOf x=be .local/\m x=be u)\/((env.kindOf x=be .cell\/env.kindOf x=be .free)/\∃ c,env.cells.lookup x=be c/\h.IsCell c (be u))
structure Cx.Ok(X:Cx):Prop where
 mod:Mod X.K X.mg X.base
 kind:X.env.scope.kind= .function
 glob:X.env.globals=Pi
 blt:X.env.builtins=TM
 above:X.s₀.heap.objs.size<=X.env.locals
 inj:∀ x y c,X.env.cells.lookup x=be c->X.env.cells.lookup y=be c->x=y
 has:∀ x,(X.env.kindOf x=be .cell\/X.env.kindOf x=be .free)->∃ c,X.env.cells.lookup x=be c
 cab:∀ x c,X.fn x=true->X.env.cells.lookup x=be c->X.s₀.heap.objs.size<=c
 hd:X.calm=true->X.A.handled=m9
 frames:X.A.frames=be X.stack
 stk:X.stack=X.outer\/(X.stack=X.env::X.outer/\X.env.frame=be X.env.locals)
 exf:∀ b∈X.ex,b≠X.env.locals/\∀ x c,X.env.cells.lookup x=be c->c≠b
 bs:∀ b o,X.base.get? b=be o->X.s₀.heap.get? b=be o/\X.H₀ b=m9
 bsz:X.base.objs.size<=X.s₀.heap.objs.size
 noex:∀ b o,X.base.get? b=be o->b ∉ X.ex
 exfs:∀ b∈X.ex,b ∉ X.fs
 funs:X.s₀.heap.FunFrames X.base X.outer
 frf:∀ b∈X.fs,X.H₀ b=m9
structure Inv(X:Cx)(pins:List (KF × R'))(σ:List (Option V))(H:Hp)(s:KM):Prop where
 ok:X.Ok
 os:s.os=X.s₀.os
 bare:SJ s.gens
 base:Un X.fs X.ex X.H₀ H X.s₀.heap s.heap
 loc:∃ m,s.heap.Ns X.env.locals m/\∀ (i:Nat) (x:D') (v:V),X.N[i]?=be x->σ[i]?=be (be v)->Vis X.env.scope x->∃ u,RelV v u/\Look X.env s.heap m x u
 cell:∀ x c,X.env.cells.lookup x=be c->∃ v,s.heap.IsCell c v
 free:H X.env.locals=m9
 freeC:∀ x c,X.env.cells.lookup x=be c->H c=m9
 pin:∀ p∈X.pn++pins,s.heap.get? p.1=be p.2/\H p.1=m9/\p.1≠X.env.locals/\p.1 ∉ X.fs/\∀ v,p.2.data≠.cell v
 hok:HOk X.prog X.w H s.heap
 len:σ.length=X.N.length
section
variable {X:Cx}{pins:List (KF × R')}{σ:List (Option V)}{H H':Hp}{s:KM}{h':Heap}
def Cx.Ok.nofr(ok:X.Ok){b:KF}{o:R'}(e:X.base.get? b=be o):b ∉ X.fs:=λhb=>by
 have:=(ok.funs.mem hb).1;rw[e] at this;cases this
def Inv.bs(I:Inv X pins σ H s):∀ b o,X.base.get? b=be o->s.heap.get? b=be o/\H b=none:=λb o e=>
 ⟨I.base.keep b o (I.ok.bs b o e).1 (I.ok.bs b o e).2 (I.ok.nofr e) (I.ok.noex b o e),I.base.free b o (I.ok.bs b o e).1 (I.ok.bs b o e).2 (I.ok.noex b o e)⟩
def Inv.bk(I:Inv X pins σ H s):∀ b o,X.base.get? b=be o->s.heap.get? b=be o:=λb o e=>(I.bs b o e).1
def Inv.mod(I:Inv X pins σ H s):Mod X.K X.mg X.base:=I.ok.mod
def Inv.kIn(I:Inv X pins σ H s):X.K.In s.heap:=I.ok.mod.kin.keeps I.bk
def Inv.nolimit(I:Inv X pins σ H s):s.heap.NoLimit:=I.ok.mod.nolimit.keeps I.bk
def Inv.fr(I:Inv X pins σ H s):∃ m,Fr X.base X.env.locals s.heap m:=
 let ⟨m,hn,_⟩:=I.loc
 ⟨m,hn,I.bk,FA I.ok.bsz I.ok.above⟩
def Inv.lt(I:Inv X pins σ H s):X.env.locals<s.heap.objs.size:=let ⟨_,hn,_⟩:=I.loc;hn.lt
def Inv.sz(I:Inv X pins σ H s):X.s₀.heap.objs.size<=s.heap.objs.size:=FA I.ok.above (GW I.lt)
def Inv.nofs(I:Inv X pins σ H s){a:KF}(h:s.heap.objs.size<=a):a ∉ X.fs:=λhb=>by
 obtain⟨_,o,ho,_⟩:=I.ok.funs.mem hb;exact absurd (FQ (Heap.lt_size ho) (FA I.sz h)) (Gz _)
def Inv.cne(I:Inv X pins σ H s):∀ x c,X.env.cells.lookup x=be c->c≠X.env.locals:=λx c e z=>by
 obtain⟨v,o,ho,hd⟩:=I.cell x c e;obtain⟨m,⟨o',es,ep,Jy,e8,_⟩,_⟩:=I.loc;rw[z,Jy] at ho;cases ho;rw[e8] at hd;cases hd
def Inv.funs(I:Inv X pins σ H s):s.heap.FunFrames X.base X.outer:=by
 have all:∀ (l:List SE),(∀ b∈frs l,b∈X.fs)->X.s₀.heap.FunFrames X.base l->s.heap.FunFrames X.base l:=by
  intro l;induction l with
  |nil=>intro _ _;trivial
  |cons env r ih=>
   intro hs hl;obtain⟨hk,⟨L,o,hf,hn,ho,hd⟩,hr⟩:=hl;have hL:L∈X.fs:=hs L (by unfold frs;rw[GX,hf];exact Fv);obtain⟨sl,e⟩:=I.base.slot L o ho (I.ok.frf L hL) hL λz=>I.ok.exfs L z hL;exact⟨hk,⟨L,_,hf,hn,e,hd⟩,ih (λb hb=>hs b (by unfold frs;rw[GX,hf];exact Fu _ hb)) hr⟩
 exact all X.outer (λ_ hb=>hb) I.ok.funs
def Inv.stack(I:Inv X pins σ H s):s.heap.FunFrames X.base X.stack:=by
 rcases I.ok.stk with e|⟨e,hf⟩
 .rw[e];exact I.funs
 .rw[e];obtain⟨m,hn,_⟩:=I.loc;refine .cons (by rw[I.ok.kind];decide) hf hn ?_ I.funs;exact Heap.get?_none_of_le (FA I.ok.bsz I.ok.above)
def Inv.stkSub(I:Inv X pins σ H s):∀ b∈frs X.stack,b∈X.env.locals::X.fs:=λb hb=>by
 rcases I.ok.stk with e|⟨e,hf⟩
 .rw[e] at hb;exact Fu _ hb
 .rw[e] at hb;unfold frs at hb;rw[GX,hf] at hb;exact hb
def Inv.stkFree(I:Inv X pins σ H s):∀ b∈frs X.stack,H b=none:=λb hb=>by
 rcases Fp.mp (I.stkSub b hb) with e|hb
 .rw[e];exact I.free
 .obtain⟨_,o,ho,_⟩:=I.ok.funs.mem hb;exact I.base.free b o ho (I.ok.frf b hb) λz=>I.ok.exfs b z hb
variable{g':Array Tw}{t':Nat}{d':Drawn}{ch:List KF}
def Inv.step(I:Inv X pins σ H s)
  (z9:∀ b∈ch,(b∈X.ex\/X.s₀.heap.objs.size<=b)/\b≠X.env.locals/\(∀ x c,X.env.cells.lookup x=be c->c≠b)/\∀ p∈X.pn++pins,p.1≠b)
  (keep:∀ b o,b≠X.env.locals->b ∉ X.fs->b ∉ ch->s.heap.get? b=be o->H b=m9->h'.get? b=be o)
  (slot:∀ b o,b≠X.env.locals->b∈X.fs->b ∉ ch->s.heap.get? b=be o->H b=m9->∃ sl,h'.get? b=be {o with slots:=sl}) (free:∀ b o,b ∉ ch->s.heap.get? b=be o->H b=m9->H' b=m9)
  (there:∀ b o,b ∉ ch->s.heap.get? b=be o->∃ o',h'.get? b=be o')
  (tups:∀ b xs,H b=be (.tup xs)->H' b=be (.tup xs)) (frzs:∀ b o u,H b=be (.frz o u)->H' b=be (.frz o u)) (tbls:∀ b ps,H b=be (.tbl ps)->∃ more,H' b=be (.tbl (ps++more)))
  (ns:∀ m,s.heap.Ns X.env.locals m->h'.Ns X.env.locals m) (hok:HOk X.prog X.w H' h') (hg:SJ g'):
  Inv X pins σ H' {s with heap:=h',gens:=g',drawn:=d',toks:=t'}:=by
 have Ov:∀ b o,X.s₀.heap.get? b=be o->b≠X.env.locals:=λb o e=>Fy (FQ (Heap.lt_size e) I.ok.above);have Ly:∀ b o,X.s₀.heap.get? b=be o->b ∉ X.ex->b ∉ ch:=λb o e hx hb=>by
  rcases(z9 b hb).1 with z|z
  .exact hx z
  .exact absurd (FQ (Heap.lt_size e) z) (Gz _)
 have l8:∀ x c,X.env.cells.lookup x=be c->∀ v,s.heap.IsCell c v->h'.IsCell c v:=λx c e v ⟨o,ho,hd⟩=>by
  have Kr:c ∉ ch:=λz=>(z9 c z).2.2.1 x c e rfl;by_cases hc:c∈X.fs
  .obtain⟨sl,q⟩:=slot c o (I.cne x c e) hc Kr ho (I.freeC x c e);exact⟨_,q,hd⟩
  .exact⟨o,keep c o (I.cne x c e) hc Kr ho (I.freeC x c e),hd⟩
 refine⟨I.ok,I.os,hg,⟨λb o e n hb hx=>?_,λb o e n hb hx=>?_,λb o e n hx=>?_,λb o e hx=>?_,λb xs e=>tups b xs (I.base.tups b xs e),λb o xs e=>frzs b o xs (I.base.frzs b o xs e),λb ps e=>?_⟩,?_,λx c e=>?_,?_,λx c e=>?_,λp hp=>?_,hok,I.len⟩
 .exact keep b o (Ov b o e) hb (Ly b o e hx) (I.base.keep b o e n hb hx) (I.base.free b o e n hx)
 .obtain⟨sl,e1⟩:=I.base.slot b o e n hb hx;obtain⟨r_,e2⟩:=slot b _ (Ov b o e) hb (Ly b o e hx) e1 (I.base.free b o e n hx);exact⟨r_,e2⟩
 .obtain⟨o',e1⟩:=I.base.there b o e hx;exact free b o' (Ly b o e hx) e1 (I.base.free b o e n hx)
 .obtain⟨o',e1⟩:=I.base.there b o e hx;exact there b o' (Ly b o e hx) e1
 .obtain⟨m1,e1⟩:=I.base.tbls b ps e;obtain⟨m2,e2⟩:=tbls b _ e1;exact⟨m1++m2,by rw[e2,HJ]⟩
 .obtain⟨m,hn,hl⟩:=I.loc;refine⟨m,ns m hn,λi x v e1 e2 e3=>?_⟩;obtain⟨u,r,l⟩:=hl i x v e1 e2 e3;refine⟨u,r,?_⟩;rcases l with l|⟨k,c,e,z⟩
  .exact .inl l
  .exact .inr ⟨k,c,e,l8 x c e _ z⟩
 .obtain⟨v,z⟩:=I.cell x c e;exact⟨v,l8 x c e v z⟩
 .obtain⟨m,⟨o,_,_,ho,_⟩,_⟩:=I.loc;exact free _ o (λz=>(z9 _ z).2.1 rfl) ho I.free
 .obtain⟨v,o,ho,hd⟩:=I.cell x c e;exact free c o (λz=>(z9 c z).2.2.1 x c e rfl) ho (I.freeC x c e)
 .obtain⟨e,n,ne,nf,d⟩:=I.pin p hp;have Kr:p.1 ∉ ch:=λz=>(z9 p.1 z).2.2.2 p hp rfl;exact⟨keep p.1 p.2 ne nf Kr e n,free p.1 p.2 Kr e n,ne,nf,d⟩
def Inv.un(I:Inv X pins σ H s)(u:Un X.fs [] H H' s.heap h')(hok:HOk X.prog X.w H' h'):Inv X pins σ H' {s with heap:=h',toks:=t'}:=by
 obtain⟨m,⟨o,es,ep,ho,r⟩,_⟩:=id I.loc;obtain⟨sl,hL⟩:=u.any ho I.free (by simp);exact I.step (g':=s.gens) (d':=s.drawn) (ch:=[]) (λ_ z=>nomatch z) (λb o _ hb _ e n=>u.keep b o e n hb (by simp)) (λb o _ hb _ e n=>u.slot b o e n hb (by simp)) (λb o _ e n=>u.free b o e n (by simp)) (λb o _ e=>u.there b o e (by simp)) u.tups u.frzs u.tbls (λm' hm=>by
  obtain⟨o',L_,Ma,Jy,r'⟩:=hm;rw[ho] at Jy;cases Jy;exact⟨_,L_,Ma,hL,r'⟩) hok I.bare
def Inv.call(I:Inv X pins σ H s)(u:Un (frs X.stack) ch H H' s.heap h')(hok:HOk X.prog X.w H' h')(hg:SJ g')
  (z9:∀ b∈ch,(b∈X.ex\/X.s₀.heap.objs.size<=b)/\b≠X.env.locals/\(∀ x c,X.env.cells.lookup x=be c->c≠b)/\∀ p∈X.pn++pins,p.1≠b):
  Inv X pins σ H' {s with heap:=h',gens:=g',drawn:=d',toks:=t'}:=by
 obtain⟨m,⟨o,es,ep,ho,r⟩,_⟩:=id I.loc;obtain⟨sl,hL⟩:=u.any ho I.free λz=>(z9 _ z).2.1 rfl;exact I.step (ch:=ch) z9 (λb o hL hb hc e n=>u.keep b o e n (λz=>(Fp.mp (I.stkSub b z)).elim hL hb) hc) (λb o _ _ hc e n=>u.any e n hc) (λb o hc e n=>u.free b o e n hc) (λb o hc e=>u.there b o e hc) u.tups u.frzs u.tbls (λm' hm=>by
  obtain⟨o',L_,Ma,Jy,r'⟩:=hm;rw[ho] at Jy;cases Jy;exact⟨_,L_,Ma,hL,r'⟩) hok hg
def Inv.turned{it:KF}(I:Inv X pins σ H s)(k:∀ b o,b≠it->s.heap.get? b=be o->h'.get? b=be o)(hn:H it=m9)(hL:it≠X.env.locals)
  (h1:it∈X.ex\/X.s₀.heap.objs.size<=it) (h2:∀ x c,X.env.cells.lookup x=be c->c≠it) (h3:∀ p∈X.pn++pins,p.1≠it):Inv X pins σ H {s with heap:=h',toks:=t'}:=by
 have Jz:∀ b u,H b=be u->b≠it:=λb u e z=>by rw[z,hn] at e;cases e
 refine I.step (g':=s.gens) (d':=s.drawn) (ch:=[it]) (λb hb=>?_) (λb o _ _ hc e _=>k b o (λz=>hc (by simp[z])) e) (λb o _ _ hc e _=>⟨o.slots,k b o (λz=>hc (by simp[z])) e⟩) (λ_ _ _ _ n=>n)
  (λb o hc e=>⟨o,k b o (λz=>hc (by simp[z])) e⟩) (λ_ _ e=>e) (λ_ _ _ e=>e) (λb ps e=>⟨#[],by rw[e];simp⟩) (λm hm=>?_) (λb u e=>?_) I.bare
 .have e:b=it:=by simpa using hb
  subst e;exact⟨h1,hL,h2,h3⟩
 .obtain⟨o,es,ep,ho,r⟩:=hm;exact⟨o,es,ep,k _ o (Ne.symm hL) ho,r⟩
 .refine(I.hok b u e).stay (λc v hc q=>k c v ?_ q) (λ_ q=>q) λ_ _ q=>q;rcases hc with z|z
  .rw[z];exact Jz b u e
  .exact Jz c _ z
def Inv.tok(I:Inv X pins σ H s)(t:Nat):Inv X pins σ H {s with toks:=t}:=I.un (h':=s.heap) (t':=t) Un.refl I.hok
def Inv.kept(I:Inv X pins σ H s)(k:∀ b u,s.heap.get? b=be u->h'.get? b=be u):Inv X pins σ H {s with heap:=h',toks:=t'}:=I.un (Un.kept k) (I.hok.kept k)
def Inv.laid{a:KF}{o:HO}(I:Inv X pins σ H s)(k:∀ b u,s.heap.get? b=be u->h'.get? b=be u)(hp:s.heap.objs.size<=a)(new:ObjOk X.prog X.w (upd H a o) h' a o):
  Inv X pins σ (upd H a o) {s with heap:=h',toks:=t'}:=I.un (Un.laid k hp (I.hok.fresh hp)) (I.hok.laid k hp new)
def Inv.write{x e:KF}{o:HO}(I:Inv X pins σ H s)(mu:Mut (H x))(he:e=x\/H e=be (.own x))(k:∀ b u,b≠e->s.heap.get? b=be u->h'.get? b=be u)(z8:∃ u,h'.get? e=be u)
  (new:ObjOk X.prog X.w (upd H x o) h' x o):Inv X pins σ (upd H x o) {s with heap:=h',toks:=t'}:=I.un (Un.write mu he k z8) (I.hok.write mu he k z8 new)
def Inv.pins_of{Jd:List (KF × R')}(I:Inv X pins σ H s)(h:∀ p∈Jd,s.heap.get? p.1=be p.2/\H p.1=m9/\p.1≠X.env.locals/\p.1 ∉ X.fs/\∀ v,p.2.data≠.cell v):Inv X Jd σ H s:=
 ⟨I.ok,I.os,I.bare,I.base,I.loc,I.cell,I.free,I.freeC,λp hp=>(FO.mp hp).elim (λz=>I.pin p (Ge _ z)) (h p),I.hok,I.len⟩
variable{x:D'}{i:Nat}
def pN{N:List D'}(hN:N.Nodup){j:Nat}(a:N[i]?=be x)(b:N[j]?=be x):i=j:=by
 obtain⟨h1,e1⟩:=FG.mp a;obtain⟨h2,e2⟩:=FG.mp b;exact(List.getElem_inj hN).mp (e1.trans e2.symm)
variable{E:KB->KM->Prop}{Q:Unit->KM->Prop}
def pO{M:TV}{A:RU}{v:V}{u:KB}(I:Inv X pins σ H s)(hN:X.N.Nodup)(hi:X.N[i]?=be x)(hx:Loc X.env.scope x)(r:RelV v u)
  (h:∀ s',Inv X pins (σ.set i (be v)) H s'->(∃ a,Heap.SameBut a s.heap s'.heap/\(a=X.env.locals\/X.env.cells.lookup x=be a))->Q () s') (hf:autoParam (zFN X x) zA3):RS M A (storeName X.env x u) Q E s:=by
 obtain⟨m,hn,hl⟩:=id I.loc;have JA:(X.env.scope.kind== .class||(X.env.scope.kind== .module && X.env.locals !=X.env.globals))=false:=by rw[I.ok.kind];rfl
 have hiσ:i<σ.length:=by rw[I.len];exact(FG.mp hi).1
 have cne:=I.cne;have j9:∀ {a:KF} {h':Heap},(∃ o,s.heap.get? a=be o/\H a=m9)->Heap.SameBut a s.heap h'->HOk X.prog X.w H h':=λ{a h'} ha hs b ob e=>by
  obtain⟨_,_,j6⟩:=ha;refine(I.hok b ob e).stay (λc w' hc q=>(hs.2 c ?_).trans q) (λ_ q=>q) λ_ _ q=>q;rintro rfl;rcases hc with rfl|hc
  .rw[j6] at e;cases e
  .rw[j6] at hc;cases hc
 rcases hx with hk|hk
 .refine wpAny_storeName_local hk hn (λh' k8 hs=>?_) JA;obtain⟨oL,_,_,PL,_⟩:=id hn;refine h _ ⟨I.ok,I.os,I.bare,⟨λb o e n hb hx=>?_,λb o e n hb hx=>?_,I.base.free,λb o e hx=>?_,I.base.tups,I.base.frzs,I.base.tbls⟩,⟨_,k8,λj y v' e1 e2 e3=>?_⟩,λy c e=>?_,I.free,I.freeC,λp hp=>?_,j9 ⟨oL,PL,I.free⟩ hs,by simpa using I.len⟩ ⟨_,hs,.inl rfl⟩
  .exact(hs.2 b (Fy (FQ (Heap.lt_size e) I.ok.above))).trans (I.base.keep b o e n hb hx)
  .obtain⟨sl,e1⟩:=I.base.slot b o e n hb hx;exact⟨sl,(hs.2 b (Fy (FQ (Heap.lt_size e) I.ok.above))).trans e1⟩
  .obtain⟨o',e1⟩:=I.base.there b o e hx;exact⟨o',(hs.2 b (Fy (FQ (Heap.lt_size e) I.ok.above))).trans e1⟩
  .by_cases hj:j=i
   .subst hj;rw[hi] at e1;cases e1;rw[Ga hiσ] at e2;cases e2;exact⟨u,r,.inl ⟨hk,by simp⟩⟩
   .rw[FM (Ne.symm hj)] at e2;obtain⟨u',r',q⟩:=hl j y v' e1 e2 e3;refine⟨u',r',?_⟩;rcases q with⟨k,e⟩|⟨k,c,e,z⟩
    .refine .inl ⟨k,?_⟩;have:y≠x:=λe=>hj (pN hN e1 (e ▸ hi));simp[this,e]
    .exact .inr ⟨k,c,e,z.sameBut hs (cne y c e)⟩
  .obtain⟨w',z⟩:=I.cell y c e;exact⟨w',z.sameBut hs (cne y c e)⟩
  .obtain⟨e,n,ne,nf,d⟩:=I.pin p hp;exact⟨(hs.2 p.1 ne).trans e,n,ne,nf,d⟩
 .have Ks:X.fn x=true:=by
   rcases hf with z|z
   .exact z
   .rw[z] at hk;cases hk
  obtain⟨c,hc⟩:=I.ok.has x (.inl hk);obtain⟨w',z⟩:=I.cell x c hc;refine wpAny_storeName_cell I.ok.kind hk hc z (λh' Je hs=>?_);obtain⟨oc,Ow,Mb⟩:=id z;refine h {s with heap:=h'} ⟨I.ok,I.os,I.bare,⟨λb o e n hb hx=>?_,λb o e n hb hx=>?_,I.base.free,λb o e hx=>?_,I.base.tups,I.base.frzs,I.base.tbls⟩,⟨m,hn.sameBut hs (Ne.symm (cne x c hc)),λj y v' e1 e2 e3=>?_⟩,λy c' e=>?_,I.free,I.freeC,λp hp=>?_,j9 ⟨oc,Ow,I.freeC x c hc⟩ hs,by simpa using I.len⟩ ⟨c,hs,.inr hc⟩
  .exact(hs.2 b (Fy (FQ (Heap.lt_size e) (I.ok.cab x c Ks hc)))).trans (I.base.keep b o e n hb hx)
  .obtain⟨sl,e1⟩:=I.base.slot b o e n hb hx;exact⟨sl,(hs.2 b (Fy (FQ (Heap.lt_size e) (I.ok.cab x c Ks hc)))).trans e1⟩
  .obtain⟨o',e1⟩:=I.base.there b o e hx;exact⟨o',(hs.2 b (Fy (FQ (Heap.lt_size e) (I.ok.cab x c Ks hc)))).trans e1⟩
  .by_cases hj:j=i
   .subst hj;rw[hi] at e1;cases e1;rw[Ga hiσ] at e2;cases e2;exact⟨u,r,.inr ⟨.inl hk,c,hc,Je⟩⟩
   .rw[FM (Ne.symm hj)] at e2;obtain⟨u',r',q⟩:=hl j y v' e1 e2 e3;refine⟨u',r',?_⟩;rcases q with q|⟨k,c',e,z'⟩
    .exact .inl q
    .refine .inr ⟨k,c',e,z'.sameBut hs ?_⟩;rintro rfl;exact hj (pN hN e1 (I.ok.inj _ _ _ e hc ▸ hi))
  .by_cases Ox:c'=c
   .subst Ox;exact⟨_,Je⟩
   .obtain⟨w2,z2⟩:=I.cell y c' e;exact⟨w2,z2.sameBut hs Ox⟩
  .obtain⟨e,n,ne,nf,d⟩:=I.pin p hp;refine⟨(hs.2 p.1 ?_).trans e,n,ne,nf,d⟩;intro q;rw[q,Ow] at e;have q':oc=p.2:=Option.some.inj e;exact d w' (by rw[<- q'];exact Mb)
def dX{M:TV}{A:RU}{v:V}{u:KB}(I:Inv X pins σ H s)(hN:X.N.Nodup)(hi:X.N[i]?=be x)(hx:Loc X.env.scope x)(r:RelV v u)
  (h:∀ s',Inv X pins (σ.set i (be v)) H s'->Q () s') (hf:autoParam (zFN X x) zA3):RS M A (storeName X.env x u) Q E s:=
 pO I hN hi hx r (λs' I' _=>h s' I') hf
def Inv.call'{s':KM}(I:Inv X pins σ H s)(ho:s'.os=s.os)(u:Un (frs X.stack) ch H H' s.heap s'.heap)(hok:HOk X.prog X.w H' s'.heap)(hg:SJ s'.gens)
  (z9:∀ b∈ch,(b∈X.ex\/X.s₀.heap.objs.size<=b)/\b≠X.env.locals/\(∀ x c,X.env.cells.lookup x=be c->c≠b)/\∀ p∈X.pn++pins,p.1≠b):Inv X pins σ H' s':=by
 obtain⟨h',g',d',t',o'⟩:=s';have e:o'=s.os:=ho;subst e;exact I.call (g':=g') (t':=t') (d':=d') u hok hg z9
end
abbrev XK:=KB->Option KF->Hp->Prop
abbrev St:=List (Option V)
abbrev VK:=V->Hp->Prop
abbrev TE:=St->Hp->VK->Prop
abbrev TT:=St->Hp->(Bool->Hp->Prop)->Prop
abbrev TA:=St->Hp->(List V->Hp->Prop)->Prop
structure Ends where
 nx:St->Hp->Prop
 rt:VK
 bk:St->Hp->Prop:=λ_ _=>False
 ct:St->Hp->Prop:=λ_ _=>False
abbrev TS:=Ends->St->Hp->Prop
def EP(X:Cx)(pins:List (KF × R'))(σ:St)(Q:VK)(u:KB)(s':KM):Prop:=∃ v H',Inv X pins σ H' s'/\RelV v u/\Q v H'
def TP(X:Cx)(pins:List (KF × R'))(σ:St)(Q:Bool->Hp->Prop)(b:Bool)(s':KM):Prop:=∃ H',Inv X pins σ H' s'/\Q b H'
def AP(X:Cx)(pins:List (KF × R'))(σ:St)(Q:List V->Hp->Prop)(us:List KB)(s':KM):Prop:=∃ vs H',Inv X pins σ H' s'/\Vals vs us/\Q vs H'
def SP(X:Cx)(pins:List (KF × R'))(D:Ends)(f:Flow)(s':KM):Prop:=
 match f with
 | .next=>∃ σ' H',Inv X pins σ' H' s'/\D.nx σ' H'
 | .brk=>∃ σ' H',Inv X pins σ' H' s'/\D.bk σ' H'
 | .cont=>∃ σ' H',Inv X pins σ' H' s'/\D.ct σ' H'
 | .ret u=>∃ v σ' H',Inv X pins σ' H' s'/\RelV v u/\D.rt v H'
def PE(X:Cx)(e:RP)(t:TE):Prop:=
 ∀ (pins:List (KF × R')) (s:KM) (σ:St) (H:Hp) (Q:VK),Inv X pins σ H s->t σ H Q->RS (RR X.prog X.w) X.A (R1 e X.env) (EP X pins σ Q) X.xe s
def PT(X:Cx)(e:RP)(t:TT):Prop:=
 ∀ (pins:List (KF × R')) (s:KM) (σ:St) (H:Hp) (Q:Bool->Hp->Prop),Inv X pins σ H s->t σ H Q->RS (RR X.prog X.w) X.A (isTrue e X.env (R1 e X.env)) (TP X pins σ Q) X.xe s
def PW(X:Cx)(e:RP)(t:TT):Prop:=
 ∀ (g7:Tq KB) (pins:List (KF × R')) (s:KM) (σ:St) (H:Hp) (Q:Bool->Hp->Prop),Inv X pins σ H s->t σ H Q->RS (RR X.prog X.w) X.A (isTrue e X.env g7) (TP X pins σ Q) X.xe s
variable{X:Cx}
def PW.pt{e:RP}{t:TT}(h:PW X e t):PT X e t:=h _
def PA(X:Cx)(es:List RP)(t:TA):Prop:=
 ∀ (pos:R5) (pins:List (KF × R')) (s:KM) (σ:St) (H:Hp) (Q:List V->Hp->Prop),Inv X pins σ H s->t σ H Q->RS (RR X.prog X.w) X.A (spliced (Sw pos (RV es X.env))) (AP X pins σ Q) X.xe s
def PS(X:Cx)(st:RO)(t:TS):Prop:=
 ∀ (pins:List (KF × R')) (s:KM) (σ:St) (H:Hp) (D:Ends),Inv X pins σ H s->t D σ H->RS (RR X.prog X.w) X.A (exec st X.env) (SP X pins D) X.xe s
def PSs(X:Cx)(st:List RO)(t:TS):Prop:=
 ∀ (pins:List (KF × R')) (s:KM) (σ:St) (H:Hp) (D:Ends),Inv X pins σ H s->t D σ H->RS (RR X.prog X.w) X.A (execs st X.env) (SP X pins D) X.xe s
variable{A:RU}{E:KB->KM->Prop}{s:KM}
def thn{α:Type}{t:Tq α}{Q Q':α->KM->Prop}{M:TV}(h:RS M A t Q E s)(hQ:∀ a s,Q a s->Q' a s):RS M A t Q' E s:=R3 h hQ λ_ _ x=>x
section
variable {X:Cx}
def tVar(i:Nat):TE:=λσ H Q=>∃ v,σ[i]?=be (be v)/\Q v H
def tC(v:V):TE:=λ_ H Q=>Q v H
variable{x:D'}{pos:R5}
def dz{i:Nat}(hN:X.N[i]?=be x)(hv:Vis X.env.scope x)(hd:autoParam (zND x) zA1)(gt:autoParam (zNC x) zA1):PE X (.Name x pos) (tVar i):=by
 intro pins s σ H Q I h;obtain⟨v,e,h⟩:=h;obtain⟨m,hn,hl⟩:=I.loc;obtain⟨u,r,l⟩:=hl i x v hN e hv;have c_:EP X pins σ Q u s:=⟨v,H,I,r,h⟩;rcases l with⟨hk,hm⟩|⟨hk,c,hc,l9⟩
 .exact TF (wpAny_loadName_local I.ok.kind hk hn hm c_) hd
 .rcases hk with hk|hk
  .exact TF (wpAny_loadName_cell I.ok.kind hk hc l9 c_) hd
  .exact TF (wpAny_loadName_free I.ok.kind hk hc l9 c_ gt) hd
def vD{i j pos}:PE X (.Constant (.int i) j pos) (tC (.int i)):=λ_ _ _ H _ I h=>wpAny_Constant_int ⟨.int i,H,I.tok _,⟨_,rfl⟩,h⟩
def vE{b j pos}:PE X (.Constant (.bool b) j pos) (tC (.bl b)):=λ_ _ _ H _ I h=>Constant_bool ⟨.bl b,H,I,rfl,h⟩
def vF{j pos}:PE X (.Constant .none j pos) (tC .non):=λ_ _ _ H _ I h=>Constant_none ⟨.non,H,I,rfl,h⟩
def pP{x j pos}:PE X (.Constant (.str x) j pos) (tC (.str x)):=λ_ _ _ H _ I h=>Calls.Constant_str ⟨.str x,H,I.tok _,⟨_,rfl⟩,h⟩
def Gl(X:Cx)(x:D'):Prop:=X.env.kindOf x=be .globalImplicit
variable{E Q:KB->KM->Prop}{pins:List (KF × R')}{u:KB}
def cA{s:KM}{σ:St}{H:Hp}(I:Inv X pins σ H s)(hg:Gl X x)(hm:X.mg x=be u)(h:Q u s)
  (hd:autoParam (zND x) zA1):RS (RR X.prog X.w) X.A (R1 (.Name x pos) X.env) Q E s:=
 Calls.Name_function_global I.ok.kind hg (Calls.loadGlobal_global (by rw[I.ok.glob];exact I.mod.glob.keeps I.bk) hm h) hd
def dA{s:KM}{σ:St}{H:Hp}(I:Inv X pins σ H s)(hg:Gl X x)(hm:X.mg x=m9)(hv:R_ x=be u)(h:Q u s)
  (hn:autoParam (x≠"__name__") zA1) (hd:autoParam (zND x) zA1):RS (RR X.prog X.w) X.A (R1 (.Name x pos) X.env) Q E s:=by
 obtain⟨mb,h1,h2⟩:=I.mod.blt;exact Calls.Name_function_global I.ok.kind hg (Calls.loadGlobal_builtin (by rw[I.ok.glob];exact I.mod.glob.keeps I.bk) hm (by rw[I.ok.blt];exact h1.keeps I.bk) ((h2 x hn).trans hv) h) hd
def vG{v:V}(hg:Gl X x)(hm:X.mg x=be u)(r:RelV v u)(hd:autoParam (zND x) zA1):PE X (.Name x pos) (tC v):=
 λ_ _ _ H _ I h=>cA I hg hm ⟨v,H,I,r,h⟩ hd
def vH{v:V}(hg:Gl X x)(hm:X.mg x=m9)(hv:R_ x=be u)(r:RelV v u)(hn:autoParam (x≠"__name__") zA1)(hd:autoParam (zND x) zA1):PE X (.Name x pos) (tC v):=
 λ_ _ _ H _ I h=>dA I hg hm hv ⟨v,H,I,r,h⟩ hn hd
variable {a b:RP}{ta tb:TE}{pos:R5}
def tB(t:TE):TT:=λσ H Q=>t σ H λx H1=>∃ c,x= .bl c/\Q c H1
variable {tA C_:TT}{rest:List RP}
def tAnd(t u:TT):TT:=λσ H Q=>t σ H λc H1=>if c=true then u σ H1 Q else Q false H1
def tOr(t u:TT):TT:=λσ H Q=>t σ H λc H1=>if c=true then Q true H1 else u σ H1 Q
def tNot(t:TT):TT:=λσ H Q=>t σ H λc H1=>Q (!c) H1
def pQ(ha:PT X a tA):PW X (.BoolOp .And [a] pos) tA:=by
 intro wh pins s σ H Q I h;refine isTrue_and (thn (ha pins s σ H Q I h) λc s1 e=>?_);cases c with
 |true=>exact isTrue_and_nil e
 |false=>exact e
def pR(ha:PT X a tA):PW X (.BoolOp .Or [a] pos) tA:=by
 intro wh pins s σ H Q I h;refine isTrue_or (thn (ha pins s σ H Q I h) λc s1 e=>?_);cases c with
 |false=>exact isTrue_or_nil e
 |true=>exact e
def pS(ha:PT X a tA)(hb:PW X (.BoolOp .And (b::rest) pos) C_):PW X (.BoolOp .And (a::b::rest) pos) (tAnd tA C_):=by
 intro wh pins s σ H Q I h;refine isTrue_and (thn (ha pins s σ H _ I h) λc s1 b8=>?_);obtain⟨H1,I1,q1⟩:=b8;cases c with
 |true=>exact hb wh pins s1 σ H1 Q I1 q1
 |false=>exact⟨H1,I1,q1⟩
def pT(ha:PT X a tA)(hb:PW X (.BoolOp .Or (b::rest) pos) C_):PW X (.BoolOp .Or (a::b::rest) pos) (tOr tA C_):=by
 intro wh pins s σ H Q I h;refine isTrue_or (thn (ha pins s σ H _ I h) λc s1 b8=>?_);obtain⟨H1,I1,q1⟩:=b8;cases c with
 |true=>exact⟨H1,I1,q1⟩
 |false=>exact hb wh pins s1 σ H1 Q I1 q1
def vI(ha:PT X a tA):PT X (.UnaryOp .Not a pos) (tNot tA):=by
 intro pins s σ H Q I h;exact isTrue_not (ha pins s σ H (λc H1=>Q (!c) H1) I h)
def vJ(ta tb:TE):TE:=λσ H Q=>ta σ H λx H1=>∃ c,x= .bl c/\if c=true then tb σ H1 Q else Q (.bl false) H1
def vK(ta:TE):TE:=λσ H Q=>ta σ H λx H1=>∃ c,x= .bl c/\Q (.bl (!c)) H1
def vL{op}{t:TE}(h:PE X a t):PE X (.BoolOp op [a] pos) t:=λpins s σ H Q I hw=>BoolOp_one (h pins s σ H Q I hw)
def vM(ha:PE X a ta)(hb:PE X (.BoolOp .And (b::rest) pos) tb):PE X (.BoolOp .And (a::b::rest) pos) (vJ ta tb):=by
 intro pins s σ H Q I h;refine BoolOp_and (thn (ha pins s σ H _ I h) λv s1 b8=>?_);obtain⟨x,H1,I1,r1,q1⟩:=b8;obtain⟨c,rfl,q1⟩:=q1;cases r1;refine SG ?_;cases c with
 |true=>exact hb pins s1 σ H1 Q I1 q1
 |false=>exact⟨.bl false,H1,I1,rfl,q1⟩
def vN(ha:PE X a ta):PE X (.UnaryOp .Not a pos) (vK ta):=by
 intro pins s σ H Q I h;refine UnaryOp_ (thn (ha pins s σ H _ I h) λv s1 b8=>?_);obtain⟨x,H1,I1,r1,q1⟩:=b8;obtain⟨c,rfl,q1⟩:=q1;cases r1;exact not_of (SG ⟨.bl (!c),H1,I1,rfl,q1⟩)
def tIf(t:TT)(ta tb:TE):TE:=λσ H Q=>t σ H λc H1=>if c=true then ta σ H1 Q else tb σ H1 Q
def vO{c:RP}(hc:PT X c tA)(ha:PE X a ta)(hb:PE X b tb):PE X (.IfExp c a b pos) (tIf tA ta tb):=by
 intro pins s σ H Q I h;refine wpAny_IfExp (thn (hc pins s σ H _ I h) λd s1 b8=>?_);obtain⟨H1,I1,q1⟩:=b8;cases d with
 |true=>exact ha pins s1 σ H1 Q I1 q1
 |false=>exact hb pins s1 σ H1 Q I1 q1
end
def SqL(K:Ex)(H:Hp)(a:KF)(xs:List V):Prop:=
 Rd H a (.lst xs)\/
  ∃ (o:R') (its:Array KB) (n:Nat),K.lookup a=be o/\o.cls= .type "list"/\o.dict=m9/\o.data= .seq its n/\its.size<=sizeLine/\Vals xs its.toList
def SqT(K:Ex)(H:Hp)(a:KF)(xs:List V):Prop:=
 Rd H a (.tup xs)\/
  ∃ (o:R') (its:Array KB) (n:Nat),K.lookup a=be o/\o.cls= .type "tuple"/\o.data= .seq its n/\its.size<=sizeLine/\Vals xs its.toList
def absV:KB->Option V
 | .none=>be .non
 | .bool b=>be (.bl b)
 | .int i _=>be (.int i)
 | .str x _=>be (.str x)
 | .bytes b _=>be (.byt b)
 | .float b _=>be (.flt b)
 | .ref a=>be (.ref a)
 | .type n=>be (.ty n)
 |_=>m9
variable{u:KB}
def RelV.abs{x:V}(r:RelV x u):absV u=be x:=by
 cases x with
 |non=>cases r;rfl
 |bl _=>cases r;rfl
 |int _=>obtain⟨t,rfl⟩:=r;rfl
 |str _=>obtain⟨t,rfl⟩:=r;rfl
 |byt _=>obtain⟨t,rfl⟩:=r;rfl
 |flt _=>obtain⟨t,rfl⟩:=r;rfl
 |ref _=>cases r;rfl
 |ty _=>cases r;rfl
def RelV.inj{x y:V}(r:RelV x u)(q:RelV y u):x=y:=Option.some.inj (r.abs.symm.trans q.abs)
def Vals.inj:∀ {xs ys:List V} {us:List KB},Vals xs us->Vals ys us->xs=ys:=by
 intro xs ys us h;induction h generalizing ys with
 |nil=>intro g;cases g;rfl
 |cons r _ e=>
  intro g;cases g with
  |cons r' t'=>rw[r.inj r',e t']
section
variable {X:Cx}{pins:List (KF × R')}{σ:St}{H:Hp}{s:KM}{a:KF}{xs ys:List V}
def SqL.of{K:Ex}(h:H a=be (.lst xs)):SqL K H a xs:= .inl (.inl h)
def SqT.of{K:Ex}(h:H a=be (.tup xs)):SqT K H a xs:= .inl (.inl h)
def Inv.list(I:Inv X pins σ H s)(h:SqL X.K H a xs):∃ its:List KB,Vals xs its/\PlainL s.heap a its.toArray/\xs.length<=sizeLine:=by
 rcases h with h|⟨o,its,n,hk,hc,hd,hs,hz,r⟩
 .obtain⟨z,its,n,r,e⟩:=h.ok I.hok;exact⟨its,r,⟨_,n,e,rfl,rfl,rfl⟩,z⟩
 .refine⟨its.toList,r,⟨o,n,I.kIn a o hk,hc,hd,by simpa using hs⟩,?_⟩;have e:=r.length;simp only[GA] at e;lia
def Inv.tuple(I:Inv X pins σ H s)(h:SqT X.K H a xs):∃ its:List KB,Vals xs its/\IsTup s.heap a its.toArray/\xs.length<=sizeLine:=by
 rcases h with h|⟨o,its,n,hk,hc,hs,hz,r⟩
 .obtain⟨z,its,r,p⟩:=h.ok I.hok;exact⟨its,r,p,z⟩
 .refine⟨its.toList,r,⟨o,I.kIn a o hk,hc,n,by simpa using hs⟩,?_⟩;have e:=r.length;simp only[GA] at e;lia
def Inv.list_inj(I:Inv X pins σ H s)(h:SqL X.K H a xs)(h':SqL X.K H a ys):xs=ys:=by
 obtain⟨its,r,⟨o,n,e,_,_,d⟩,_⟩:=I.list h;obtain⟨its',r',⟨o',n',e',_,_,d'⟩,_⟩:=I.list h';rw[e] at e';cases e';rw[d] at d';injection d' with d1 _;have:its=its':=by simpa using congrArg Array.toList d1
 subst this;exact r.inj r'
end
abbrev Cx.wish(X:Cx)(E:KB->KM->Prop):Cx:={X with xe:=E}
abbrev Cx.nox(X:Cx):Cx:=X.wish λ_ _=>False
def Cx.Ok.wish(ok:X.Ok)(E:KB->KM->Prop):(X.wish E).Ok:=
 ⟨ok.mod,ok.kind,ok.glob,ok.blt,ok.above,ok.inj,ok.has,ok.cab,ok.hd,ok.frames,ok.stk,ok.exf,ok.bs,ok.bsz,ok.noex,ok.exfs,ok.funs,ok.frf⟩
def Cx.Ok.unwish(ok:(X.wish E).Ok):X.Ok:=
 ⟨ok.mod,ok.kind,ok.glob,ok.blt,ok.above,ok.inj,ok.has,ok.cab,ok.hd,ok.frames,ok.stk,ok.exf,ok.bs,ok.bsz,ok.noex,ok.exfs,ok.funs,ok.frf⟩
section
variable {X:Cx}{pins:List (KF × R')}{σ:St}{H:Hp}{s:KM}{E:KB->KM->Prop}
def Inv.wish(I:Inv X pins σ H s)(E:KB->KM->Prop):Inv (X.wish E) pins σ H s:=⟨I.ok.wish E,I.os,I.bare,I.base,I.loc,I.cell,I.free,I.freeC,I.pin,I.hok,I.len⟩
def Inv.unwish(I:Inv (X.wish E) pins σ H s):Inv X pins σ H s:=⟨I.ok.unwish,I.os,I.bare,I.base,I.loc,I.cell,I.free,I.freeC,I.pin,I.hok,I.len⟩
def SP.unwish{D:Ends}{f:Flow}{s':KM}(h:SP (X.wish E) pins D f s'):SP X pins D f s':=by
 cases f with
 |next=>obtain⟨σ',H',I,q⟩:=h;exact⟨σ',H',I.unwish,q⟩
 |brk=>obtain⟨σ',H',I,q⟩:=h;exact⟨σ',H',I.unwish,q⟩
 |cont=>obtain⟨σ',H',I,q⟩:=h;exact⟨σ',H',I.unwish,q⟩
 |ret u=>obtain⟨v,σ',H',I,r,q⟩:=h;exact⟨v,σ',H',I.unwish,r,q⟩
def PE.nox{e:RP}{t:TE}(h:PE X.nox e t):PE X e t:=λpins s σ H Q I hw=>
 R3 (h pins s σ H Q (I.wish _) hw) (λ_ _ ⟨v,H',I',r,q⟩=>⟨v,H',I'.unwish,r,q⟩) λ_ _ z=>False.elim z
def PT.nox{e:RP}{t:TT}(h:PT X.nox e t):PT X e t:=λpins s σ H Q I hw=>
 R3 (h pins s σ H Q (I.wish _) hw) (λ_ _ ⟨H',I',q⟩=>⟨H',I'.unwish,q⟩) λ_ _ z=>False.elim z
def PSs.nox{st:List RO}{t:TS}(h:PSs X.nox st t):PSs X st t:=λpins s σ H D I hw=>
 R3 (h pins s σ H D (I.wish _) hw) (λ_ _ q=>q.unwish) λ_ _ z=>False.elim z
end
section
variable {X:Cx}{st:RO}{rest:List RO}{t u:TS}{e:RP}{te:TE}{pos:R5}
def vP:TS:=λD σ H=>D.nx σ H
def tSeq(t u:TS):TS:=λD σ H=>t {D with nx:=u D} σ H
def pss_nil:PSs X [] vP:=λ_ _ σ H _ I h=>Sv ⟨σ,H,I,h⟩
def fC(h1:PS X st t)(h2:PSs X rest u):PSs X (st::rest) (tSeq t u):=by
 intro pins s σ H D I h;refine wpAny_execs_cons (thn (h1 pins s σ H {D with nx:=u D} I h) λf s1 q=>?_);cases f with
 |next=>
  obtain⟨σ',H',I',q⟩:=q;exact h2 pins s1 σ' H' D I' q
 |ret v=>exact q
 |brk=>exact q
 |cont=>exact q
def pU(h1:PS X st t):PSs X [st] t:=by
 intro pins s σ H D I h;refine wpAny_execs_cons (thn (h1 pins s σ H D I h) λf s1 q=>?_);cases f with
 |next=>exact Sv q
 |ret v=>exact q
 |brk=>exact q
 |cont=>exact q
def Inv.quiet{pins:List (KF × R')}{σ:St}{H:Hp}{s:KM}(I:Inv X pins σ H s):interactive X.env=false:=by simp[interactive,I.ok.kind]
def vQ(te:TE):TS:=λD σ H=>te σ H λ_ H1=>D.nx σ H1
def pV(he:PE X e te)(hs:autoParam (Sa e m9 pos.line X.env=pure false) zA0):PS X (.Expr e pos) (vQ te):=by
 intro pins s σ H D I h;exact wpAny_Expr_any (thn (he pins s σ H _ I h) λv s1 ⟨x,H1,I1,r1,q1⟩=>⟨σ,H1,I1,q1⟩) I.quiet hs
def tRet(te:TE):TS:=λD σ H=>te σ H D.rt
def pW(he:PE X e te):PS X (.Return (be e) pos) (tRet te):=by
 intro pins s σ H D I h;exact wpAny_Return_some (thn (he pins s σ H _ I h) λv s1 ⟨x,H1,I1,r1,q1⟩=>⟨x,σ,H1,I1,r1,q1⟩)
def tIfS(c:TT)(t u:TS):TS:=λD σ H=>c σ H λb H1=>if b=true then t D σ H1 else u D σ H1
def pX{c:RP}{a b:List RO}{tc:TT}(hc:PT X c tc)(ha:PSs X a t)(hb:PSs X b u):PS X (.If c a b pos) (tIfS tc t u):=by
 intro pins s σ H D I h;refine wpAny_If (thn (hc pins s σ H _ I h) λd s1 b8=>?_);obtain⟨H1,I1,q1⟩:=b8;cases d with
 |true=>exact ha pins s1 σ H1 D I1 q1
 |false=>exact hb pins s1 σ H1 D I1 q1
end
abbrev TG:=V->St->Hp->(St->Hp->Prop)->Prop
abbrev TGs:=List V->St->Hp->(St->Hp->Prop)->Prop
def PG(X:Cx)(f9:RP)(t:TG):Prop:=
 ∀ (pins:List (KF × R')) (s:KM) (σ:St) (H:Hp) (v:V) (u:KB) (Q:St->Hp->Prop),Inv X pins σ H s->RelV v u->t v σ H Q->
  RS (RR X.prog X.w) X.A (Sx f9 X.env u) (λ_ s'=>∃ σ' H',Inv X pins σ' H' s'/\Q σ' H') X.xe s
def PGs(X:Cx)(ts:List RP)(t:TGs):Prop:=
 ∀ (pins:List (KF × R')) (s:KM) (σ:St) (H:Hp) (vs:List V) (us:List KB) (Q:St->Hp->Prop),Inv X pins σ H s->Vals vs us->t vs σ H Q->
  RS (RR X.prog X.w) X.A (Ta ((RW ts X.env).map (·.2)) us) (λ_ s'=>∃ σ' H',Inv X pins σ' H' s'/\Q σ' H') X.xe s
abbrev TSet:=V->V->V->Hp->(Hp->Prop)->Prop
def PSet(X:Cx)(t:TSet):Prop:=
 ∀ (pins:List (KF × R')) (s:KM) (σ:St) (H:Hp) (o i v:V) (ov iv u:KB) (Q:Hp->Prop),Inv X pins σ H s->RelV o ov->RelV i iv->RelV v u->t o i v H Q->
  RS (RR X.prog X.w) X.A (setItem ov iv u) (λ_ s'=>∃ H',Inv X pins σ H' s'/\Q H') X.xe s
section
variable {X:Cx}{pos:R5}
def gl(i:Nat):TG:=λv σ H Q=>Q (σ.set i (be v)) H
variable{i:Nat}{x:D'}
def gm(hN:X.N.Nodup)(hi:X.N[i]?=be x)(hx:Loc X.env.scope x)(hf:autoParam (zFN X x) zA3):PG X (.Name x pos) (gl i):=by
 intro pins s σ H v u Q I r h;exact SI (dX I hN hi hx r (λs' I'=>⟨_,H,I',h⟩) hf)
def gNil:TGs:=λvs σ H Q=>vs=[]/\Q σ H
def vR(t:TG)(u:TGs):TGs:=λvs σ H Q=>∃ v r,vs=v::r/\t v σ H λσ' H'=>u r σ' H' Q
def vS:PGs X [] gNil:=by
 intro pins s σ H vs us Q I r h;obtain⟨e,h⟩:=h;subst e;cases r;exact TU ⟨σ,H,I,h⟩
variable{e:RP}{es:List RP}
def vT{t:TG}{u:TGs}(h1:PG X e t)(h2:PGs X es u)
  (hs:autoParam ((RW (e::es) X.env).map (·.2)=Sx e X.env::(RW es X.env).map (·.2)) zA0):PGs X (e::es) (vR t u):=by
 intro pins s σ H vs us Q I r h;obtain⟨v,vr,e1,h⟩:=h;subst e1;cases r with
 |cons r rr=>
  rw[hs];refine SY (thn (h1 pins s σ H _ _ _ I r h) λ_ s1 b8=>?_);obtain⟨σ1,H1,I1,q1⟩:=b8;exact h2 pins s1 σ1 H1 _ _ Q I1 rr q1
def gTup(K:Ex)(n:Nat)(t:TGs):TG:=λv σ H Q=>∃ a xs,v= .ref a/\SqT K H a xs/\xs.length=n/\t xs σ H Q
def fD{k:Nat}{t:TGs}{n:Nat}(hc:X.calm=true)(h:PGs X es t)
  (hn:autoParam ((RW es X.env).length=n) zA0) (l_:autoParam ((RW es X.env).findIdx? (·.1)=none) zA0):PG X (.Tuple es k pos) (gTup X.K n t):=by
 intro pins s σ H v u Q I r hw;obtain⟨a,xs,e1,hq,hl,hw⟩:=hw;subst e1;cases r;obtain⟨its,rv,ht,hz⟩:=I.tuple hq;refine assign_Tuple_tuple (I.ok.hd hc) ht (by simp[hn,<- hl,rv.length]) l_ λh' hx=>?_;have I1:Inv X pins σ H {s with heap:=h'}:=I.kept (t':=s.toks) λb o e=>hx b o (Fy (Heap.lt_size e)) e;exact h pins _ σ H xs _ Q I1 (by simpa using rv) hw
def gSub(to ti:TE)(t:TSet):TG:=λv σ H Q=>to σ H λo H1=>ti σ H1 λi H2=>t o i v H2 λH3=>Q σ H3
def vU{o i:RP}{to ti:TE}{t:TSet}(ho:PE X o to)(hi:PE X i ti)(hs:PSet X t)
  (ha:∀ v,Sx (.Subscript o i pos) X.env v=(do
   let ov <- Sz [v] (R1 o X.env)
   let iv <- Sz [v,ov] (R1 i X.env)
   SM pos
   Sz [v,ov,iv] (setItem ov iv v)
   release [v,ov,iv] []):=by intro _;rfl):PG X (.Subscript o i pos) (gSub to ti t):=by
 intro pins s σ H v u Q I r h;rw[ha];refine Os (Sj (thn (ho pins s σ H _ I h) λov s1 b8=>?_));obtain⟨x,H1,I1,r1,q1⟩:=b8;refine Os (Sj (thn (hi pins s1 σ H1 _ I1 q1) λiv s2 b8=>?_));obtain⟨y,H2,I2,r2,q2⟩:=b8;refine Os (Si (Os (Sj (thn (hs pins s2 σ H2 x y v ov iv u _ I2 r1 r2 r q2) λ_ s3 b8=>?_))));obtain⟨H3,I3,q3⟩:=b8;exact wpAny_release ⟨σ,H3,I3,q3⟩
def tAsg(te:TE)(g:TG):TS:=λD σ H=>te σ H λx H1=>g x σ H1 D.nx
def ju{tg:RP}{te:TE}{g:TG}(he:PE X e te)(hg:PG X tg g)(hs:autoParam (Sn [tg] e pos.line X.env=pure false) zA0)(hw:autoParam (So [tg] e X.env=pure none) zA0)
  (h1:autoParam ((RW [tg] X.env).map (·.2)=[Sx tg X.env]) zA0):PS X (.Assign [tg] e pos) (tAsg te g):=by
 intro pins s σ H D I h;refine wpAny_Assign_stores (thn (he pins s σ H _ I h) λv s1 hh=>?_) hs hw;obtain⟨x,H1,I1,r1,q1⟩:=hh;rw[h1];exact thn (hg pins s1 σ H1 x v _ I1 r1 q1) λ_ s2 q=>q
def gp{te:TE}{c8:R5}(hN:X.N.Nodup)(hi:X.N[i]?=be x)(hx:Loc X.env.scope x)(he:PE X e te)(hs:autoParam (Sa e (be (.Name x c8)) pos.line X.env=pure false) zA0)(hf:autoParam (zFN X x) zA3):
  PS X (.Assign [.Name x c8] e pos) (tAsg te (gl i)):=by
 intro pins s σ H D I h;refine wpAny_Assign_Name (thn (he pins s σ H _ I h) λv s1 hh=>?_) hs;obtain⟨y,H1,I1,r1,q1⟩:=hh;exact dX I1 hN hi hx r1 (λs2 I2=>⟨_,H1,I2,q1⟩) hf
def tPar(i j:Nat)(ta:TA):TS:=λD σ H=>ta σ H λvs H1=>∃ v w,vs=[v,w]/\D.nx ((σ.set i (be v)).set j (be w)) H1
def vV{j:Nat}{y:D'}{a b:RP}{ta:TA}{px py pt:R5}{kt k2 JB}(hc:X.calm=true)(hN:X.N.Nodup)(hi:X.N[i]?=be x)(hj:X.N[j]?=be y)(Mc:i≠j)
  (hx:X.env.scope.names.lookup x=be .local) (hy:X.env.scope.names.lookup y=be .local) (ha:PA X [a,b] ta)
  (hw:So [.Tuple [.Name x px,.Name y py] kt pt] (.Tuple [a,b] k2 JB) X.env=pure (be [x,y]))
  (hs:autoParam (Sn [.Tuple [.Name x px,.Name y py] kt pt] (.Tuple [a,b] k2 JB) pos.line X.env=pure false) zA0):
  PS X (.Assign [.Tuple [.Name x px,.Name y py] kt pt] (.Tuple [a,b] k2 JB) pos) (tPar i j ta):=by
 intro pins s σ H D I h;rw[exec_Assign_arm];refine Os (Si ?_);rw[hs];refine Os (RQ ?_);rw[if_neg (by decide)];refine Os (Tuple_ (thn (ha _ pins s σ H _ I h) λus s1 b8=>?_));obtain⟨vs,H1,I1,r1,q1⟩:=b8;obtain⟨v,w,e1,q1⟩:=q1;subst e1;obtain⟨u1,u2,rfl,rv,i9⟩:∃ u1 u2,us=[u1,u2]/\RelV v u1/\RelV w u2:=by
  cases r1 with
  |cons p q=>
   cases q with
   |cons p' q'=>
    cases q';exact⟨_,_,rfl,p,p'⟩
 refine R6 ?_ (by show 2<=sizeLine;decide);have I2:Inv X pins σ H1 {s1 with heap:=s1.heap.push {cls:= .type "tuple",data:= .seq [u1,u2].toArray} }:=I1.kept (t':=s1.toks) λb o e=>Heap.get?_push_of_some _ e;rw[hw];refine Os (RQ ?_);show RS (RR X.prog X.w) X.A (do rule "assign.swapped-stores";let items <- unpackItems (.ref s1.heap.objs.size) 2 m9;Ta [λv=>Tv X.env y v,λv=>Tv X.env x v] items.reverse;pure Flow.next) _ _ _;refine Os (TB (Os (unpackItems_tuple (items:=#[u1,u2]) (I.ok.hd hc) (IsTup.new s1.heap _) λh' gV=>?_)));have I3:=I2.kept (h':=h') (t':=s1.toks) λb o e=>gV b o (Fy (Heap.lt_size e)) e;show RS _ _ (Ta [λv=>Tv X.env y v,λv=>Tv X.env x v] [u2,u1]>>=λ_=>pure Flow.next) _ _ _;refine Os (SY (wpAny_bindName (dX I3 hN hj (.inl hy) i9 (λs2 I4=>?_) (.inr hy))));refine SY (wpAny_bindName (dX I4 hN hi (.inl hx) rv (λs3 I5=>TU (RQ ?_)) (.inr hx)));rw[List.set_comm _ _ (Ne.symm Mc)] at I5;exact⟨_,H1,I5,q1⟩
def vW(c:TT)(tb:TS):TS:=λD σ H=>∃ W:Nat->St->Hp->Prop,(∃ m,W m σ H)/\∀ m σ H,W m σ H->
 c σ H λb H1=>if b=true then ∃ N:St->Hp->Prop,(∀ σ' H',N σ' H'->∃ m',m'<m/\W m' σ' H')/\tb {D with nx:=N,ct:=N,bk:=D.nx} σ H1 else D.nx σ H1
def pY{c:RP}{body:List RO}{tc:TT}{tb:TS}(hp:Se (RR X.prog X.w) X.A X.env X.xe)(hc:PT X c tc)(hb:PSs X body tb):PS X (.While c body [] pos) (vW tc tb):=by
 intro pins s σ H D I h;obtain⟨W,⟨m0,w0⟩,c5⟩:=h;refine wpAny_While (codeAny_whileLoop (λn s'=>∃ σ' H',Inv X pins σ' H' s'/\W n σ' H') ?_ m0 ⟨σ,H,I,w0⟩);rintro n s1 ⟨σ1,H1,I1,w1⟩;refine Sf hp (thn (hc pins s1 σ1 H1 _ I1 (c5 n σ1 H1 w1)) λb s2 b8=>?_);obtain⟨H2,I2,q2⟩:=b8;cases b with
 |true=>
  obtain⟨N,hN,q2⟩:=q2;rw[if_pos rfl];refine Sf hp (thn (hb pins s2 σ1 H2 _ I2 q2) λf s3 q3=>?_);cases f with
  |next=>
   obtain⟨σ3,H3,I3,n3⟩:=q3;obtain⟨m',hm,w3⟩:=hN σ3 H3 n3;exact⟨m',hm,σ3,H3,I3,w3⟩
  |cont=>
   obtain⟨σ3,H3,I3,n3⟩:=q3;obtain⟨m',hm,w3⟩:=hN σ3 H3 n3;exact⟨m',hm,σ3,H3,I3,w3⟩
  |brk=>exact q3
  |ret v=>exact q3
 |false=>
  rw[if_neg Fz];exact Sv ⟨σ1,H2,I2,q2⟩
end
structure It where
 go:Nat->Hp->Prop
 yld:Nat->Hp->V->Hp->Prop
 stop:Nat->Hp->Prop
def FpOk(X:Cx)(pins:List (KF × R'))(H:Hp)(b:KF):Prop:=
 H b=m9/\b≠X.env.locals/\b ∉ X.fs/\(b∈X.ex\/X.s₀.heap.objs.size<=b)/\(∀ x c,X.env.cells.lookup x=be c->c≠b)/\∀ p∈X.pn++pins,p.1≠b
variable{σ:St}
def Inv.fpOk{pins:List (KF × R')}{H':Hp}(I:Inv X pins σ H s)(hb:s.heap.objs.size<=b)(hn:H' b=m9):FpOk X pins H' b:=by
 refine⟨hn,Gq (FQ I.lt hb),I.nofs hb,.inr (FA I.sz hb),λx c e z=>?_,λp hp z=>?_⟩
 .obtain⟨v,q⟩:=I.cell x c e;exact absurd (FQ q.lt (by rw[z];exact hb)) (Gz _)
 .exact absurd (FQ (Heap.lt_size (I.pin p hp).1) (by rw[z];exact hb)) (Gz _)
structure Turn(P:P3)(w:RT)(K:Ex)(tg:RP)(J:It)(fp:List KF)(it:KF)(tn:Nat->Heap->Prop):Prop where
 mem:it∈fp
 obj:∀ i h,tn i h->∀ b∈fp,∃ o,h.get? b=be o/\∀ v,o.data≠.cell v
 keep:∀ i h h',tn i h->(∀ b∈fp,∀ o,h.get? b=be o->h'.get? b=be o)->tn i h'
 item:∀ (X:Cx),X.prog=P->X.w=w->X.K=K->X.calm=true->∀ (i:Nat) (pins:List (KF × R')) (s:KM) (σ:St) (H:Hp) (E:KB->KM->Prop),Inv X pins σ H s->(∀ b∈fp,FpOk X pins H b)->tn i s.heap->J.go i H->
  RS (RR P w) X.A (pyNext (.ref it)) (λr s1=>∃ u,r=be u/\
   RS (RR P w) X.A (SR tg (.ref it) u) (λ_ s2=>∃ x H',Inv X pins σ H' s2/\RelV x u/\J.yld i H x H'/\tn (i+1) s2.heap/\∀ b∈fp,H' b=m9) E s1) E s
 done:∀ (X:Cx),X.prog=P->X.w=w->X.K=K->X.calm=true->∀ (i:Nat) (pins:List (KF × R')) (s:KM) (σ:St) (H:Hp) (E:KB->KM->Prop),Inv X pins σ H s->(∀ b∈fp,FpOk X pins H b)->tn i s.heap->J.stop i H->
  RS (RR P w) X.A (pyNext (.ref it)) (λr s1=>r=m9/\Inv X pins σ H s1) E s
 self:∀ (A:RU) (i:Nat) (s:KM) (Q:KB->KM->Prop) (E:KB->KM->Prop),tn i s.heap->Q (.ref it) s->RS (RR P w) A (pyIter (.ref it)) Q E s
abbrev TI:=St->Hp->(It->Hp->Prop)->Prop
def PIE(X:Cx)(pins:List (KF × R'))(σ:St)(tg:RP)(R:It->Hp->Prop)(Lz:KB)(s2:KM):Prop:=
 ∃ (it:KF) (fp:List KF) (tn:Nat->Heap->Prop) (J:It) (H':Hp),Lz= .ref it/\Inv X pins σ H' s2/\Turn X.prog X.w X.K tg J fp it tn/\tn 0 s2.heap/\(∀ b∈fp,FpOk X pins H' b)/\R J H'
def PI(X:Cx)(tg iter:RP)(wi:TI):Prop:=
 ∀ (pins:List (KF × R')) (s:KM) (σ:St) (H:Hp) (R:It->Hp->Prop),Inv X pins σ H s->wi σ H R->
  RS (RR X.prog X.w) X.A (R1 iter X.env) (λv s1=>RS (RR X.prog X.w) X.A (pyIter v) (PIE X pins σ tg R) X.xe s1) X.xe s
variable{tg:RP}
def pZ{M:TV}{it:KF}{o:R'}{n:String}{vs:Array KB}{Q:Unit->KM->Prop}(ho:s.heap.get? it=be o)(hc:o.cls= .type n)(hd:o.data= .fields vs)
    (hn:["enumerate","zip","dict_itemiterator","dict_reverseitemiterator","odict_iterator","itertools.zip_longest","itertools.pairwise"].contains n=false) (hQ:Q () s):RS M A (SR tg (.ref it) u) Q E s:=by
  unfold SR;cases tg<;>first
    |exact RQ hQ
    |(cases u<;>first
        |exact RQ hQ
        | (refine Os (wpAny_load ho ?_)
           rw[hc,hd];show RS M A (if(["enumerate","zip","dict_itemiterator","dict_reverseitemiterator","odict_iterator","itertools.zip_longest","itertools.pairwise"].contains n && vs[0]?==be (SN _))=true then _ else _) Q E s;rw[if_neg (by intro h;rw[hn,Bool.false_and] at h;cases h)];exact RQ hQ))
def Itl(K:Ex)(a:KF):It:=
 ⟨λi H=>∃ xs x,SqL K H a xs/\xs[i]?=be x,λi H x H'=>H'=H/\∀ xs,SqL K H a xs->xs[i]?=be x,λi H=>∃ xs,SqL K H a xs/\xs.length<=i⟩
def Itr(lo:Int)(n:Nat):It:=⟨λi _=>i<n,λi H x H'=>H'=H/\x= .int (lo+i),λi _=>n<=i⟩
variable{K:Ex}
def vX(a it:KF):Turn P w K tg (Itl K a) [it] it (λi h=>h.IsListIter it a i) where
 mem:=by simp
 obj:=λi h st b hb=>by
  have e:b=it:=by simpa using hb
  subst e;obtain⟨o,e,c,d⟩:=st;exact⟨o,e,λv z=>by rw[d] at z;cases z⟩
 keep:=λi h h' st k=>st.at λo e=>k it (by simp) o e
 item:=by
  intro X hP hw hK hc i pins s σ H E I hf st hg;subst hP hw hK;obtain⟨xs,x,hq,hx⟩:=hg;obtain⟨its,rv,p,hz⟩:=I.list hq;obtain⟨u,hu,ru⟩:=rv.get hx;obtain⟨f0,f1,f2,f3,f4,f5⟩:=hf it (by simp);refine wpAny_pyNext_list_item st p.isList (x:=u) (by simpa using hu) λh' st' sb=>?_;have I1:Inv X pins σ H {s with heap:=h'}:=I.turned (t':=s.toks) (λb o hb e=>(sb.2 b hb).trans e) f0 f1 f3 f4 f5;obtain⟨o,e,c,d⟩:=id st';exact⟨u,rfl,pZ (s:={s with heap:=h'}) e c d (by decide) ⟨x,H,I1,ru,⟨rfl,λys hy=>by rw[I.list_inj hy hq];exact hx⟩,st',λb hb=>(hf b hb).1⟩⟩
 done:=by
  intro X hP hw hK hc i pins s σ H E I hf st hg;subst hP hw hK;obtain⟨xs,hq,hx⟩:=hg;obtain⟨its,rv,p,hz⟩:=I.list hq;obtain⟨f0,f1,f2,f3,f4,f5⟩:=hf it (by simp);have hl:=rv.length;exact wpAny_pyNext_list_end (I.ok.hd hc) st p.isList (by simp;lia) λh' eb=>⟨rfl,I.turned (t':=s.toks) (λb o hb e=>eb b o hb e) f0 f1 f3 f4 f5⟩
 self:=λ_ _ _ _ _ st h=>wpAny_pyIter_listiter st h
def vY(it:KF)(lo:Int)(n:Nat):Turn P w K tg (Itr lo n) [it] it (λi h=>IsRangeIter h it (lo+(i:Nat)*1) ((n:Int) - (i:Nat)) 1) where
 mem:=by simp
 obj:=λi h st b hb=>by
  have e:b=it:=by simpa using hb
  subst e;exact⟨_,st,λv z=>by
   have z':Data.fields _=Data.cell v:=z;cases z'⟩
 keep:=λi h h' st k=>k it (by simp) _ st
 item:=by
  intro X hP hw hK hc i pins s σ H E I hf st hg;subst hP hw hK;obtain⟨f0,f1,f2,f3,f4,f5⟩:=hf it (by simp);have W:=Walks.range (prog:=X.prog) (w:=X.w) (I.ok.hd hc) it lo 1 n;refine W.item i s _ _ hg st λv h' tk hv st' kk=>?_;obtain⟨t,rfl⟩:=hv;have I1:Inv X pins σ H {s with heap:=h',toks:=tk}:=I.turned (λb o hb e=>kk b o (by simpa using hb) e) f0 f1 f3 f4 f5;refine⟨_,rfl,pZ (s:={s with heap:=h',toks:=tk}) (n:="range_iterator") st' rfl rfl (by decide) ⟨.int (lo+i),H,I1,⟨t,?_⟩,⟨rfl,rfl⟩,st',λb hb=>(hf b hb).1⟩⟩;rw[Int.mul_one]
 done:=by
  intro X hP hw hK hc i pins s σ H E I hf st hg;subst hP hw hK;obtain⟨f0,f1,f2,f3,f4,f5⟩:=hf it (by simp);exact wpAny_pyNext_range_end (I.ok.hd hc) st (by have:n<=i:=hg;lia) λh' eb=>⟨rfl,I.turned (t':=s.toks) (λb o hb e=>eb b o hb e) f0 f1 f3 f4 f5⟩
 self:=λ_ _ _ _ _ st h=>wpAny_pyIter_rangeiter st h
section
variable {X:Cx}{tg:RP}
def qa(K:Ex)(tl:TE):TI:=λσ H R=>tl σ H λx H1=>∃ a,x= .ref a/\(∃ xs,SqL K H1 a xs)/\R (Itl K a) H1
def gq{l:RP}{tl:TE}(hl:PE X l tl):PI X tg l (qa X.K tl):=by
 intro pins s σ H R I h;refine thn (hl pins s σ H _ I h) λv s1 b8=>?_;obtain⟨x,H1,I1,r1,q1⟩:=b8;obtain⟨a,e,⟨xs,hq⟩,q⟩:=q1;subst e;cases r1;obtain⟨its,rv,p,hz⟩:=I1.list hq;refine wpAny_pyIter_list p.isList ?_;refine⟨s1.heap.objs.size,[s1.heap.objs.size],_,_,H1,rfl,I1.kept (t':=s1.toks) λb o e=>Heap.get?_push_of_some _ e,vX a _,⟨_,Heap.get?_push_size _ rfl,rfl,rfl⟩,λb hb=>?_,q⟩;have e:b=s1.heap.objs.size:=by simpa using hb
 subst e;exact I1.fpOk (Fo _) (I1.hok.fresh (Fo _))
variable{pins:List (KF × R')}{σ:St}{H:Hp}{s:KM}
def qc{R:It->Hp->Prop}{E:KB->KM->Prop}{lo hi:Int}{t u v:Tok}{tk:Nat}(I:Inv X pins σ H s)(h1: -(2 ^ 62)<=lo)(h2:lo<2 ^ 62)(h3: -(2 ^ 62)<=hi)(h4:hi<2 ^ 62)
  (q:R (Itr lo (hi - lo).toNat) H):RS (RR X.prog X.w) X.A (pyIter (.ref s.heap.objs.size)) (PIE X pins σ tg R) E {s with heap:=s.heap.push {cls:= .type "range",data:= .fields #[.int lo t,.int hi u,.int 1 v]},toks:=tk}:=by
 refine wpAny_pyIter_range (IsRange.new ..) (small_one h1 h2 h3 h4) ?_;have I1:Inv X pins σ H {s with heap:=s.heap.push {cls:= .type "range",data:= .fields #[.int lo t,.int hi u,.int 1 v]},toks:=tk}:=I.kept λb o e=>Heap.get?_push_of_some _ e;refine⟨(s.heap.push {cls:= .type "range",data:= .fields #[.int lo t,.int hi u,.int 1 v]}).objs.size,[(s.heap.push {cls:= .type "range",data:= .fields #[.int lo t,.int hi u,.int 1 v]}).objs.size],_,_,H,rfl,
  I1.kept (t':=tk) λb o e=>Heap.get?_push_of_some _ e,vY _ lo (hi - lo).toNat,?_,λb hb=>?_,q⟩
 .have e1:lo+((0:Nat):Int)*1=lo:=by simp
  have e2:(((hi - lo).toNat:Nat):Int) - ((0:Nat):Int)=Builtin.Range.rangeSize lo hi 1:=by rw[rangeSize_one];split<;>lia
  show IsRangeIter _ _ (lo+((0:Nat):Int)*1) ((((hi - lo).toNat:Nat):Int) - ((0:Nat):Int)) 1;rw[e1,e2];exact Heap.get?_push_size _ rfl
 .have e:b=(s.heap.push {cls:= .type "range",data:= .fields #[.int lo t,.int hi u,.int 1 v]}).objs.size:=by simpa using hb
  subst e;exact I1.fpOk (Fo _) (I1.hok.fresh (Fo _))
def qd(ta:TA):TI:=λσ H R=>ta σ H λvs H1=>∃ j:Int,vs=[.int j]/\-(2 ^ 62)<=j/\j<2 ^ 62/\R (Itr 0 j.toNat) H1
def qe(ta:TA):TI:=λσ H R=>ta σ H λvs H1=>∃ i j:Int,vs=[.int i,.int j]/\(-(2 ^ 62)<=i/\i<2 ^ 62/\-(2 ^ 62)<=j/\j<2 ^ 62)/\R (Itr i (j - i).toNat) H1
variable{pos:R5}
def jv{a:RP}{ta:TA}{p:R5}(hg:Gl X "range")(hm:X.mg "range"=m9)(ha:PA X [a] ta)(hs:autoParam (RV [a] X.env=[(false,R1 a X.env)]) zA0):PI X tg (.Call (.Name "range" p) [a] [] pos) (qd ta):=by
 intro pins s σ H R I h;refine Call_ (dA I hg hm boot_range (PyProof.Rows.callWith_type1 (thn (ha pos pins s σ H _ I h) λus s1 hh=>?_) hs rfl));obtain⟨vs,H1,I1,r1,q1⟩:=hh;obtain⟨j,e,q1,q2,q⟩:=q1;subst e;cases r1 with
 |cons r rr=>
  cases rr;obtain⟨t,rfl⟩:=r;exact call_range_1 (qc I1 (by lia) (by lia) q1 q2 (by simpa using q))
def vZ{a b:RP}{ta:TA}{p:R5}(hg:Gl X "range")(hm:X.mg "range"=m9)(ha:PA X [a,b] ta)(hs:autoParam (RV [a,b] X.env=[(false,R1 a X.env),(false,R1 b X.env)]) zA0)(k9:autoParam (RV [b] X.env=[(false,R1 b X.env)]) zA0):
  PI X tg (.Call (.Name "range" p) [a,b] [] pos) (qe ta):=by
 intro pins s σ H R I h;refine Call_ (dA I hg hm boot_range (PyProof.Rows.callWith_type1 (thn (ha pos pins s σ H _ I h) λus s1 hh=>?_) (by rw[hs,k9]) (by rw[k9];rfl)));obtain⟨vs,H1,I1,r1,q1⟩:=hh;obtain⟨i,j,e,⟨q1,q2,q3,q4⟩,q⟩:=q1;subst e;cases r1 with
 |cons r rr=>
  cases rr with
  |cons r' rr=>
   cases rr;obtain⟨t,rfl⟩:=r;obtain⟨t',rfl⟩:=r';exact call_range_2 (qc I1 q1 q2 q3 q4 q)
def tFor(wi:TI)(g:TG)(tb:TS):TS:=λD σ H=>wi σ H λJ H1=>∃ W:Nat->Nat->St->Hp->Prop,(∃ m,W 0 m σ H1)/\∀ i m σ H,W i m σ H->
 (J.stop i H/\D.nx σ H)\/(J.go i H/\∃ N:St->Hp->Prop,(∀ σ' H',N σ' H'->∃ m',m'<m/\W (i+1) m' σ' H')/\∀ x H',J.yld i H x H'->g x σ H' λσ2 H2=>tb {D with nx:=N,ct:=N,bk:=D.nx} σ2 H2)
def gu(fp:List KF)(h:Heap):List (KF × R'):=fp.filterMap λb=>(h.get? b).map λo=>(b,o)
variable{fp:List KF}
def cB{h:Heap}{b:KF}{o:R'}(hb:b∈fp)(e:h.get? b=be o):(b,o)∈gu fp h:=HL.mpr ⟨b,hb,by rw[e];rfl⟩
def wa{h:Heap}{p:KF × R'}(hp:p∈gu fp h):p.1∈fp/\h.get? p.1=be p.2:=by
 obtain⟨b,hb,e⟩:=HL.mp hp;cases q:h.get? b with
 |none=>rw[q] at e;cases e
 |some o=>
  rw[q] at e;have e':(b,o)=p:=Option.some.inj e;subst e';exact⟨hb,q⟩
def Inv.pinned(I:Inv X pins σ H s)(hf:∀ b∈fp,FpOk X pins H b)(ho:∀ b∈fp,∃ o,s.heap.get? b=be o/\∀ v,o.data≠.cell v):Inv X (pins++gu fp s.heap) σ H s:=
 I.pins_of λp hp=>(FO.mp hp).elim (λz=>I.pin p (FC _ z)) λz=>by
  obtain⟨hb,e⟩:=wa z;obtain⟨f0,f1,f2,_⟩:=hf p.1 hb;obtain⟨o,e',d⟩:=ho p.1 hb;rw[e] at e';cases e';exact⟨e,f0,f1,f2,d⟩
def Inv.unpinned{pl:List (KF × R')}(I:Inv X (pins++pl) σ H s):Inv X pins σ H s:=I.pins_of λp hp=>I.pin p (FC _ (Ge _ hp))
def dB{iter:RP}{body:List RO}{wi:TI}{g:TG}{tb:TS}(hp:Se (RR X.prog X.w) X.A X.env X.xe)(hc:X.calm=true)(hi:PI X tg iter wi)(hg:PG X tg g)(hb:PSs X body tb)
  (hs:∀ x,TR iter X.env x=pure x:=by intro _;rfl):PS X (.For tg iter body [] pos) (tFor wi g tb):=by
 intro pins s σ H D I h;refine wpAny_For (thn (hi pins s σ H _ I h) λv s1 h1=>thn h1 λLz s2 h2=>?_) hs;obtain⟨it,fp,tn,J,H2,e,I2,T,s9,f2,W,⟨m0,w0⟩,c5⟩:=h2;subst e;have g8:∀ {H':Hp},(∀ b∈fp,H' b=m9)->∀ b∈fp,FpOk X pins H' b:=λhn b hb=>⟨hn b hb,(f2 b hb).2⟩;refine codeAny_forLoop_any (λn s'=>∃ i σ' H',Inv X pins σ' H' s'/\tn i s'.heap/\(∀ b∈fp,H' b=m9)/\W i n σ' H') ?_ m0 ⟨0,σ,H2,I2,s9,λb hb=>(f2 b hb).1,w0⟩;rintro n s3 ⟨i,σ3,H3,I3,z_,Oz,w3⟩;rcases c5 i n σ3 H3 w3 with⟨stop,qn⟩|⟨go,N,hN,step⟩
 .refine Sf hp (thn (T.done X rfl rfl rfl hc i pins s3 σ3 H3 X.xe I3 (g8 Oz) z_ stop) λr s4 b8=>?_);obtain⟨hr,I4⟩:=b8;subst hr;exact Sv ⟨σ3,H3,I4,qn⟩
 .refine Sf hp (thn (T.item X rfl rfl rfl hc i pins s3 σ3 H3 X.xe I3 (g8 Oz) z_ go) λr s4 b8=>?_);obtain⟨u,hr,h4⟩:=b8;subst hr;refine Sf hp (thn h4 λ_ s5 b8=>?_);obtain⟨x,H5,I5,r5,y5,m_,Ku⟩:=b8;have PM:=I5.pinned (g8 Ku) (T.obj _ _ m_);refine Sf hp (thn (hg _ s5 σ3 H5 x u _ PM r5 (step x H5 y5)) λ_ s6 b8=>?_);obtain⟨σ6,H6,I6,q6⟩:=b8;refine Sf hp (thn (hb _ s6 σ6 H6 _ I6 q6) λf s7 q7=>?_);have again:∀ {σ7:St} {H7:Hp},Inv X (pins++gu fp s5.heap) σ7 H7 s7->N σ7 H7->∃ m,m<n/\∃ i σ' H',Inv X pins σ' H' s7/\tn i s7.heap/\(∀ b∈fp,H' b=m9)/\W i m σ' H':=λ{σ7 H7} I7 n7=>by
   obtain⟨m',hm,w7⟩:=hN σ7 H7 n7;refine⟨m',hm,i+1,σ7,H7,I7.unpinned,T.keep _ _ _ m_ λb hb o e=>(I7.pin (b,o) (FC _ (FC _ (cB hb e)))).1,λb hb=>?_,w7⟩;obtain⟨o,e,d⟩:=T.obj _ _ m_ b hb;exact(I7.pin (b,o) (FC _ (FC _ (cB hb e)))).2.1
  cases f with
  |next=>obtain⟨σ7,H7,I7,n7⟩:=q7;exact again I7 n7
  |cont=>obtain⟨σ7,H7,I7,n7⟩:=q7;exact again I7 n7
  |brk=>obtain⟨σ7,H7,I7,q7⟩:=q7;exact⟨σ7,H7,I7.unpinned,q7⟩
  |ret v=>obtain⟨x7,σ7,H7,I7,r7,q7⟩:=q7;exact⟨x7,σ7,H7,I7.unpinned,r7,q7⟩
end
def jw{g:TG}{tb:TS}{D:Ends}(Pv:Nat->St->Hp->Prop)(h0:Pv 0 σ H)(hl:∀ i σ H,i<=xs.length->Pv i σ H->SqL K H a xs)
  (hs:∀ i x σ H,xs[i]?=be x->Pv i σ H->g x σ H λσ2 H2=>tb {D with nx:=Pv (i+1),ct:=Pv (i+1),bk:=D.nx} σ2 H2) (hd:∀ σ H,Pv xs.length σ H->D.nx σ H):
  ∃ W:Nat->Nat->St->Hp->Prop,(∃ m,W 0 m σ H)/\∀ i m σ H,W i m σ H->
   ((Itl K a).stop i H/\D.nx σ H)\/((Itl K a).go i H/\∃ N:St->Hp->Prop,(∀ σ' H',N σ' H'->∃ m',m'<m/\W (i+1) m' σ' H')/\∀ x H',(Itl K a).yld i H x H'->g x σ H' λσ2 H2=>tb {D with nx:=N,ct:=N,bk:=D.nx} σ2 H2):=by
 refine⟨λi m σ H=>m=xs.length - i/\i<=xs.length/\Pv i σ H,⟨xs.length,by simp,FR _,h0⟩,?_⟩;rintro i m σ H ⟨rfl,hi,p⟩;have q:=hl i σ H hi p;by_cases g5:i<xs.length
 .refine .inr ⟨⟨xs,xs[i],q,by simp[g5]⟩,Pv (i+1),λσ' H' p'=>⟨xs.length - (i+1),by lia,rfl,g5,p'⟩,λx H' y=>?_⟩;obtain⟨e,y⟩:=y;subst e;exact hs i x σ _ (y xs q) p
 .have e:i=xs.length:=by lia
  subst e;exact .inl ⟨⟨xs,q,Fo _⟩,hd σ H p⟩
def qf{lo:Int}{n:Nat}{g:TG}{tb:TS}{D:Ends}(Pv:Nat->St->Hp->Prop)(h0:Pv 0 σ H)
  (hs:∀ i σ H,i<n->Pv i σ H->g (.int (lo+i)) σ H λσ2 H2=>tb {D with nx:=Pv (i+1),ct:=Pv (i+1),bk:=D.nx} σ2 H2) (hd:∀ σ H,Pv n σ H->D.nx σ H):
  ∃ W:Nat->Nat->St->Hp->Prop,(∃ m,W 0 m σ H)/\∀ i m σ H,W i m σ H->
   ((Itr lo n).stop i H/\D.nx σ H)\/((Itr lo n).go i H/\∃ N:St->Hp->Prop,(∀ σ' H',N σ' H'->∃ m',m'<m/\W (i+1) m' σ' H')/\∀ x H',(Itr lo n).yld i H x H'->g x σ H' λσ2 H2=>tb {D with nx:=N,ct:=N,bk:=D.nx} σ2 H2):=by
 refine⟨λi m σ H=>m=n - i/\i<=n/\Pv i σ H,⟨n,by simp,FR _,h0⟩,?_⟩;rintro i m σ H ⟨rfl,hi,p⟩;by_cases g5:i<n
 .refine .inr ⟨g5,Pv (i+1),λσ' H' p'=>⟨n - (i+1),by lia,rfl,g5,p'⟩,λx H' y=>?_⟩;obtain⟨e,y⟩:=y;subst e y;exact hs i σ _ g5 p
 .have e:i=n:=by lia
  subst e;exact .inl ⟨Fo _,hd σ H p⟩
abbrev R2:=V->V->Hp->VK->Prop
def OpR(X:Cx)(f:KB->KB->Tq KB)(r:R2):Prop:=
 ∀ (pins:List (KF × R')) (s:KM) (σ:St) (H:Hp) (x y:V) (v u:KB) (Q:VK),Inv X pins σ H s->RelV x v->RelV y u->r x y H Q->
  RS (RR X.prog X.w) X.A (f v u) (EP X pins σ Q) X.xe s
def UnR(X:Cx)(f:KB->Tq KB)(r:V->Hp->VK->Prop):Prop:=
 ∀ (pins:List (KF × R')) (s:KM) (σ:St) (H:Hp) (x:V) (v:KB) (Q:VK),Inv X pins σ H s->RelV x v->r x H Q->
  RS (RR X.prog X.w) X.A (f v) (EP X pins σ Q) X.xe s
def bE(X:Cx)(f:KB)(r:List V->Hp->VK->Prop):Prop:=
 ∀ (pins:List (KF × R')) (s:KM) (σ:St) (H:Hp) (xs:List V) (us:List KB) (Q:VK),Inv X pins σ H s->Vals xs us->r xs H Q->
  RS (RR X.prog X.w) X.A (call f us) (EP X pins σ Q) X.xe s
def TruR(X:Cx)(r:V->Hp->(Bool->Hp->Prop)->Prop):Prop:=
 ∀ (pins:List (KF × R')) (s:KM) (σ:St) (H:Hp) (x:V) (v:KB) (Q:Bool->Hp->Prop),Inv X pins σ H s->RelV x v->r x H Q->
  RS (RR X.prog X.w) X.A (truthy v) (TP X pins σ Q) X.xe s
def tOp(r:R2)(ta tb:TE):TE:=λσ H Q=>ta σ H λx H1=>tb σ H1 λy H2=>r x y H2 Q
def tUn(r:V->Hp->VK->Prop)(ta:TE):TE:=λσ H Q=>ta σ H λx H1=>r x H1 Q
def rI(C:Int->Int->Prop)(g:Int->Int->V):R2:=λx y H Q=>∃ i j,x= .int i/\y= .int j/\C i j/\Q (g i j) H
def rI0(g:Int->Int->V):R2:=λx y H Q=>∃ i j,x= .int i/\y= .int j/\Q (g i j) H
def rU(g:Int->V):V->Hp->VK->Prop:=λx H Q=>∃ i,x= .int i/\Q (g i) H
section
variable {X:Cx}{a b c:RP}{ta tb tc:TE}{pos:R5}
variable{f:KB->KB->Tq KB}
def binT(ha:PE X a ta)(hb:PE X b tb){pins:List (KF × R')}{s:KM}{σ:St}{H:Hp}{R:V->V->Hp->Prop}(I:Inv X pins σ H s)
  (h:ta σ H λx H1=>tb σ H1 λy H2=>R x y H2) {Q:KB->KM->Prop} 
  (hf:∀ v u s2 x y H2,Inv X pins σ H2 s2->RelV x v->RelV y u->R x y H2->RS (RR X.prog X.w) X.A (f v u) Q X.xe s2):
  RS (RR X.prog X.w) X.A (R1 a X.env) (λv s₁=>RS (RR X.prog X.w) X.A (R1 b X.env) (λu s₂=>RS (RR X.prog X.w) X.A (f v u) Q X.xe s₂) X.xe s₁) X.xe s:=by
 refine thn (ha pins s σ H _ I h) λv s1 b8=>?_;obtain⟨x,H1,I1,r1,q1⟩:=b8;refine thn (hb pins s1 σ H1 _ I1 q1) λu s2 b8=>?_;obtain⟨y,H2,I2,r2,q2⟩:=b8;exact hf v u s2 x y H2 I2 r1 r2 q2
def qg{op:Operator}{r:R2}(ho:OpR X (Sd op) r)(ha:PE X a ta)(hb:PE X b tb):PE X (.BinOp a op b pos) (tOp r ta tb):=by
 intro pins s σ H Q I h;exact wpAny_BinOp (binT ha hb I h λv u s2 x y H2 I2 rx ry q=>ho pins s2 σ H2 x y v u Q I2 rx ry q)
def wc{op:UnaryOp}{r:V->Hp->VK->Prop}(ho:UnR X (unaryOp op) r)(ha:PE X a ta):PE X (.UnaryOp op a pos) (tUn r ta):=by
 intro pins s σ H Q I h;exact UnaryOp_ (thn (ha pins s σ H _ I h) λv s1 ⟨x,H1,I1,r1,q1⟩=>ho pins s1 σ H1 x v Q I1 r1 q1)
variable{g:Int->Int->Int}
def opI{C:Int->Int->Prop}
  (rule:∀ (i j:Int) (t u:Tok) (s:KM) (Q:KB->KM->Prop) (E:KB->KM->Prop),C i j->Q (.int (g i j) s.toks) {s with toks:=s.toks+1}->RS (RR X.prog X.w) X.A (f (.int i t) (.int j u)) Q E s):
  OpR X f (rI C λi j=> .int (g i j)):=by
 intro pins s σ H x y v u Q I rx ry h;obtain⟨i,j,rfl,rfl,hc,q⟩:=h;obtain⟨t,rfl⟩:=rx;obtain⟨t',rfl⟩:=ry;exact rule i j t t' s _ _ hc ⟨.int (g i j),H,I.tok _,⟨_,rfl⟩,q⟩
def opI0
  (rule:∀ (i j:Int) (t u:Tok) (s:KM) (Q:KB->KM->Prop) (E:KB->KM->Prop),Q (.int (g i j) s.toks) {s with toks:=s.toks+1}->RS (RR X.prog X.w) X.A (f (.int i t) (.int j u)) Q E s):
  OpR X f (rI0 λi j=> .int (g i j)):=by
 intro pins s σ H x y v u Q I rx ry h;obtain⟨i,j,rfl,rfl,q⟩:=h;obtain⟨t,rfl⟩:=rx;obtain⟨t',rfl⟩:=ry;exact rule i j t t' s _ _ ⟨.int (g i j),H,I.tok _,⟨_,rfl⟩,q⟩
def opB0{g:Int->Int->Bool}
  (rule:∀ (i j:Int) (t u:Tok) (s:KM) (Q:KB->KM->Prop) (E:KB->KM->Prop),Q (.bool (g i j)) s->RS (RR X.prog X.w) X.A (f (.int i t) (.int j u)) Q E s):
  OpR X f (rI0 λi j=> .bl (g i j)):=by
 intro pins s σ H x y v u Q I rx ry h;obtain⟨i,j,rfl,rfl,q⟩:=h;obtain⟨t,rfl⟩:=rx;obtain⟨t',rfl⟩:=ry;exact rule i j t t' s _ _ ⟨.bl (g i j),H,I,rfl,q⟩
def CDiv(i j:Int):Prop:=0<j/\j<1073741824
def CMul(i j:Int):Prop:=(-(2 ^ 64)<i/\i<2 ^ 64)\/(-(2 ^ 64)<j/\j<2 ^ 64)
def CMul.ok{i j:Int}(h:CMul i j):IntMulOk i j:=by
 rcases h with⟨h1,h2⟩|⟨h1,h2⟩
 .exact .of_left (intBits_le_64 h1 h2)
 .exact .of_right (intBits_le_64 h1 h2)
def we:OpR X (Sd .Add) (rI0 λi j=> .int (i+j)):=opI0 λ_ _ _ _ _ _ _ q=>add_int q
def qh:OpR X (Sd .Sub) (rI0 λi j=> .int (i - j)):=opI0 λ_ _ _ _ _ _ _ q=>sub_int q
def wg:OpR X (Sd .Mult) (rI CMul λi j=> .int (i*j)):=opI λ_ _ _ _ _ _ _ hc q=>mul_int q hc.ok
def wj:OpR X (Sd .FloorDiv) (rI CDiv λi j=> .int (i / j)):=opI λi j _ _ _ _ _ hc q=>by
 have h1:(0:Int)<j:=hc.1;have h2:j<1073741824:=hc.2;exact floordiv_int (by lia) (by rw[Int.fdiv_eq_ediv_of_nonneg i (by lia)];exact q) (.inl (PyProof.noPylong_small (by lia)))
def wk:OpR X (Sd .Mod) (rI (λ_ j=>0<j) λi j=> .int (i % j)):=opI λi j _ _ _ _ _ hc q=>by
 have h1:(0:Int)<j:=hc;exact mod_int' (by lia) (by rw[Int.fmod_eq_emod_of_nonneg i (by lia)];exact q)
def wl:OpR X (Sd .Mod) (rI (λ_ j=>j≠0) λi j=> .int (i.fmod j)):=opI λ_ _ _ _ _ _ _ hc q=>mod_int' hc q
def unI{f:KB->Tq KB}{g:Int->Int}
  (rule:∀ (i:Int) (t:Tok) (s:KM) (Q:KB->KM->Prop) (E:KB->KM->Prop),Q (.int (g i) s.toks) {s with toks:=s.toks+1}->RS (RR X.prog X.w) X.A (f (.int i t)) Q E s):
  UnR X f (rU λi=> .int (g i)):=by
 intro pins s σ H x v Q I rx h;obtain⟨i,rfl,q⟩:=h;obtain⟨t,rfl⟩:=rx;exact rule i t s _ _ ⟨.int (g i),H,I.tok _,⟨_,rfl⟩,q⟩
def wn:UnR X (unaryOp .USub) (rU λi=> .int (-i)):=unI λ_ _ _ _ _ q=>neg_int q
end
def scal:V->V->Bool
 | .non,.non=>true| .non,.int _=>true| .int _,.non=>true| .non,.bl _=>true| .bl _,.non=>true| .non,.str _=>true| .str _,.non=>true
 | .int _,.int _=>true| .bl _,.bl _=>true| .str _,.str _=>true| .byt _,.byt _=>true
 | .int _,.str _=>true| .str _,.int _=>true| .bl _,.str _=>true| .str _,.bl _=>true
 |_,_=>false
def rEq:R2:=λx y H Q=>scal x y=true/\Q (.bl (decide (x=y))) H
def rNe:R2:=λx y H Q=>scal x y=true/\Q (.bl (!decide (x=y))) H
def qi{i j:Int}:decide (V.int i=V.int j)=(i==j):=by
 rw[GY];simp
def qj{i j:Bool}:decide (V.bl i=V.bl j)=(i==j):=by
 rw[GY];simp
def qk{i j:D'}:decide (V.str i=V.str j)=(i==j):=by
 rw[GY];simp
def ql{i j:Array UInt8}:decide (V.byt i=V.byt j)=(i.toList==j.toList):=by
 rw[GY];cases i;cases j;simp
section
variable {X:Cx}{a b c:RP}{ta tb tc:TE}{pos:R5}
def aS{pins:List (KF × R')}{σ:St}{H:Hp}{s:KM}{Q:VK}{k k':Bool}(I:Inv X pins σ H s)(q:Q (.bl k) H)(e:k=k'):EP X pins σ Q (.bool k') s:=by
 subst e;exact⟨.bl k,H,I,rfl,q⟩
def jx:OpR X (R9 .Eq) rEq:=by
 intro pins s σ H x y v u Q I rx ry h;obtain⟨hs,q⟩:=h;cases x with
 |non=>
  cases rx;cases y with
  |non=>cases ry;exact PySem.EqNone.eq_none_none (aS I q (by simp))
  |bl j=>cases ry;exact PySem.EqNone.eq_none_bool (aS I q (by simp))
  |int j=>obtain⟨t',rfl⟩:=ry;exact PySem.EqNone.eq_none_int (aS I q (by simp))
  |str j=>obtain⟨t',rfl⟩:=ry;exact PySem.EqNone.eq_none_str (aS I q (by simp))
  |_=>exact absurd (show false=true from hs) Fz
 |bl i=>
  cases rx;cases y with
  |non=>cases ry;exact PySem.EqNone.eq_bool_none (aS I q (by simp))
  |bl j=>cases ry;exact eq_bool (aS I q qj)
  |str j=>obtain⟨t',rfl⟩:=ry;exact PySem.EqMixed.eq_bool_str (aS I q (by simp))
  |_=>exact absurd (show false=true from hs) Fz
 |int i=>
  obtain⟨t,rfl⟩:=rx;cases y with
  |non=>cases ry;exact PySem.EqNone.eq_int_none (aS I q (by simp))
  |int j=>obtain⟨t',rfl⟩:=ry;exact eq_int (aS I q qi)
  |str j=>obtain⟨t',rfl⟩:=ry;exact PySem.EqMixed.eq_int_str (aS I q (by simp))
  |_=>exact absurd (show false=true from hs) Fz
 |str i=>
  obtain⟨t,rfl⟩:=rx;cases y with
  |non=>cases ry;exact PySem.EqNone.eq_str_none (aS I q (by simp))
  |bl j=>cases ry;exact PySem.EqMixed.eq_str_bool (aS I q (by simp))
  |int j=>obtain⟨t',rfl⟩:=ry;exact PySem.EqMixed.eq_str_int (aS I q (by simp))
  |str j=>obtain⟨t',rfl⟩:=ry;exact eq_str (aS I q qk)
  |_=>exact absurd (show false=true from hs) Fz
 |byt i=>
  obtain⟨t,rfl⟩:=rx;cases y with
  |byt j=>obtain⟨t',rfl⟩:=ry;exact eq_bytes (aS I q ql)
  |_=>exact absurd (show false=true from hs) Fz
 |_=>cases y<;>exact absurd (show false=true from hs) Fz
def wo:OpR X (R9 .NotEq) rNe:=by
 intro pins s σ H x y v u Q I rx ry h;obtain⟨hs,q⟩:=h;cases x with
 |non=>
  cases rx;cases y with
  |non=>cases ry;exact PySem.EqNone.ne_none_none (aS I q (by simp))
  |bl j=>cases ry;exact PySem.EqNone.ne_none_bool (aS I q (by simp))
  |int j=>obtain⟨t',rfl⟩:=ry;exact PySem.EqNone.ne_none_int (aS I q (by simp))
  |str j=>obtain⟨t',rfl⟩:=ry;exact PySem.EqNone.ne_none_str (aS I q (by simp))
  |_=>exact absurd (show false=true from hs) Fz
 |bl i=>
  cases rx;cases y with
  |non=>cases ry;exact PySem.EqNone.ne_bool_none (aS I q (by simp))
  |bl j=>cases ry;exact ne_bool (aS I q (congrArg not qj))
  |str j=>obtain⟨t',rfl⟩:=ry;exact PySem.EqMixed.ne_bool_str (aS I q (by simp))
  |_=>exact absurd (show false=true from hs) Fz
 |int i=>
  obtain⟨t,rfl⟩:=rx;cases y with
  |non=>cases ry;exact PySem.EqNone.ne_int_none (aS I q (by simp))
  |int j=>obtain⟨t',rfl⟩:=ry;exact ne_int (aS I q (congrArg not qi))
  |str j=>obtain⟨t',rfl⟩:=ry;exact PySem.EqMixed.ne_int_str (aS I q (by simp))
  |_=>exact absurd (show false=true from hs) Fz
 |str i=>
  obtain⟨t,rfl⟩:=rx;cases y with
  |non=>cases ry;exact PySem.EqNone.ne_str_none (aS I q (by simp))
  |bl j=>cases ry;exact PySem.EqMixed.ne_str_bool (aS I q (by simp))
  |int j=>obtain⟨t',rfl⟩:=ry;exact PySem.EqMixed.ne_str_int (aS I q (by simp))
  |str j=>obtain⟨t',rfl⟩:=ry;exact ne_str (aS I q (congrArg not qk))
  |_=>exact absurd (show false=true from hs) Fz
 |byt i=>
  obtain⟨t,rfl⟩:=rx;cases y with
  |byt j=>obtain⟨t',rfl⟩:=ry;exact ne_bytes (aS I q (congrArg not ql))
  |_=>exact absurd (show false=true from hs) Fz
 |_=>cases y<;>exact absurd (show false=true from hs) Fz
def qm:OpR X (R9 .Lt) (rI0 λi j=> .bl (decide (i<j))):=opB0 λ_ _ _ _ _ _ _ q=>lt_int q
def wt:OpR X (R9 .LtE) (rI0 λi j=> .bl (decide (i<=j))):=opB0 λ_ _ _ _ _ _ _ q=>le_int q
def wu:OpR X (R9 .Gt) (rI0 λi j=> .bl (decide (j<i))):=opB0 λ_ _ _ _ _ _ _ q=>gt_int q
def wv:OpR X (R9 .GtE) (rI0 λi j=> .bl (decide (j<=i))):=opB0 λ_ _ _ _ _ _ _ q=>ge_int q
def jy:OpR X (R9 .Is) (λx y H Q=>y= .non/\Q (.bl (decide (x= .non))) H):=by
 intro pins s σ H x y v u Q I rx ry h;obtain⟨rfl,q⟩:=h;cases ry;refine is_none_gen (aS I q ?_);cases x<;>first
  |(cases rx;rfl)
  |(obtain⟨t,rfl⟩:=rx;rfl)
def ww:OpR X (R9 .IsNot) (λx y H Q=>y= .non/\Q (.bl (!decide (x= .non))) H):=by
 intro pins s σ H x y v u Q I rx ry h;obtain⟨rfl,q⟩:=h;cases ry;refine isnot_none_gen (aS I q ?_);cases x<;>first
  |(cases rx;rfl)
  |(obtain⟨t,rfl⟩:=rx;rfl)
variable{r:R2}
def OpR.or{f:KB->KB->Tq KB}{r':R2}(h:OpR X f r)(h':OpR X f r'):OpR X f (λx y H Q=>r x y H Q\/r' x y H Q):=by
 intro pins s σ H x y v u Q I rx ry q;rcases q with q|q
 .exact h pins s σ H x y v u Q I rx ry q
 .exact h' pins s σ H x y v u Q I rx ry q
variable{op:TX}
def nomark(b:RP)(h:autoParam (op≠.In) zA1)(h2:autoParam (op≠.NotIn) zA1):Sg op b=false:=by
 have e1:(op==CmpOp.In)=false:=by cases op<;>first|rfl|exact absurd rfl h
 have e2:(op==CmpOp.NotIn)=false:=by cases op<;>first|rfl|exact absurd rfl h2
 cases b<;>simp[Sg,e1,e2]
def wx(ho:OpR X (R9 op) r)(ha:PE X a ta)(hb:PE X b tb)(hm:Sg op b=false):PE X (.Compare a [op] [b] pos) (tOp r ta tb):=by
 intro pins s σ H Q I h;exact wpAny_Compare1 (binT ha hb I h λv u s2 x y H2 I2 rx ry q=>ho pins s2 σ H2 x y v u Q I2 rx ry q) hm
def wy(t:TE):TT:=λσ H Q=>t σ H λx H'=>∃ k,x= .bl k/\Q k H'
def qo(ho:OpR X (R9 op) r)(ha:PE X a ta)(hb:PE X b tb)(hm:Sg op b=false):PT X (.Compare a [op] [b] pos) (wy (tOp r ta tb)):=by
 intro pins s σ H Q I h;refine wpAny_isTrue_Compare1 (thn (ha pins s σ H _ I h) λv s1 ⟨x,H1,I1,r1,q1⟩=>thn (hb pins s1 σ H1 _ I1 q1) λu s2 ⟨y,H2,I2,r2,q2⟩=>
  thn (ho pins s2 σ H2 x y v u _ I2 r1 r2 q2) λc s3 hh=>?_) hm
 obtain⟨z,H3,I3,r3,k,e,q3⟩:=hh;subst e;cases r3;exact SG ⟨H3,I3,q3⟩
def TruV(K:Ex)(x:V)(H:Hp)(k:Bool):Prop:=
 match x with
 | .non=>k=false
 | .bl b=>k=b
 | .int i=>k=(i !=0)
 | .str y=>y.length<=sizeLine/\k=((y.length:Int) !=0)
 | .byt y=>y.size<=sizeLine/\k=((y.size:Int) !=0)
 | .ref p=>(∃ xs,SqL K H p xs/\k=!xs.isEmpty)\/(∃ xs,SqT K H p xs/\k=!xs.isEmpty)\/∃ a8,H p=be (.dK a8)/\k=!a8.isEmpty
 |_=>False
def wz{κ:Type}{a8:List (κ × V)}{vs:List (κ × KB)}(r:KV a8 vs):(!vs.isEmpty)=!a8.isEmpty:=by
 cases r<;>rfl
def isEmpty_of{xs:List V}{its:List KB}(r:Vals xs its):(!its.toArray.isEmpty)=!xs.isEmpty:=by
 cases r<;>simp
def line63:(sizeLine:Nat)<2 ^ 63:=by rw[SU];decide
def wA:TruR X (λx H Q=>∃ k,TruV X.K x H k/\Q k H):=by
 intro pins s σ H x v Q I rx h;obtain⟨k,e,q⟩:=h;have hl:=line63;have hs:sizeLine=16777216:=SU;cases x with
 |non=>
  cases rx;have e':k=false:=e;subst e';exact truthy_none ⟨H,I,q⟩
 |bl b=>
  cases rx;have e':k=b:=e;subst e';exact SG ⟨H,I,q⟩
 |int i=>
  obtain⟨t,rfl⟩:=rx;have e':k=(i !=0):=e;subst e';exact PySem.P.truthy_int ⟨H,I,q⟩
 |str y=>
  obtain⟨t,rfl⟩:=rx;obtain⟨hy,e'⟩:y.length<=sizeLine/\k=((y.length:Int) !=0):=e;subst e';exact PySem.P.truthy_str (by lia) ⟨H,I.tok _,q⟩
 |byt y=>
  obtain⟨t,rfl⟩:=rx;obtain⟨hy,e'⟩:y.size<=sizeLine/\k=((y.size:Int) !=0):=e;subst e';exact truthy_bytes (by lia) ⟨H,I.tok _,q⟩
 |ref p=>
  cases rx;have e':(∃ xs,SqL X.K H p xs/\k=!xs.isEmpty)\/(∃ xs,SqT X.K H p xs/\k=!xs.isEmpty)\/∃ a8,H p=be (.dK a8)/\k=!a8.isEmpty:=e;rcases e' with⟨xs,hx,e'⟩|⟨xs,hx,e'⟩|⟨a8,hx,e'⟩
  .subst e';obtain⟨its,r,pl,hz⟩:=I.list hx;have a_:=r.length;exact wpAny_truthy_list pl.isList (by simp only[FD];lia) ⟨H,I.tok _,by rw[isEmpty_of r];exact q⟩
  .subst e';obtain⟨its,r,pl,hz⟩:=I.tuple hx;have a_:=r.length;exact truthy_tuple pl (by simp only[FD];lia) ⟨H,I.tok _,by rw[isEmpty_of r];exact q⟩
  .subst e';obtain⟨hz,hS,vs,r,m⟩:a8.length<=sizeLine/\(p==Sh)=false/\∃ vs,KV a8 vs/\s.heap.DictOf (bD X.prog X.w) p vs:=I.hok p _ hx;have a_:a8.length=vs.length:=Paired.length r;exact wpAny_truthy_dict hS m (by lia) ⟨H,I.tok _,by rw[wz r];exact q⟩
 |_=>exact(show False from e).elim
def wB(ha:PE X a ta)(he:∀ g7,isTrue a X.env g7=(do let v <- g7;SM a.pos;Sz [v] (truthy v))):
  PT X a (λσ H Q=>ta σ H λx H'=>∃ k,TruV X.K x H' k/\Q k H'):=by
 intro pins s σ H Q I h;exact isTrue_plain (thn (ha pins s σ H _ I h) λv s1 ⟨x,H1,I1,r1,q1⟩=>wA pins s1 σ H1 x v Q I1 r1 q1) (he _)
def wC:OpR X (Sd .Add) (λx y H Q=>∃ i j,x= .str i/\y= .str j/\i.length+j.length<=sizeLine/\Q (.str (i++j)) H):=by
 intro pins s σ H x y v u Q I rx ry h;obtain⟨i,j,rfl,rfl,hz,q⟩:=h;obtain⟨t,rfl⟩:=rx;obtain⟨t',rfl⟩:=ry;exact add_str (λt' tk=>⟨.str (i++j),H,I.tok _,⟨_,rfl⟩,q⟩) hz
variable{us:List KB}
def bY{x:V}(r:Vals [x] us):∃ u,us=[u]/\RelV x u:=by
 cases r with
 |cons r1 r2=>cases r2;exact⟨_,rfl,r1⟩
def gv{x y:V}(r:Vals [x,y] us):∃ u w',us=[u,w']/\RelV x u/\RelV y w':=by
 cases r with
 |cons r1 r2=>
  cases r2 with
  |cons r3 r4=>cases r4;exact⟨_,_,rfl,r1,r3⟩
def wE:bE X (.builtin "abs") (λxs H Q=>∃ i,xs=[.int i]/\Q (.int (if i<0 then -i else i)) H):=by
 intro pins s σ H xs us Q I r h;obtain⟨i,rfl,q⟩:=h;obtain⟨u,rfl,t,rfl⟩:=bY r;exact call_abs_int λu tk=>⟨.int (if i<0 then -i else i),H,I.tok _,⟨_,rfl⟩,q⟩
def wF(hc:X.calm=true):bE X (.builtin "max") (λxs H Q=>∃ i j,xs=[.int i,.int j]/\Q (.int (if j>i then j else i)) H):=by
 intro pins s σ H xs us Q I r h;obtain⟨i,j,rfl,q⟩:=h;obtain⟨u,w',rfl,⟨t,rfl⟩,⟨t',rfl⟩⟩:=gv r;refine max_two_ints (I.ok.hd hc) λh' tk k=>⟨_,H,I.kept k,?_,q⟩;by_cases hj:j>i
 .rw[if_pos hj,if_pos hj];exact⟨_,rfl⟩
 .rw[if_neg hj,if_neg hj];exact⟨_,rfl⟩
def wG:bE X (.type "int") (λxs H Q=>(∃ i,xs=[.int i]/\Q (.int i) H)\/∃ k,xs=[.bl k]/\Q (.int (if k then 1 else 0)) H):=by
 intro pins s σ H xs us Q I r h;rcases h with⟨i,rfl,q⟩|⟨k,rfl,q⟩
 .obtain⟨u,rfl,t,rfl⟩:=bY r;exact call_int_int ⟨.int i,H,I,⟨_,rfl⟩,q⟩
 .obtain⟨u,rfl,r1⟩:=bY r;cases r1;exact call_int_bool ⟨.int (if k then 1 else 0),H,I.tok _,⟨_,rfl⟩,q⟩
def wH:bE X (.type "str") (λxs H Q=>∃ i,xs=[.int i]/\i.natAbs.log2<1920/\Q (.str (toString i)) H):=by
 intro pins s σ H xs us Q I r h;obtain⟨i,rfl,hz,q⟩:=h;obtain⟨u,rfl,t,rfl⟩:=bY r;exact PySem.P.str_of_int hz ⟨.str _,H,I.tok _,⟨_,rfl⟩,q⟩
def LenV(K:Ex)(x:V)(H:Hp)(n:Nat):Prop:=
 match x with
 | .str y=>y.length<=sizeLine/\n=y.length
 | .byt y=>y.size<=sizeLine/\n=y.size
 | .ref p=>(∃ xs,SqL K H p xs/\n=xs.length)\/∃ xs,SqT K H p xs/\n=xs.length
 |_=>False
def jz:bE X (.builtin "len") (λxs H Q=>∃ x n,xs=[x]/\LenV X.K x H n/\Q (.int n) H):=by
 intro pins s σ H xs us Q I r h;obtain⟨x,n,rfl,e,q⟩:=h;obtain⟨u,rfl,rx⟩:=bY r;have hl:=line63;have hs:sizeLine=16777216:=SU;cases x with
 |str y=>
  obtain⟨t,rfl⟩:=rx;obtain⟨hy,e'⟩:y.length<=sizeLine/\n=y.length:=e;subst e';exact len_str (by lia) ⟨.int _,H,I.tok _,⟨_,rfl⟩,q⟩
 |byt y=>
  obtain⟨t,rfl⟩:=rx;obtain⟨hy,e'⟩:y.size<=sizeLine/\n=y.size:=e;subst e';exact len_bytes (by lia) ⟨.int _,H,I.tok _,⟨_,rfl⟩,q⟩
 |ref p=>
  cases rx;have e':(∃ xs,SqL X.K H p xs/\n=xs.length)\/∃ xs,SqT X.K H p xs/\n=xs.length:=e;rcases e' with⟨xs,hx,e'⟩|⟨xs,hx,e'⟩
  .subst e';obtain⟨its,r',pl,hz⟩:=I.list hx;have a_:=r'.length;exact Calls.call_len_list pl.isList (by simp only[FD];lia) ⟨.int xs.length,H,I.tok _,⟨_,by simp only[FD];rw[a_]⟩,q⟩
  .subst e';obtain⟨its,r',pl,hz⟩:=I.tuple hx;have a_:=r'.length;exact len_tuple pl (by simp only[FD];lia) ⟨.int xs.length,H,I.tok _,⟨_,by simp only[FD];rw[a_]⟩,q⟩
 |_=>exact(show False from e).elim
end
structure ObjM(h:Heap)(x dx C:KF)(mA:Str->Option KB):Prop where
 obj:h.get? x=be (instObj C dx)
 ns:h.Ns1 dx mA
 ne:dx≠x
variable{mA:D'->Option KB}
def wI{dx:KF}(n:h.Ns1 dx mA):∃ od,h.get? dx=be od/\∀ name,lookIn name od=be (mA name):=by
 obtain⟨o,es,ep,ho,hd,hk,_,hm⟩:=n;refine⟨o,ho,λname=>?_⟩;have e:=hm name;unfold nsFind findBy at e;rw[<- Array.find?_toList] at e;unfold lookIn;rw[hd];dsimp only;split
 .rename_i y q;rw[q] at e;exact congrArg be e
 .rename_i q;rw[q] at e;have a:es.toList.any (·.refKey)=false:=by
   rw[List.any_eq_false];intro y hy;obtain⟨z,t,n4⟩:=hk y (Array.mem_toList_iff.mp hy);simp[DictEntry.refKey,n4]
  have a':¬ es.toList.any (·.refKey)=true:=by rw[a];exact Fz
  rw[if_neg a'];exact congrArg be e
variable{C:KF}
def ObjM.look{x dx:KF}(I:ObjM h x dx C mA):∃ od,PySem.W.InstAt h x (instObj C dx) C (be od)/\∀ name,lookIn name od=be (mA name):=
 let ⟨od,ho,hl⟩:=wI I.ns
 ⟨od,⟨I.obj,rfl,rfl,ho⟩,hl⟩
section
variable {prog:P3}{w:RT}{A:RU}{E:KB->KM->Prop}{s:KM}{K:Ex}{x dx C f:KF}{mA:D'->Option KB}{name:D'}{v:KB}
def wJ{Md:Bool}{Q:KB->KM->Prop}(X:K.In s.heap)(I:ObjM s.heap x dx C mA)(hg:plainGet K C name=true)(hh:hasDictIn K C=true)
  (ha:Fw K (.ref C) name=be m9) (hv:mA name=be v) (PN:handedIn v=true) (h:Q v {s with toks:=s.toks+1}):
  RS (RR prog w) A (getAttr (.ref x) name Md) Q E s:=by
 obtain⟨od,J,hl⟩:=I.look;exact get_value X J (plainGet_of hg).1 (findObj_own hh ha rfl (by rw[hl,hv])) PN h
def wK{pl:Tq Bool}{Q:KB × List KB->KM->Prop}(X:K.In s.heap)(I:ObjM s.heap x dx C mA)(hg:plainGet K C name=true)
  (hf:Fw K (.ref C) name=be (be (.ref f))) (ht:isFn K (.ref f)=true) (hv:mA name=m9) (h:Q (.ref f,[.ref x]) s):
  RS (RR prog w) A (S4 (.ref x) name pl) Q E s:=by
 obtain⟨od,J,hl⟩:=I.look;exact method_fn X J (plainGet_of hg).1 (plainGet_of hg).2 hf (beq_iff_eq.mp ht) (by show(lookIn name od).map (·.isSome)=be false;rw[hl,hv];rfl) h
def wL{ns:List D'}{Q:Unit->KM->Prop}(X:K.In s.heap)(I:ObjM s.heap x dx C mA)
  (hs:Fw K (.ref C) "__setattr__"=be (be (.builtin "object.__setattr__"))) (hp:plainOver K C=true) (ht:takerIn K C name=be m9) (hh:hasDictIn K C=true)
  (hw:PySem.Within mA ns) (g6:ns.length<=sizeLine)
  (h:∀ h',ObjM h' x dx C (λy=>if y=name then be v else mA y)->Heap.SameBut dx s.heap h'->Q () {s with heap:=h',toks:=s.toks+2}):
  RS (RR prog w) A (setAttr (.ref x) name v) Q E s:=by
 obtain⟨od,J,hl⟩:=I.look;refine PySem.W.set_plain X J hs (osa_open (s:={s with toks:=s.toks+1}) (r:=m9) X J hp ht λb=>?_);obtain⟨cd,hc,e8⟩:=any_some hh;have hx:s.heap.get? x=be ⟨.ref C,be dx,.plain,#[]⟩:=I.obj;refine Os (RQ (Os (Os (wpAny_loadPart hx (Os (PySem.W.Looks.here (s:={s with toks:=s.toks+1}) (PySem.W.looks_clsIn X hc) ?_))))));rw[e8];refine RQ (a:=be dx) (Os (RQ (Os ?_)));refine wpAny_nsSet1 (s:={s with toks:=s.toks+1}) I.ns λh' A' k9=>?_;obtain⟨oD,PP,PQ,Me,Mf,Mg⟩:=A'.count (PySem.Within.cons name v hw);refine Os (wpAny_lookBehind Me (by rw[Mf];exact pastItsLine_dict (FA Mg (by rw[Fq];lia))) ?_);exact RQ (h _ ⟨(k9.2 _ (Ne.symm I.ne)).trans I.obj,A',I.ne⟩ k9)
def wM{R:Result->KM->Prop}{vs:List KB}{kw:List (D' × KB)}(X:K.In s.heap)(hm:makesIn K C=true)
  (hi:Fw K (.ref C) "__init__"=be (be (.ref f))) (hf:PySem.W.typeIn K (.ref f)=be (.type "function"))
  (h:SO (RR prog w) (A.under (.builtin "type.__call__" ⟨.ref C::vs,kw⟩)) (.call (.ref f) ⟨.ref (s.heap.objs.size+1)::vs,kw⟩) (InitBack (s.heap.objs.size+1) R)
   {s with heap:=(s.heap.push emptyDict).push (instObj C s.heap.objs.size)}):
  SO (RR prog w) A (.call (.ref C) ⟨vs,kw⟩) R s:=by
 obtain⟨hh,g,d,t,os⟩:=s;exact make_core (makes_of X hm) (PySem.W.looks_findIn X hi) (λself=>PySem.W.bind_fn X self hf) (.inl rfl) h
end
def putF(f:D')(v:V):List (D' × V)->List (D' × V)
 |[]=>[(f,v)]
 |(g,x)::r=>if g=f then(g,v)::r else(g,x)::putF f v r
def qp(f g:D')(v:V):∀ fs:List (D' × V),(putF f v fs).lookup g=if g=f then be v else fs.lookup g
 |[]=>by
  show Gr g [(f,v)]=_;by_cases h:g=f
  .have hb:(g==f)=true:=beq_iff_eq.mpr h;simp only[Gr,hb,if_pos h]
  .have hb:(g==f)=false:=beq_eq_false_iff_ne.mpr h;simp only[Gr,hb,if_neg h]
 |(k,x)::r=>by
  have ih:=qp f g v r;rw[show putF f v ((k,x)::r)=(if k=f then(k,v)::r else(k,x)::putF f v r) from rfl];by_cases hk:k=f
  .rw[if_pos hk];by_cases h:g=k
   .have hb:(g==k)=true:=beq_iff_eq.mpr h;simp only[Gr,hb,if_pos (h.trans hk)]
   .have hb:(g==k)=false:=beq_eq_false_iff_ne.mpr h;simp only[Gr,hb,if_neg (λe:g=f=>h (e.trans hk.symm))]
  .rw[if_neg hk];by_cases h:g=k
   .have hb:(g==k)=true:=beq_iff_eq.mpr h;simp only[Gr,hb,if_neg (λe:g=f=>hk (h.symm.trans e))]
   .have hb:(g==k)=false:=beq_eq_false_iff_ne.mpr h;simp only[Gr,hb];exact ih
def jA(f:D')(v:V):∀ fs:List (D' × V),f∈(putF f v fs).map (·.1)/\∀ g,g∈fs.map (·.1)->g∈(putF f v fs).map (·.1)
 |[]=>⟨by simp[putF],λg h=>by simp at h⟩
 |(k,x)::r=>by
  obtain⟨i1,i2⟩:=jA f v r;rw[show putF f v ((k,x)::r)=(if k=f then(k,v)::r else(k,x)::putF f v r) from rfl];by_cases hk:k=f
  .rw[if_pos hk];subst hk;exact⟨by simp,λg h=>by simpa using h⟩
  .rw[if_neg hk];refine⟨?_,λg h=>?_⟩
   .rw[FB];exact Fu _ i1
   .rw[FB] at h ⊢;rcases Fp.mp h with e|e
    .exact Fp.mpr (.inl e)
    .exact Fu _ (i2 g e)
def qq(f:D')(v:V):∀ fs:List (D' × V),(putF f v fs).length<=fs.length+1
 |[]=>by simp[putF]
 |(k,x)::r=>by
  have ih:=qq f v r;rw[show putF f v ((k,x)::r)=(if k=f then(k,v)::r else(k,x)::putF f v r) from rfl];by_cases hk:k=f
  .rw[if_pos hk,Fq,Fq];lia
  .rw[if_neg hk,Fq,Fq];lia
def RelO.some_of{v:V}{o:Option KB}(r:RelO (be v) o):∃ u,o=be u/\RelV v u:=by
 cases o with
 |none=>exact(show False from r).elim
 |some u=>exact⟨u,rfl,r⟩
def RelO.none_of{o:Option KB}(r:RelO m9 o):o=none:=by
 cases o with
 |none=>rfl
 |some u=>exact(show False from r).elim
def wN{v:V}(r:RelV v u):handedIn u=true:=by
 cases v with
 |non=>cases(show u=Value.none from r);rfl
 |bl b=>cases(show u=Value.bool b from r);rfl
 |int i=>obtain⟨t,e⟩:=(show ∃ t,u=Value.int i t from r);cases e;rfl
 |str x=>obtain⟨t,e⟩:=(show ∃ t,u=Value.str x t from r);cases e;rfl
 |byt b=>obtain⟨t,e⟩:=(show ∃ t,u=Value.bytes b t from r);cases e;rfl
 |flt b=>obtain⟨t,e⟩:=(show ∃ t,u=Value.float b t from r);cases e;rfl
 |ref a=>cases(show u=Value.ref a from r);rfl
 |ty n=>cases(show u=Value.type n from r);rfl
section
variable {P:P3}{w:RT}{H H':Hp}{h h':Heap}{a C dx:KF}{fs j5:List (D' × V)}
def gw(hok:HOk P w H h)(e:H a=be (.ins C dx fs)):∃ mA,ObjM h a dx C mA/\(∀ f,RelO (fs.lookup f) (mA f))/\PySem.Within mA (fs.map (·.1))/\fs.length<=1000/\H dx=be (.own a):=by
 obtain⟨d,z,ne,ob,mA,n,r,q⟩:=(show ObjOk P w H h a (.ins C dx fs) from hok a _ e);exact⟨mA,⟨ob,n,ne⟩,r,q,z,d⟩
end
structure Cls(K:Ex)(C:KF):Prop where
 pg:plainGet K C Str.empty=true
 hd:hasDictIn K C=true
 po:plainOver K C=true
 sa:Fw K (.ref C) "__setattr__"=be (be (.builtin "object.__setattr__"))
def Cls.get(c:Cls K C)(f:D'):plainGet K C f=true:=c.pg
def NoAttr(K:Ex)(C:KF)(f:D'):Prop:=Fw K (.ref C) f=be m9
def NoAttr.taker{f:D'}(n:NoAttr K C f):takerIn K C f=be none:=by
 unfold takerIn;rw[show Fw K (.ref C) f=be m9 from n];rfl
structure Con(K:Ex)(C:KF)(f:Str)(v:V)(u:KB):Prop where
 at_:Fw K (.ref C) f=be (be u)
 rel:RelV v u
 get:specialIn K u "__get__"=be m9
 cp:PySem.W.copiedNames.contains f=false
structure Meth(K:Ex)(C:KF)(m:Str)(f:KF):Prop where
 at_:Fw K (.ref C) m=be (be (.ref f))
 fn:isFn K (.ref f)=true
 kp:keepIn K (.ref f)=true
section
variable {X:Cx}{pins:List (KF × R')}{σ:St}{H:Hp}{s:KM}{a C dx:KF}{fs:List (D' × V)}{f:D'}{v:V}{A:RU}{E:KB->KM->Prop}
variable{Q:KB->KM->Prop}
def wO{b:Bool}(I:Inv X pins σ H s)(e:H a=be (.ins C dx fs))(c:Cls X.K C)(n:NoAttr X.K C f)(l:fs.lookup f=be v)
  (h:∀ u s',Inv X pins σ H s'->RelV v u->Q u s'):RS (RR X.prog X.w) A (getAttr (.ref a) f b) Q E s:=by
 obtain⟨mA,O,r,_,_,_⟩:=gw I.hok e;obtain⟨u,hu,ru⟩:=RelO.some_of (v:=v) (o:=mA f) (by rw[<- l];exact r f);exact wJ I.kIn O (c.get f) c.hd n hu (wN ru) (h u _ (I.tok _) ru)
def qr{m:D'}{g:KF}{pl:Tq Bool}{Q:KB × List KB->KM->Prop}(I:Inv X pins σ H s)(e:H a=be (.ins C dx fs))(c:Cls X.K C)(k:Meth X.K C m g)(l:fs.lookup m=m9)
  (h:Q (.ref g,[.ref a]) s):RS (RR X.prog X.w) A (S4 (.ref a) m pl) Q E s:=by
 obtain⟨mA,O,r,_,_,_⟩:=gw I.hok e;have hn:mA m=none:=RelO.none_of (by rw[<- l];exact r m);exact wK I.kIn O (c.get m) k.at_ k.fn hn h
def wP{y:V}{u:KB}{Q:Unit->KM->Prop}(I:Inv X pins σ H s)(e:H a=be (.ins C dx fs))(c:Cls X.K C)(n:NoAttr X.K C f)(hl:fs.length<1000)(ry:RelV y u)
  (h:∀ s',Inv X pins σ (upd H a (.ins C dx (putF f y fs))) s'->Q () s'):RS (RR X.prog X.w) A (setAttr (.ref a) f u) Q E s:=by
 obtain⟨mA,O,r,wi,_,ho⟩:=gw I.hok e;have hz:(fs.map (·.1)).length<=sizeLine:=by rw[Fs,SU];lia
 refine wL I.kIn O c.sa c.po n.taker c.hd wi hz λh' O' sb=>h _ ?_;have hd:∃ o,h'.get? dx=be o:=let ⟨o,_,_,e',_⟩:=O'.ns;⟨o,e'⟩
 refine I.write (x:=a) (e:=dx) (by rw[e];exact True.intro) (.inr ho) (λb q hb z=>(sb.2 b hb).trans z) hd ?_;refine⟨by rw[au O.ne];exact ho,?_,O.ne,O'.obj,_,O'.ns,λg=>?_,λg hg=>?_⟩
 .have:=qq f y fs;lia
 .show RelO ((putF f y fs).lookup g) (if g=f then be u else mA g);rw[qp];by_cases q:g=f
  .rw[if_pos q,if_pos q];exact ry
  .rw[if_neg q,if_neg q];exact r g
 .by_cases q:g=f
  .rw[q];exact(jA f y fs).1
  .refine(jA f y fs).2 g (wi g λz=>hg ?_);show(if g=f then be u else mA g)=m9;rw[if_neg q];exact z
def Inv.made(I:Inv X pins σ H s):Inv X pins σ (upd (upd H s.heap.objs.size (.own (s.heap.objs.size+1))) (s.heap.objs.size+1) (.ins C s.heap.objs.size []))
  {s with heap:=(s.heap.push emptyDict).push (instObj C s.heap.objs.size)}:=by
 have e1:(s.heap.push emptyDict).get? s.heap.objs.size=be emptyDict:=Heap.get?_push_size s.heap rfl;have e2:((s.heap.push emptyDict).push (instObj C s.heap.objs.size)).get? (s.heap.objs.size+1)=be (instObj C s.heap.objs.size):=by
  have:=Heap.get?_push_size (s.heap.push emptyDict) (o:=instObj C s.heap.objs.size) rfl;rwa [Heap.size_push] at this
 have e3:(s.heap.push emptyDict).Ns s.heap.objs.size (λ_=>m9):=⟨emptyDict,#[],_,e1,rfl,(λe he=>absurd he (by simp)),λ_=>rfl⟩;have I1:=I.laid (a:=s.heap.objs.size) (o:= .own (s.heap.objs.size+1)) (h':=s.heap.push emptyDict) (t':=s.toks) (λb u q=>Heap.get?_push_of_some _ q) (Fo _) ⟨_,e1⟩;refine I1.laid (a:=s.heap.objs.size+1) (o:= .ins C s.heap.objs.size []) (t':=s.toks) (λb u q=>Heap.get?_push_of_some _ q) (GZ (Heap.size_push _ _)) ?_;have ne:s.heap.objs.size≠s.heap.objs.size+1:=Fy (HM _);refine⟨by rw[au ne,aC],FR _,ne,e2,λ_=>m9,(Heap.Ns1.of_empty e3).at λo q=>Heap.get?_push_of_some _ q,λ_=>True.intro,λy hy=>absurd rfl hy⟩
def attr_of{prog:P3}{w:RT}{env:SE}{e:RP}{f:D'}{pos:R5}{s:KM}(hb:RZ e f env (R1 e env)=R1 e env)
  (h:RS (RR prog w) A (R1 e env) (λo s₁=>RS (RR prog w) A (getAttr o f true) Q E s₁) E s):RS (RR prog w) A (R1 (.Attribute e f pos) env) Q E s:=
 Attribute_any_ h (by rw[arm_eval_Attribute,hb])
end
def tFld(K:Ex)(ta:TE)(f:D'):TE:=λσ H Q=>ta σ H λx H1=>∃ a C dx fs v,x= .ref a/\H1 a=be (.ins C dx fs)/\Cls K C/\NoAttr K C f/\fs.lookup f=be v/\Q v H1
def sFld(K:Ex)(ta tv:TE)(f:D'):TS:=λD σ H=>tv σ H λy H1=>ta σ H1 λx H2=>∃ a C dx fs,x= .ref a/\H2 a=be (.ins C dx fs)/\Cls K C/\NoAttr K C f/\fs.length<1000/\
 D.nx σ (upd H2 a (.ins C dx (putF f y fs)))
section
variable {X:Cx}{o e value:RP}{f:D'}{pos c8 PR:R5}{ta tv:TE}
def qt(he:PE X e ta)(hb:RZ e f X.env (R1 e X.env)=R1 e X.env):PE X (.Attribute e f pos) (tFld X.K ta f):=by
 intro pins s σ H Q I h;refine attr_of hb (thn (he pins s σ H _ I h) λu s1 b8=>?_);obtain⟨x,H1,I1,rx,a,C,dx,fs,v,ex,ea,c,n,l,q⟩:=b8;subst ex;obtain rfl:u=Value.ref a:=rx;exact wO I1 ea c n l λu' s2 I2 ru=>⟨v,H1,I2,ru,q⟩
def qu(ha:PE X o ta)(hv:PE X value tv)(hs:Sa value (be (.Attribute o f c8)) pos.line X.env=pure false):PS X (.Assign [.Attribute o f c8] value pos) (sFld X.K ta tv f):=by
 intro pins s σ H D I h;refine S3 (thn (hv pins s σ H _ I h) λu s1 ⟨y,H1,I1,ry,q⟩=>thn (ha pins s1 σ H1 _ I1 q) λov s2 hh=>?_) hs;obtain⟨x,H2,I2,rx,a,C,dx,fs,ex,ea,c,n,l,q2⟩:=hh;subst ex;obtain rfl:ov=Value.ref a:=rx;exact wP I2 ea c n l ry λs3 I3=>⟨σ,_,I3,q2⟩
end
section
variable {X:Cx}{pins:List (KF × R')}{σ:St}{H:Hp}{s:KM}{A:RU}{E:KB->KM->Prop}{Q:KB->KM->Prop}{c:KB}{b:Bool}
inductive TyOf(K:Ex)(H:Hp):V->KB->Prop where
 |non:TyOf K H .non (.type "NoneType")
 |bl (x:Bool):TyOf K H (.bl x) (.type "bool")
 |int (i:Int):TyOf K H (.int i) (.type "int")
 |str (x:Str):TyOf K H (.str x) (.type "str")
 |flt (x:UInt64):TyOf K H (.flt x) (.type "float")
 |lst {a:KF} {xs:List V} (e:H a=some (.lst xs)):TyOf K H (.ref a) (.type "list")
 |frz {a:KF} {o:R'} {xs:List V} (e:H a=some (.frz o (.lst xs))):TyOf K H (.ref a) (.type "list")
 |tup {a:KF} {xs:List V} (e:H a=some (.tup xs)):TyOf K H (.ref a) (.type "tuple")
 |dK {a:KF} {a8:List (Key × V)} (e:H a=some (.dK a8)):TyOf K H (.ref a) (.type "dict")
 |dT {a:KF} {a8:List (List Key × V)} (e:H a=some (.dT a8)):TyOf K H (.ref a) (.type "dict")
 |ins {a C dx:KF} {fs:List (Str × V)} (e:H a=some (.ins C dx fs)) (cl:Cls K C) (ha:Fw K (.ref C) "__class__"=some (some (.builtin "object.__class__")))
   (hn:specialIn K (.builtin "object.__class__") "__get__"=be (be (.builtin "getset_descriptor.__get__"))) (htk:takesIn K (.builtin "object.__class__")=be true)
   (hm:Gb K C (.type "object")=be true):TyOf K H (.ref a) (.ref C)
def wQ{x:V}{u t:KB}(I:Inv X pins σ H s)(rx:RelV x u)(ty:TyOf X.K H x t)(e:kitOne X.K t c=be b)(h:∀ tk,Q (.bool b) {s with toks:=tk}):
  RS (RR X.prog X.w) A (call (.builtin "isinstance") [u,c]) Q E s:=by
 cases ty with
 |non=>cases(show u=Value.none from rx);exact kia_one kitx_none I.kIn True.intro e (λz=>nomatch z) h
 |bl y=>cases(show u=Value.bool y from rx);exact kia_one kitx_bool I.kIn True.intro e (λz=>nomatch z) h
 |int i=>obtain⟨t,q⟩:=(show ∃ t,u=Value.int i t from rx);cases q;exact kia_one kitx_int I.kIn True.intro e (λz=>nomatch z) h
 |str y=>obtain⟨t,q⟩:=(show ∃ t,u=Value.str y t from rx);cases q;exact kia_one kitx_str I.kIn True.intro e (λz=>nomatch z) h
 |flt y=>obtain⟨t,q⟩:=(show ∃ t,u=Value.float y t from rx);cases q;exact kia_one kitx_float I.kIn True.intro e (λz=>nomatch z) h
 |@lst a xs ea=>
  cases(show u=Value.ref a from rx);obtain⟨_,_,n,_,h1⟩:=(show ObjOk X.prog X.w H s.heap a (.lst xs) from I.hok a _ ea);exact kia_one kitx_list I.kIn ⟨_,h1,rfl⟩ e (λz=>nomatch z) h
 |@frz a ob xs ea=>
  cases(show u=Value.ref a from rx);obtain⟨_,_,_,n,_,h1⟩:=(show ObjOk X.prog X.w H s.heap a (.frz ob (.lst xs)) from I.hok a _ ea);exact kia_one kitx_list I.kIn ⟨_,h1,rfl⟩ e (λz=>nomatch z) h
 |@tup a xs ea=>
  cases(show u=Value.ref a from rx);obtain⟨_,_,_,p⟩:=(show ObjOk X.prog X.w H s.heap a (.tup xs) from I.hok a _ ea);obtain⟨o,h1,h2,_⟩:=p;exact kia_one kitx_tuple I.kIn ⟨o,h1,h2⟩ e (λz=>nomatch z) h
 |@dK a a8 ea=>
  cases(show u=Value.ref a from rx);obtain⟨_,_,vs,_,p⟩:=(show ObjOk X.prog X.w H s.heap a (.dK a8) from I.hok a _ ea);obtain⟨o,es,ep,h1,h2,_⟩:=p;exact kia_one kitx_dict I.kIn ⟨o,h1,h2.1⟩ e (λz=>nomatch z) h
 |@dT a a8 ea=>
  cases(show u=Value.ref a from rx);obtain⟨_,_,xs,_,o,es,ep,h1,h2,_⟩:=(show ObjOk X.prog X.w H s.heap a (.dT a8) from I.hok a _ ea);exact kia_one kitx_dict I.kIn ⟨o,h1,h2.1⟩ e (λz=>nomatch z) h
 |@ins a C dx fs ea cl ha hn htk hm=>
  cases(show u=Value.ref a from rx);obtain⟨mA,O,_⟩:=gw I.hok ea;obtain⟨od,J,_⟩:=O.look;exact kia_one (kitx_own (cl.get _) cl.hd ha hn htk hm) I.kIn J e (λz=>nomatch z) h
end
structure Room(k:Nat)(A:RU):Prop where
 hd:A.handled=m9
 dp:A.depth+3*k+5<recursionLimit
 un:A.units+16*k+200<Tc
variable{k:Nat}
def Room.mono{j:Nat}(r:Room k A)(h:j<=k):Room j A:=⟨r.hd,by have:=r.dp;lia,by have:=r.un;lia⟩
def Room.deeper(r:Room (k+1) A)(env:SE):Room k (A.deeper env):=
 ⟨r.hd,by have:=r.dp;show A.depth+1+3*k+5<_;lia,by have:=r.un;show A.units+3+16*k+200<_;lia⟩
def Room.in1(r:Room (k+1) A):Room k A.in1:=
 ⟨r.hd,by have:=r.dp;show A.depth+3*k+5<_;lia,by have:=r.un;show A.units+1+16*k+200<_;lia⟩
variable{kw:List (D' × KB)}
def wR:(A.under (.builtin "type.__call__" ⟨.ref C::us,kw⟩)).depth=A.depth+1:=by
 first|rfl|simp[Around.under,Code.weight,Code.isCreation,Code.isGuard,Code.isCaller,Code.frames,Code.isFrame,guardIds]
def wS:(A.under (.builtin "type.__call__" ⟨.ref C::us,kw⟩)).units=A.units+1:=by
 first|rfl|simp[Around.under,Code.cUnits,Code.frames,Code.isFrame]
def Room.make(r:Room (k+1) A)(C:KF)(us:List KB)(kw:List (D' × KB)):Room k (A.under (.builtin "type.__call__" ⟨.ref C::us,kw⟩)):=
 ⟨r.hd,by have:=r.dp;rw[wR];lia,by have:=r.un;rw[wS];lia⟩
def Room.depth(r:Room k A):A.depth<recursionLimit:=by have:=r.dp;lia
def Room.units(r:Room k A):A.units+64<Tc:=by have:=r.un;lia
def tNil:TA:=λ_ H Q=>Q [] H
def gx(ta:TE)(tr:TA):TA:=λσ H Q=>ta σ H λx H1=>tr σ H1 λxs H2=>Q (x::xs) H2
section
variable {X:Cx}{e:RP}{es:List RP}{te:TE}{t:TA}{pos:R5}
def pa_nil:PA X [] tNil:=λ_ _ _ _ H Q I h=>Calls.spliced_nil ⟨[],H,I,.nil,h⟩
def bx(ha:PE X e te)(hr:PA X es t)(hs:autoParam (zSE X e es) zA0):PA X (e::es) (gx te t):=by
 intro pos pins s σ H Q I h;rw[hs];show RS _ _ (spliced ((false,R1 e X.env)::Sw pos (RV es X.env))) _ _ s;refine Calls.spliced_cons (thn (ha pins s σ H _ I h) λu s1 b8=>?_);obtain⟨x,H1,I1,r1,q1⟩:=b8;exact thn (hr pos pins s1 σ H1 _ I1 q1) λus s2 ⟨xs,H2,I2,r2,q2⟩=>⟨x::xs,H2,I2,.cons r1 r2,q2⟩
def tTup(t:TA):TE:=λσ H Q=>t σ H λxs H1=>xs.length<=sizeLine/\∀ p,H1 p=m9->Q (.ref p) (upd H1 p (.tup xs))
def tLst(t:TA):TE:=λσ H Q=>t σ H λxs H1=>xs.length<=sizeLine/\∀ p,H1 p=m9->Q (.ref p) (upd H1 p (.lst xs))
def qv{x1}(h:PA X es t):PE X (.Tuple es x1 pos) (tTup t):=by
 intro pins s σ H Q I hq;refine wpAny_Tuple_spliced (thn (h pos pins s σ H _ I hq) λus s1 ⟨xs,H1,I1,r,z,q⟩=>⟨by rw[<- r.length];exact z,?_⟩);have hf:H1 s1.heap.objs.size=none:=I1.hok.fresh (Fo _);refine⟨.ref s1.heap.objs.size,upd H1 s1.heap.objs.size (.tup xs),I1.laid (t':=s1.toks) (λb u e=>Heap.get?_push_of_some _ e) (Fo _) ?_,rfl,q _ hf⟩;exact⟨z,us,r,⟨_,Heap.get?_push_size _ rfl,rfl,_,rfl⟩⟩
def jB(h:PA X es t):PE X (.List es pos) (tLst t):=by
 intro pins s σ H Q I hq;refine wpAny_List_spliced (thn (h pos pins s σ H _ I hq) λus s1 ⟨xs,H1,I1,r,z,q⟩=>⟨by rw[<- r.length];exact z,?_⟩);have hf:H1 s1.heap.objs.size=none:=I1.hok.fresh (Fo _);refine⟨.ref s1.heap.objs.size,upd H1 s1.heap.objs.size (.lst xs),I1.laid (t':=s1.toks) (λb u e=>Heap.get?_push_of_some _ e) (Fo _) ?_,rfl,q _ hf⟩;exact⟨z,us,0,r,Heap.get?_push_size _ rfl⟩
end
abbrev Sp:=List V->Hp->VK->XK->Prop
abbrev CXT:=List SE->Hp->KM->XK->KB->KM->Prop
structure Env0(P:P3)(w:RT)(K:Ex)(mg:Str->Option KB)(base:Heap)(A:RU)(outer:List SE)(s:KM)(H:Hp):Prop where
 frames:A.frames=be outer
 mod:Mod K mg base
 bs:∀ b o,base.get? b=be o->s.heap.get? b=be o/\H b=m9
 bsz:base.objs.size<=s.heap.objs.size
 funs:s.heap.FunFrames base outer
 frf:∀ b∈frs outer,H b=m9
 hok:HOk P w H s.heap
 bare:SJ s.gens
def CE(outer:List SE)(P:P3)(w:RT)(H:Hp)(s:KM)(Q:VK)(u:KB)(s':KM):Prop:=
 ∃ v H',s'.os=s.os/\SJ s'.gens/\Un (frs outer) [] H H' s.heap s'.heap/\HOk P w H' s'.heap/\RelV v u/\Q v H'
def CR(CX:CXT)(outer:List SE)(P:P3)(w:RT)(H:Hp)(s:KM)(Q:VK)(E:XK)(r:Result)(s':KM):Prop:=
 match r with
 | .ok (.ret u)=>CE outer P w H s Q u s'
 | .ok _=>False
 | .error e=>CX outer H s E e s'
structure FnOk(P:P3)(w:RT)(K:Ex)(mg:Str->Option KB)(base:Heap)(CX:CXT)(k:Nat)(f:KF)(fd:RY)(ps:List Str)(sp:Sp):Prop where
 len:∀ vs H Q E,sp vs H Q E->vs.length=ps.length
 run:∀ (A:RU) (outer:List SE) (s:KM) (H:Hp) (args:Args) (us:List KB) (vs:List V) (Q:VK) (E:XK),Room k A->Env0 P w K mg base A outer s H->S2 s fd args (ps.zip us)->Vals vs us->sp vs H Q E->
  SO (RR P w) A (.call (.ref f) args) (CR CX outer P w H s Q E) s
variable{f:KF}{mg:D'->Option KB}{base:Heap}{CX:CXT}{fd:RY}{ps:List D'}{sp:Sp}
def FnOk.mono{j:Nat}(F:FnOk P w K mg base CX j f fd ps sp)(h:j<=k):
  FnOk P w K mg base CX k f fd ps sp:=⟨F.len,λA outer s H args us vs Q E hr=>F.run A outer s H args us vs Q E (hr.mono h)⟩
def FnOk.imp{Jf:Sp}(F:FnOk P w K mg base CX k f fd ps sp)
  (h:∀ vs H Q E,Jf vs H Q E->sp vs H Q E):FnOk P w K mg base CX k f fd ps Jf:=
 ⟨λvs H Q E q=>F.len vs H Q E (h _ _ _ _ q),λA outer s H args us vs Q E hr he hb hv hs=>F.run A outer s H args us vs Q E hr he hb hv (h _ _ _ _ hs)⟩
variable{outer:List SE}
def Env0.make(e:Env0 P w K mg base A outer s H)(C:KF)(us:List KB)(kw:List (D' × KB)):
  Env0 P w K mg base (A.under (.builtin "type.__call__" ⟨.ref C::us,kw⟩)) outer s H:=⟨by first|exact e.frames|(simpa[Around.under,Code.envs,Code.isFrame,pushEnvs] using e.frames),e.mod,e.bs,e.bsz,e.funs,e.frf,e.hok,e.bare⟩
def Env0.in1(e:Env0 P w K mg base A outer s H):
  Env0 P w K mg base A.in1 outer s H:=⟨e.frames,e.mod,e.bs,e.bsz,e.funs,e.frf,e.hok,e.bare⟩
section
variable {X:Cx}{pins:List (KF × R')}{σ:St}{H:Hp}{s s':KM}
def Inv.env0(I:Inv X pins σ H s):Env0 X.prog X.w X.K X.mg X.base X.A X.stack s H:=
 ⟨I.ok.frames,I.ok.mod,I.bs,FA I.ok.bsz I.sz,I.stack,I.stkFree,I.hok,I.bare⟩
def Inv.after{Q:VK}{u:KB}(I:Inv X pins σ H s)(h:CE X.stack X.prog X.w H s Q u s'):EP X pins σ Q u s':=by
 obtain⟨v,H',os,bare,un,hok,r,q⟩:=h;obtain⟨hh,g,d,t,PU⟩:=s';obtain rfl:PU=s.os:=os;exact⟨v,H',I.call (h':=hh) (g':=g) (d':=d) (t':=t) (ch:=[]) un hok bare (λb z=>absurd z (by simp)),r,q⟩
end
def qw(sp:Sp)(n5:List V)(E:XK)(t:TA):TE:=λσ H Q=>t σ H λvs H1=>sp (vs++n5) H1 Q E
def wT(C:KF)(sp:Sp)(n5:List V)(E:XK)(t:TA):TE:=λσ H Q=>t σ H λvs H1=>∀ x dx,H1 x=m9->H1 dx=m9->dx≠x->
 sp (.ref x::(vs++n5)) (upd (upd H1 dx (.own x)) x (.ins C dx [])) (λv H2=>v= .non/\Q (.ref x) H2) E
def Binds(K:Ex)(fd:RY)(ps:List D')(ds:List KB):Prop:=
 ∀ (s:KM) (us:List KB),K.In s.heap->(us++ds).length=ps.length->S2 s fd ⟨us,[]⟩ (ps.zip (us++ds))
def Binds.all(h:∀ us:List KB,us.length=ps.length->SB fd ⟨us,[]⟩=pure (ps.zip us)):Binds K fd ps []:=λs us _ hl=>by
 rw[F7] at hl ⊢;exact .of_eq (h us hl)
def fE(CX:CXT)(X:Cx)(E:XK):Prop:=∀ (pins:List (KF × R')) (σ:St) (H:Hp) (s:KM) (e:KB) (s':KM),Inv X pins σ H s->CX X.stack H s E e s'->X.xe e s'
section
variable {X:Cx}{CX:CXT}{k:Nat}{f C:KF}{fd:RY}{ps:List D'}{sp:Sp}{n5:List V}{ds:List KB}{E:XK}{x m:D'}{p pos apos:R5}{e o:RP}{es:List RP}{ta:TE}{t:TA}
variable{pins:List (KF × R')}{us:List KB}{vs:List V}
def wU{σ:St}{H:Hp}{s:KM}{Q:VK}(F:FnOk X.prog X.w X.K X.mg X.base CX k f fd ps sp)(hr:Room k X.A)(hb:Binds X.K fd ps ds)(hd:Vals n5 ds)(hx:fE CX X E)
  (I:Inv X pins σ H s) (r:Vals vs us) (h:sp (vs++n5) H Q E):RS (RR X.prog X.w) X.A (call (.ref f) us) (EP X pins σ Q) X.xe s:=by
 have r2:Vals (vs++n5) (us++ds):=r.append hd;have hl:(us++ds).length=ps.length:=by rw[<- r2.length];exact F.len _ _ _ _ h
 refine SL (SA (F.run X.A X.stack s H ⟨us,[]⟩ (us++ds) (vs++n5) Q E hr I.env0 (hb s us I.kIn hl) r2 h) λr s' hq=>?_);cases r with
 |error e=>exact hx pins σ H s e s' I hq
 |ok fl=>
  cases fl with
  |ret u=>exact I.after hq
  |next=>exact False.elim hq
  |brk=>exact False.elim hq
  |cont=>exact False.elim hq
def wV(F:FnOk X.prog X.w X.K X.mg X.base CX k f fd ps sp)(hr:Room k X.A)(hg:Gl X x)(hm:X.mg x=be (.ref f))(hk:keepIn X.K (.ref f)=true)(hb:Binds X.K fd ps ds)(hd:Vals n5 ds)(hx:fE CX X E)
  (ha:PA X (e::es) t) (d7:autoParam (zND x) zA1) (he:autoParam (zSE X e es) zA0) (c7:autoParam (zPL X pos es) zA0):
  PE X (.Call (.Name x p) (e::es) [] pos) (qw sp n5 E t):=by
 intro pins s σ H Q I h;refine R4 (cA I hg hm ?_ d7);refine callWith_K (h₀:=X.base) I.ok.mod.kin hk (thn (ha pos pins s σ H _ I h) λus s1 hh=>⟨hh.elim λ_ h=>h.elim λ_ h=>h.1.kIn,?_⟩) he c7;obtain⟨vs,H1,I1,r,q⟩:=hh;exact wU F hr hb hd hx I1 r q
structure Mk(K:Ex)(C f:KF):Prop where
 makes:makesIn K C=true
 init:Fw K (.ref C) "__init__"=be (be (.ref f))
 fn:isFn K (.ref f)=true
 kp:keepIn K (.ref C)=true
def wW{σ:St}{H:Hp}{s:KM}{Q:VK}(M:Mk X.K C f)(F:FnOk X.prog X.w X.K X.mg X.base CX k f fd ps sp)(hr:Room (k+1) X.A)(hb:Binds X.K fd ps ds)(hd:Vals n5 ds)
  (hx:fE CX X E) (I:Inv X pins σ H s) (r:Vals vs us)
  (h:∀ x dx,H x=m9->H dx=m9->dx≠x->sp (.ref x::(vs++n5)) (upd (upd H dx (.own x)) x (.ins C dx [])) (λv H2=>v= .non/\Q (.ref x) H2) E):
  RS (RR X.prog X.w) X.A (call (.ref C) us) (EP X pins σ Q) X.xe s:=by
 have hq:=h (s.heap.objs.size+1) s.heap.objs.size (I.hok.fresh (Gs _)) (I.hok.fresh (Fo _)) (Fy (HM _));have I2:=Inv.made (C:=C) I;have r2:Vals (V.ref (s.heap.objs.size+1)::(vs++n5)) (Value.ref (s.heap.objs.size+1)::(us++ds)):= .cons rfl (r.append hd);have hl:(Value.ref (s.heap.objs.size+1)::us++ds).length=ps.length:=by
  have e:=r2.length;rw[F.len _ _ _ _ hq] at e;exact e.symm
 refine SL (wM (f:=f) I.kIn M.makes M.init (beq_iff_eq.mp M.fn) (SA (F.run _ X.stack _ _ ⟨Value.ref (s.heap.objs.size+1)::us,[]⟩ (Value.ref (s.heap.objs.size+1)::(us++ds)) _ _ E (hr.make C us [])
  (I2.env0.make C us []) (hb _ (Value.ref (s.heap.objs.size+1)::us) I2.kIn hl) r2 hq) λr s' td=>?_))
 cases r with
 |error e=>exact hx pins σ _ _ e s' I2 td
 |ok fl=>
  cases fl with
  |ret u=>
   obtain⟨v,H',I3,rv,ev,q3⟩:=I2.after td;subst ev;exact⟨rv,⟨V.ref (s.heap.objs.size+1),H',I3,rfl,q3⟩⟩
  |next=>exact False.elim td
  |brk=>exact False.elim td
  |cont=>exact False.elim td
def jC(M:Mk X.K C f)(F:FnOk X.prog X.w X.K X.mg X.base CX k f fd ps sp)(hr:Room (k+1) X.A)(hg:Gl X x)(hm:X.mg x=be (.ref C))(hb:Binds X.K fd ps ds)(hd:Vals n5 ds)(hx:fE CX X E)
  (ha:PA X (e::es) t) (d7:autoParam (zND x) zA1) (he:autoParam (zSE X e es) zA0) (c7:autoParam (zPL X pos es) zA0):
  PE X (.Call (.Name x p) (e::es) [] pos) (wT C sp n5 E t):=by
 intro pins s σ H Q I h;refine R4 (cA I hg hm ?_ d7);refine callWith_K (h₀:=X.base) I.ok.mod.kin M.kp (thn (ha pos pins s σ H _ I h) λus s1 hh=>⟨hh.elim λ_ h=>h.elim λ_ h=>h.1.kIn,?_⟩) he c7;obtain⟨vs,H1,I1,r,q⟩:=hh;exact wW M F hr hb hd hx I1 r q
end
structure FnScope(N P:List Str)(sc:Sk):Prop where
 kind:sc.kind= .function
 co:sc.isCoroutine=false
 gen:sc.isGenerator=false
 nd:N.Nodup
 pre:N.take P.length=P
 par:∀ x∈P,sc.names.lookup x=be .local\/sc.names.lookup x=be .cell
 nofree:∀ y∈sc.names,y.2≠.free
def qy{kindOf:D'->Option Su}{x:D'}:∀ {binds:List (D' × KB)} {m:D'->Option KB},(∀ v,(x,v) ∉ binds)->Td kindOf binds m x=m x
 |[],_,_=>rfl
 |(n,v)::r,m,h=>by
  unfold Td;rw[qy λw hw=>h w (Fu _ hw)];split
  .have:x≠n:=by rintro rfl;exact h v Fv
   simp[this]
  .rfl
def bindC_out{kindOf:D'->Option Su}{x:D'}:∀ {binds:List (D' × KB)} {m:D'->Option KB},(∀ v,(x,v) ∉ binds)->Tf kindOf binds m x=m x
 |[],_,_=>rfl
 |(n,v)::r,m,h=>by
  unfold Tf;rw[bindC_out λw hw=>h w (Fu _ hw)];split
  .rfl
  .have:x≠n:=by rintro rfl;exact h v Fv
   simp[this]
def bindL_get{kindOf:D'->Option Su}{x:D'}{v:KB}:∀ {P:List D'} {vs:List KB} {i:Nat} {m:D'->Option KB},P.Nodup->P[i]?=be x->vs[i]?=be v->kindOf x=be .local->
  Td kindOf (P.zip vs) m x=be v
 |[],_,_,_,_,h,_,_=>by simp at h
 |_::_,[],_,_,_,_,h,_=>by simp at h
 |p::P,w::vs,0,m,nd,h1,h2,hk=>by
  simp at h1 h2;subst h1;subst h2;show Td kindOf ((p,w)::P.zip vs) m p=_;unfold Td;rw[qy λv hv=>(Gf.mp nd).1 (Ho hv).1,if_pos hk];simp
 |p::P,w::vs,i+1,m,nd,h1,h2,hk=>by
  show Td kindOf ((p,w)::P.zip vs) m x=_;unfold Td;exact bindL_get (i:=i) (Gf.mp nd).2 (by simpa using h1) (by simpa using h2) hk
def qz{kindOf:D'->Option Su}{x:D'}{v:KB}:∀ {P:List D'} {vs:List KB} {i:Nat} {m:D'->Option KB},P.Nodup->P[i]?=be x->vs[i]?=be v->kindOf x≠be .local->
  Tf kindOf (P.zip vs) m x=be v
 |[],_,_,_,_,h,_,_=>by simp at h
 |_::_,[],_,_,_,_,h,_=>by simp at h
 |p::P,w::vs,0,m,nd,h1,h2,hk=>by
  simp at h1 h2;subst h1;subst h2;show Tf kindOf ((p,w)::P.zip vs) m p=_;unfold Tf;rw[bindC_out λv hv=>(Gf.mp nd).1 (Ho hv).1,if_neg hk];simp
 |p::P,w::vs,i+1,m,nd,h1,h2,hk=>by
  show Tf kindOf ((p,w)::P.zip vs) m x=_;unfold Tf;exact qz (i:=i) (Gf.mp nd).2 (by simpa using h1) (by simpa using h2) hk
def start(N:List D')(vs:List V):St:=vs.map be++Gg (N.length - vs.length) m9
def cxOf(CX:CXT)(P:P3)(w:RT)(K:Ex)(mg:D'->Option KB)(base:Heap)(N:List D')(qual:D')(scope:Sk)(f:KF)(cd:KB)(A:RU)(outer:List SE)(s:KM)(H:Hp)(E:XK):Cx where
 prog:=P
 w:=w
 K:=K
 mg:=mg
 base:=base
 A:=A.deeper (R7 qual scope s.heap.objs.size f cd)
 N:=N
 s₀:=s
 H₀:=H
 env:=R7 qual scope s.heap.objs.size f cd
 outer:=outer
 stack:=R7 qual scope s.heap.objs.size f cd::outer
 ex:=[]
 calm:=true
 fn:=λ_=>true
 pn:=[]
 xe:=λe s'=>RS (RR P w) (A.deeper (R7 qual scope s.heap.objs.size f cd)) (Tj (R7 qual scope s.heap.objs.size f cd) e) (λ_ Mh=>CX outer H s E e Mh) (λe' Mh=>CX outer H s E e' Mh) s'
def cell_has{sc:Sk}{n:Nat}{x:D'}(h:sc.names.lookup x=be .cell):∃ c,(cellsFrom n sc.names []).lookup x=be c:=by
 have q:=cellsFrom_some sc.names n [] (.inl h);exact Option.isSome_iff_exists.mp q
variable{N:List D'}{scope:Sk}
def wX{qual:D'}{cd:KB}{s1:KM}{E:XK}{vs:List V}
  (S:FnScope N ps scope) (hd:A.handled=m9) (e0:Env0 P w K mg base A outer s H) (hl:vs.length=ps.length) (r:Vals vs us)
  (x:InCallC s s.heap.objs.size (Td (R7 qual scope s.heap.objs.size f cd).kindOf (ps.zip us) λ_=>m9) (cellsFrom (s.heap.objs.size+1) scope.names []) (Tf (R7 qual scope s.heap.objs.size f cd).kindOf (ps.zip us) λ_=>m9) s1):
  Inv (cxOf CX P w K mg base N qual scope f cd A outer s H E) [] (start N vs) H s1:=by
 have c7:ps.length<=N.length:=by have:=congrArg Gu S.pre;rw[G0] at this;lia
 obtain⟨h1,tk,rfl,hk⟩:=x.done;have Kv:∀ b:KF,b ∉ (cxOf CX P w K mg base N qual scope f cd A outer s H E).ex:=λb z=>absurd (show b∈([]:List KF) from z) (by simp);refine⟨⟨e0.mod,S.kind,rfl,rfl,Fo _,λy z c h1 h2=>?_,λy hy=>?_,λy c _ h=>?_,λ_=>hd,Around.frames_deeper e0.frames,.inr ⟨rfl,rfl⟩,λb z=>absurd z (Kv b),e0.bs,e0.bsz,λb _ _=>Kv b,λb z=>absurd z (Kv b),e0.funs,e0.frf⟩,
  rfl,e0.bare,Un.kept hk,⟨_,x.toInCall.ns,λi y v h1 h2 h3=>?_⟩,λy c h=>⟨_,x.cell y c h⟩,e0.hok.fresh (Fo _),λy c h=>?_,λp hp=>absurd (show p∈([]:List (KF × R')) from hp) (by simp),e0.hok.kept hk,?_⟩
 .exact name_of_addr x.apart (PySem.mem_of_lookup h1) (PySem.mem_of_lookup h2)
 .have hy:scope.names.lookup y=be .cell\/scope.names.lookup y=be .free:=hy;rcases hy with hy|hy
  .exact cell_has hy
  .exact absurd rfl (S.nofree _ (PySem.mem_of_lookup hy))
 .exact GW (x.above y c (PySem.mem_of_lookup h))
 .have hi:i<vs.length:=by
   unfold start at h2;by_cases hi:i<vs.length
   .exact hi
   .rw[Gh (by simpa using hi)] at h2;rw[Hq] at h2;split at h2<;>cases h2
  have ha:vs[i]?=be v:=by
   unfold start at h2;rw[F8 (by simpa using hi),FF] at h2;cases e:vs[i]? with
   |none=>rw[e] at h2;cases h2
   |some a=>rw[e] at h2;cases h2;rfl
  obtain⟨u,hu,rv⟩:=r.get ha;have hp:ps[i]?=be y:=by
   rw[<- S.pre,HN (by lia)];exact h1
  have OA:ps.Nodup:=by rw[<- S.pre];exact S.nd.sublist (List.take_sublist _ _)
  refine⟨u,rv,?_⟩;rcases S.par y (G1 hp) with k|k
  .exact .inl ⟨k,bindL_get OA hp hu k⟩
  .obtain⟨c,e⟩:=cell_has (n:=s.heap.objs.size+1) k;refine .inr ⟨.inl k,c,e,?_⟩;have q:=x.cell y c e;rw[qz OA hp hu (by show scope.names.lookup y≠_;rw[k];decide)] at q;exact q
 .exact e0.hok.fresh (GW (x.above y c (PySem.mem_of_lookup h)))
 .unfold start;show _=N.length;rw[Fx,Fs,List.length_replicate];lia
def qA{name qual:D'}{params:Arguments}{body:List RO}{dV kV doc pm cdv ct oc:KB}{an od:Option KF}
  {osl:Array (Option KB)}   (lk:K.lookup f=be ⟨oc,od,.func (fnOf name qual params body scope dV kV doc pm an cdv ct),osl⟩) (gt:codeIn K cdv qual=true) (S:FnScope N ps scope)
  (len:∀ vs H Q E,sp vs H Q E->vs.length=ps.length)
  (a9:∀ (A:RU) (outer:List SE) (s:KM) (H:Hp) (vs:List V) (Q:VK) (E:XK),Room k (A.deeper (R7 qual scope s.heap.objs.size f cdv))->sp vs H Q E->
   ∃ t,PSs (cxOf CX P w K mg base N qual scope f cdv A outer s H E) body t/\t {nx:=λ_ H'=>Q .non H',rt:=Q} (start N vs) H):
  FnOk P w K mg base CX (k+1) f (fnOf name qual params body scope dV kV doc pm an cdv ct) ps sp:=by
 refine⟨len,λA outer s H args us vs Q E hr e0 hb r t5=>?_⟩;have hl:=len _ _ _ _ t5;have KX:K.In s.heap:=e0.mod.kin.keeps λb o e=>(e0.bs b o e).1;have PV:s.heap.NoLimit:=e0.mod.nolimit.keeps λb o e=>(e0.bs b o e).1;have Kw:∀ y∈ps.zip us,scope.names.lookup y.1=be .local\/(scope.names.lookup y.1=be .cell/\((cellsFrom (s.heap.objs.size+1) scope.names []).lookup y.1).isSome=true):=λ⟨n,v⟩ hy=>by
  rcases S.par n (Ho hy).1 with q|q
  .exact .inl q
  .exact .inr ⟨q,cellsFrom_some _ _ _ (.inl q)⟩
 refine codeAny_call_function hr.depth (KX _ _ lk) rfl S.co S.gen rfl (codeRec_of KX gt) (hb _ _ _ _ ?_);refine wpAny_newFunctionEnv_cells S.kind Kw λenv he s1 x=>?_;subst he;refine⟨PV.keeps x.toInCall.keep,codeAny_func ?_⟩;obtain⟨t,ht,hq⟩:=a9 A outer s H vs Q E (hr.deeper _) t5;have I:Inv (cxOf CX P w K mg base N qual scope f cdv A outer s H E) [] (start N vs) H s1:=wX S hr.hd e0 hl r x;refine R3 (ht [] s1 (start N vs) H _ I hq) (λfl s' hs=>?_) λe s' hs=>hs;have c_:∀ {σ':St} {H':Hp} {v:V} {u:KB},Inv (cxOf CX P w K mg base N qual scope f cdv A outer s H E) [] σ' H' s'->RelV v u->Q v H'->CE outer P w H s Q u s':=
  λ{σ' H' v u} J rv q=>⟨v,H',J.os,J.bare,J.base,J.hok,rv,q⟩
 cases fl with
 |ret u=>
  obtain⟨v,σ',H',J,rv,q⟩:=hs;exact c_ J rv q
 |next=>
  obtain⟨σ',H',J,q⟩:=hs;exact c_ (v:=V.non) (u:=Value.none) J rfl q
 |brk=>
  obtain⟨_,_,_,q⟩:=hs;exact False.elim q
 |cont=>
  obtain⟨_,_,_,q⟩:=hs;exact False.elim q
section
variable {X:Cx}{x:D'}{p pos:R5}{e:RP}{es:List RP}{t:TA}{id T:String}{r:List V->Hp->VK->Prop}
def tCB(r:List V->Hp->VK->Prop)(t:TA):TE:=λσ H Q=>t σ H λvs H1=>r vs H1 Q
def gy(hc:bE X (.builtin id) r)(hg:Gl X x)(hm:X.mg x=m9)(hv:R_ x=be (.builtin id))(ha:PA X (e::es) t)(hn:autoParam (x≠"__name__") zA1)(d7:autoParam (zND x) zA1)
  (he:autoParam (zSE X e es) zA0) (c7:autoParam (zPL X pos es) zA0):PE X (.Call (.Name x p) (e::es) [] pos) (tCB r t):=by
 intro pins s σ H Q I h;refine R4 (dA I hg hm hv ?_ hn d7);exact PyProof.Rows.callWith_builtin1 (thn (ha pos pins s σ H _ I h) λus s1 ⟨vs,H1,I1,r1,q1⟩=>hc pins s1 σ H1 vs us Q I1 r1 q1) he c7
def jD(hc:bE X (.type T) r)(hg:Gl X x)(hm:X.mg x=m9)(hv:R_ x=be (.type T))(ha:PA X (e::es) t)(hn:autoParam (x≠"__name__") zA1)(d7:autoParam (zND x) zA1)
  (he:autoParam (zSE X e es) zA0) (c7:autoParam (zPL X pos es) zA0):PE X (.Call (.Name x p) (e::es) [] pos) (tCB r t):=by
 intro pins s σ H Q I h;refine R4 (dA I hg hm hv ?_ hn d7);exact PyProof.Rows.callWith_type1 (thn (ha pos pins s σ H _ I h) λus s1 ⟨vs,H1,I1,r1,q1⟩=>hc pins s1 σ H1 vs us Q I1 r1 q1) he c7
end
end L2
namespace HT
open PySem PyProof.Rows
section
variable {prog:P3}{w:RT}{A:RU}{E:KB->KM->Prop}{s:KM}
variable{Q:KB->KM->Prop}
def cat_tup{t b:KF}{vs ws:List KB}(ht:IsTup s.heap t vs.toArray)(hb:IsTup s.heap b ws.toArray)(hv:vs≠[])
  (h1:ws=[]->Q (.ref t) s) (h2:ws≠[]->Q (.ref s.heap.objs.size) {s with heap:=s.heap.push {cls:= .type "tuple",data:= .seq (vs++ws).toArray} })
  (g6:vs.length+ws.length<=sizeLine):RS (RR prog w) A (Sd .Add (.ref t) (.ref b)) Q E s:=by
 obtain⟨⟨cls,dd,data,sl⟩,ho,hc,n,hd⟩:=id ht;obtain⟨⟨PX,OB,data2,LA⟩,LB,OC,n2,p9⟩:=id hb;simp only at hc hd OC p9;subst hc hd OC p9;have e:vs.toArray++ws.toArray=(vs++ws).toArray:=by simp
 by_cases hw:ws=[]
 .exact concat_meets ⟨_,ho,rfl⟩ ⟨_,LB,rfl⟩ noFill_tuple_add seq_tuple_add PySem.F.slot_tuple_add PySem.F.entry_tuple_add (PySem.F.args_tuple_add_2 _ _)
   (tuple_addW1 t b vs.toArray ws.toArray n n2 dd OB sl LA (by simpa using hv) (by simp[hw])) ⟨ho,LB,h1 hw⟩
 .refine concat_meets ⟨_,ho,rfl⟩ ⟨_,LB,rfl⟩ noFill_tuple_add seq_tuple_add PySem.F.slot_tuple_add PySem.F.entry_tuple_add (PySem.F.args_tuple_add_2 _ _)
   (tuple_addW2 t b vs.toArray ws.toArray n n2 dd OB sl LA (by simpa using hv) (by simpa using hw) (by rw[FD,FD];exact g6)) ⟨ho,LB,?_⟩
  rw[e];exact h2 hw
def sIx(n d:Nat):Option Int->Nat
 |none=>d
 |some v=>if v<0 then(v+(n:Int)).toNat else min v.toNat n
def sIx_none(n d:Nat):sIx n d m9=d:=rfl
def sIx_nat(n d k:Nat):sIx n d (be (k:Int))=min k n:=by
 show(if(k:Int)<0 then((k:Int)+(n:Int)).toNat else min (k:Int).toNat n)=min k n;rw[if_neg (by lia),G2]
def sIx_le(n d:Nat)(hd:d<=n)(o:Option Int):sIx n d o<=n:=by
 cases o with
 |none=>exact hd
 |some v=>
  show(if v<0 then(v+(n:Int)).toNat else min v.toNat n)<=n;by_cases hv:v<0
  .rw[if_pos hv];lia
  .rw[if_neg hv];exact Nat.min_le_right _ _
def qB(v:Int)(n d:Nat):(if v<0 then max (v+(n:Int)) 0 else min v (n:Int))=((sIx n d (be v):Nat):Int):=by
 show(if v<0 then max (v+(n:Int)) 0 else min v (n:Int))=(((if v<0 then(v+(n:Int)).toNat else min v.toNat n):Nat):Int);by_cases hv:v<0
 .simp only[if_pos hv];lia
 .simp only[if_neg hv];lia
def wY(lo hi:Option Int)(n:Nat):Builtin.Slice.sliceAdjust lo hi 1 (n:Int)=(((sIx n 0 lo:Nat):Int),((sIx n n hi:Nat):Int)):=by
 have h1:¬ ((1:Int)<0):=by lia
 unfold Builtin.Slice.sliceAdjust;simp only[h1,if_false];refine Prod.ext ?_ ?_
 .cases lo with
  |none=>rfl
  |some v=>exact qB v n 0
 .cases hi with
  |none=>rfl
  |some v=>exact qB v n n
def wZ(i j:Nat):Builtin.Slice.slicePlaces (i:Int) (j:Int) 1=j - i:=by
 unfold Builtin.Slice.slicePlaces;have h1:(1:Int)>0:=by lia
 simp only[h1,if_true,Int.ediv_one];split<;>lia
def qC{v:KB}{o:Option Int}{Q:Option Int->KM->Prop}(p:S5 v o)(h:Q o s):RS (RR prog w) A (Builtin.Slice.slicePartIndex v) Q E s:=by
 cases p with
 |none=>exact slicePart_none h
 |int i t=>exact slicePart_int h
variable{lo hi:Option Int}
def xa{sl:KF}{vl vu:KB}{n:Nat}{Q:Int × Int × Nat->KM->Prop}(hs:s.heap.IsSliceOf sl vl vu .none)(pl:S5 vl lo)(pu:S5 vu hi)
  (h:Q (((sIx n 0 lo:Nat):Int),1,sIx n n hi - sIx n 0 lo) s):RS (RR prog w) A (Builtin.Slice.sliceApplied (.ref sl) (pure (n:Int))) Q E s:=by
 obtain⟨os,D_,LC,LD⟩:=id hs;unfold Builtin.Slice.sliceApplied Builtin.Slice.sliceFields;refine Os (Os (Sq D_ LD (x:=vl) rfl (Os (Sq D_ LD (x:=vu) rfl (Os (Sq D_ LD (x:= .none) rfl (RQ ?_)))))));refine Os (slicePart_none ?_);show RS _ _ (if((1:Int)==0)=true then _ else _) _ _ s;rw[if_neg (by decide)];refine Os (qC pl (Os (qC pu (Os (RQ ?_)))));show RS _ _ (match Builtin.Slice.sliceAdjust lo hi 1 (n:Int) with|(lo,hi)=>pure (lo,(1:Int),Builtin.Slice.slicePlaces lo hi 1)) _ _ s;rw[wY lo hi n];show RS _ _ (pure (((sIx n 0 lo:Nat):Int),(1:Int),Builtin.Slice.slicePlaces ((sIx n 0 lo:Nat):Int) ((sIx n n hi:Nat):Int) 1)) _ _ s;rw[wZ];exact RQ h
def xb(xs:Array KB)(i k:Nat):((Ft k).filterMap λ(m:Nat)=>xs[((i:Int)+(m:Int)*1).toNat]?).toArray=((xs.toList.drop i).take k).toArray:=by
 have e:(λ(m:Nat)=>xs[((i:Int)+(m:Int)*1).toNat]?)=λm=>xs[i+m]?:=by
  funext m;have:((i:Int)+(m:Int)*1).toNat=i+m:=by lia
  rw[this]
 rw[e];have:=pick_run xs i k;rw[HP] at this;have e2:((λx=>xs[x]?) ∘ λx=>i+x)=λm=>xs[i+m]?:=rfl;rw[e2] at this;rw[this]
def getItem_tuple_cut{t sl:KF}{items:Array KB}{vl vu:KB}(ht:IsTup s.heap t items)(hs:s.heap.IsSliceOf sl vl vu .none)(pl:S5 vl lo)(pu:S5 vu hi)
  (hw:¬ (sIx items.size 0 lo=0/\sIx items.size items.size hi=items.size))
  (h:Q (.ref s.heap.objs.size) {s with heap:=s.heap.push {cls:= .type "tuple",data:= .seq ((items.toList.drop (sIx items.size 0 lo)).take (sIx items.size items.size hi - sIx items.size 0 lo)).toArray} })
  (g6:items.size<=sizeLine):RS (RR prog w) A (Tn (.ref t) (.ref sl)) Q E s:=by
 have g9:sizeOk (.seq ((items.toList.drop (sIx items.size 0 lo)).take (sIx items.size items.size hi - sIx items.size 0 lo)).toArray):=by
  show((items.toList.drop (sIx items.size 0 lo)).take (sIx items.size items.size hi - sIx items.size 0 lo)).toArray.size<=sizeLine;rw[FD,G0,GB,GA];lia
 have hj:sIx items.size items.size hi<=items.size:=sIx_le _ _ (Fo _) hi;obtain⟨os,D_,LC,LD⟩:=id hs;have PY:s.TypeIs (.ref sl) "slice":=⟨os,D_,LC⟩;unfold Tn
 try with_reducible refine Sj ?_
 first|refine Os (RQ ?_)|skip
 refine Os (wpAny_sequenceKey ht.typeIs (by decide) ?_);refine Os (wpAny_callSpecial?_slot (name:=Str.ofString "__getitem__") ht.typeIs PyProof.Rows.slot_tuple_getitem
  (wpAny_call_entry PyProof.Rows.slot_tuple_getitem ht.typeIs entry_tuple_getitem ?_ (args_tuple_getitem _ _)))
 show RS _ _ (Builtin.Tuple.tupleItemsOf (.ref t)>>=_) _ _ s;refine Os (tupleItemsOf_ ht ?_);refine Os (wpAny_typeOf PY ?_);rw[if_pos (by decide)];refine Os (xa hs pl pu ?_);have d6:¬ ((((sIx items.size 0 lo:Nat):Int)==0 && (1:Int)==1 && (sIx items.size items.size hi - sIx items.size 0 lo)==items.size)=true):=by
  intro q;rw[FS,FS] at q;have q1:((sIx items.size 0 lo:Nat):Int)=0:=eq_of_beq q.1.1;have q2:sIx items.size items.size hi - sIx items.size 0 lo=items.size:=eq_of_beq q.2;exact hw ⟨by lia,by lia⟩
 show RS _ _ (if(((sIx items.size 0 lo:Nat):Int)==0 && (1:Int)==1 && (sIx items.size items.size hi - sIx items.size 0 lo)==items.size)=true then _ else _) _ _ s;rw[if_neg d6,xb]
 first
  |exact Os (m:=Builtin.Tuple.tupleExact _) (R6 (RQ ⟨_,rfl,RQ h⟩) g9)
  |exact Os (m:=Builtin.Tuple.tupleExact _) (R6 (Os (RQ (RQ ⟨_,rfl,RQ h⟩))) g9)
  |exact Os (Os (m:=Builtin.Tuple.tupleExact _) (R6 (RQ (RQ ⟨_,rfl,RQ h⟩)) g9))
  |exact Os (Os (m:=Builtin.Tuple.tupleExact _) (R6 (RQ ⟨_,rfl,RQ h⟩) g9))
end
end HT
namespace L2
open PySem PySem.Spec PyProof.Rows
abbrev TO:=St->Hp->(Option Int->Hp->Prop)->Prop
def PO(X:Cx)(e:Option RP)(t:TO):Prop:=
 ∀ (pins:List (KF × R')) (s:KM) (σ:St) (H:Hp) (Q:Option Int->Hp->Prop),Inv X pins σ H s->t σ H Q->
  RS (RR X.prog X.w) X.A (evalPart e X.env) (λu s'=>∃ o H',Inv X pins σ H' s'/\S5 u o/\Q o H') X.xe s
def xc:TO:=λ_ H Q=>Q m9 H
def xg(t:TE):TO:=λσ H Q=>t σ H λx H1=>∃ i,x= .int i/\Q (be i) H1
def intsAre_of{ns:List Int}:∀ {us:List KB},Vals (ns.map V.int) us->S1 us ns:=by
 induction ns with
 |nil=>intro us r;rw[Gi] at r;cases r;exact .nil
 |cons n ns ih=>
  intro us r;rw[FB] at r;cases r with
  |cons r1 r2=>
   obtain⟨t,e⟩:=r1;subst e;exact .cons n t (ih r2)
section
variable {X:Cx}{e:RP}{te:TE}{lo hi:Option RP}{tl th:TO}{pos p2:R5}
def qD:PO X m9 xc:=by
 intro pins s σ H Q I h;rw[evalPart_none];exact RQ ⟨m9,H,I,.none,h⟩
def qE(h:PE X e te):PO X (be e) (xg te):=by
 intro pins s σ H Q I hw;rw[evalPart_some];refine thn (h pins s σ H _ I hw) λu s1 b8=>?_;obtain⟨x,H1,I1,r1,q1⟩:=b8;obtain⟨i,rfl,q⟩:=q1;obtain⟨t,rfl⟩:=r1;exact⟨be i,H1,I1,.int i t,q⟩
def SlR(X:Cx)(r:V->Option Int->Option Int->Hp->VK->Prop):Prop:=
 ∀ (pins:List (KF × R')) (s:KM) (σ:St) (H:Hp) (x:V) (v vl vu:KB) (lo hi:Option Int) (sl:KF) (Q:VK),Inv X pins σ H s->RelV x v->s.heap.IsSliceOf sl vl vu .none->S5 vl lo->S5 vu hi->r x lo hi H Q->
  ∃ T id,typeLookup (.type T) "__getitem__"=pure (be (.builtin id))/\s.TypeIs v T/\RS (RR X.prog X.w) X.A (Tn v (.ref sl)) (EP X pins σ Q) X.xe s
variable{r:V->Option Int->Option Int->Hp->VK->Prop}
def SlR.or{r':V->Option Int->Option Int->Hp->VK->Prop}(h:SlR X r)(h':SlR X r'):SlR X (λx lo hi H Q=>r x lo hi H Q\/r' x lo hi H Q):=by
 intro pins s σ H x v vl vu lo hi sl Q I rx hs pl pu q;rcases q with q|q
 .exact h pins s σ H x v vl vu lo hi sl Q I rx hs pl pu q
 .exact h' pins s σ H x v vl vu lo hi sl Q I rx hs pl pu q
def tSl(r:V->Option Int->Option Int->Hp->VK->Prop)(te:TE)(tl th:TO):TE:=λσ H Q=>te σ H λx H1=>tl σ H1 λl H2=>th σ H2 λu H3=>r x l u H3 Q
def qF(hr:SlR X r)(he:PE X e te)(hl:PO X lo tl)(hu:PO X hi th):PE X (.Subscript e (.Slice lo hi m9 p2) pos) (tSl r te tl th):=by
 intro pins s σ H Q I h;refine Subscript_ (thn (he pins s σ H _ I h) λv s1 b8=>?_);obtain⟨x,H1,I1,r1,q1⟩:=b8;refine wpAny_Slice (thn (hl pins s1 σ H1 _ I1 q1) λvl s2 ⟨l,H2,I2,pl,q2⟩=>thn (hu pins s2 σ H2 _ I2 q2) λvu s3 b8=>?_);obtain⟨u,H3,I3,pu,q3⟩:=b8;rw[evalPart_none];refine RQ ?_;have I4:Inv X pins σ H3 {s3 with heap:=s3.heap.push {cls:= .type "slice",data:= .fields #[vl,vu,.none]} }:=I3.kept (t':=s3.toks) λb ob q=>Heap.get?_push_of_some _ q;obtain⟨T,id,hT,ht,hg⟩:=hr pins {s3 with heap:=s3.heap.push {cls:= .type "slice",data:= .fields #[vl,vu,.none]} } σ H3 x v vl vu l u s3.heap.objs.size Q I4 r1 (Heap.IsSliceOf.new ..) pl pu q3;show RS (RR X.prog X.w) X.A (subscriptTail e (.Slice lo hi m9 p2) v (.ref s3.heap.objs.size)) (EP X pins σ Q) X.xe {s3 with heap:=s3.heap.push {cls:= .type "slice",data:= .fields #[vl,vu,.none]} };exact tail_any (ops:=[.ref s3.heap.objs.size,v]) ht hT hg (by with_unfolding_all rfl)
def cutV(xs:List V)(lo hi:Option Int):List V:=(xs.drop (HT.sIx xs.length 0 lo)).take (HT.sIx xs.length xs.length hi - HT.sIx xs.length 0 lo)
def qG(xs:List V)(lo hi:Option Int):(cutV xs lo hi).length<=xs.length:=by
 unfold cutV;rw[G0,GB];lia
def rSlT(K:Ex):V->Option Int->Option Int->Hp->VK->Prop:=λx lo hi H Q=>∃ a xs,x= .ref a/\SqT K H a xs/\
 ¬ (HT.sIx xs.length 0 lo=0/\HT.sIx xs.length xs.length hi=xs.length)/\∀ p,H p=m9->Q (.ref p) (upd H p (.tup (cutV xs lo hi)))
def xh:SlR X (rSlT X.K):=by
 intro pins s σ H x v vl vu lo hi sl Q I rx hs pl pu h;obtain⟨a,xs,rfl,hx,hw,q⟩:=h;cases rx;obtain⟨its,r,ht,hz⟩:=I.tuple hx;have a_:its.toArray.size=xs.length:=by rw[FD];exact r.length.symm
 refine⟨"tuple",_,PyProof.Rows.slot_tuple_getitem.lookup,ht.typeIs,?_⟩;refine HT.getItem_tuple_cut ht hs pl pu (by rw[a_];exact hw) ?_ (by rw[a_];exact hz);rw[a_];refine⟨.ref s.heap.objs.size,_,I.laid (t':=s.toks) (o:= .tup (cutV xs lo hi)) (λb ob q=>Heap.get?_push_of_some _ q) (Fo _) ?_,rfl,q _ (I.hok.fresh (Fo _))⟩;exact⟨FA (qG xs lo hi) hz,_,(r.drop (HT.sIx xs.length 0 lo)).take (HT.sIx xs.length xs.length hi - HT.sIx xs.length 0 lo),IsTup.new _ _⟩
def qH(K:Ex):R2:=λx y H Q=>∃ a b xs ys,x= .ref a/\y= .ref b/\SqT K H a xs/\SqT K H b ys/\xs≠[]/\xs.length+ys.length<=sizeLine/\
 (ys=[]->Q (.ref a) H)/\(ys≠[]->∀ p,H p=m9->Q (.ref p) (upd H p (.tup (xs++ys))))
def Vals.nil_iff{xs:List V}{us:List KB}(r:Vals xs us):us=[]↔xs=[]:=by
 cases r with
 |nil=>simp
 |cons _ _=>simp
def xi:OpR X (Sd .Add) (qH X.K):=by
 intro pins s σ H x y v u Q I rx ry h;obtain⟨a,b,xs,ys,rfl,rfl,ha,hb,hx,hz,q1,q2⟩:=h;cases rx;cases ry;obtain⟨its,r1,p1,_⟩:=I.tuple ha;obtain⟨m4,r2,p2,_⟩:=I.tuple hb;refine HT.cat_tup p1 p2 (λz=>hx (r1.nil_iff.mp z)) (λz=>⟨.ref a,H,I,rfl,q1 (r2.nil_iff.mp z)⟩) (λz=>?_) (by rw[<- r1.length,<- r2.length];exact hz);refine⟨.ref s.heap.objs.size,_,I.laid (t':=s.toks) (o:= .tup (xs++ys)) (λb ob q=>Heap.get?_push_of_some _ q) (Fo _) ?_,rfl,q2 (λw=>z (r2.nil_iff.mpr w)) _ (I.hok.fresh (Fo _))⟩;exact⟨by rw[Fx];exact hz,_,r1.append r2,IsTup.new _ _⟩
end
def ixN(n:Nat)(i:Int):Option Nat:=if 0<=i then(if i<n then be i.toNat else m9) else if -(n:Int)<=i then be (i+n).toNat else m9
def atI{α:Type}(xs:List α)(i:Int):Option α:=(ixN xs.length i).bind λj=>xs[j]?
def qI{n:Nat}{i:Int}{j:Nat}(h:ixN n i=be j):seqIndex? i n=be j/\j<n/\-(n:Int)<=i/\i<n:=by
 unfold ixN at h;by_cases h0:0<=i
 .rw[if_pos h0] at h;by_cases h1:i<n
  .rw[if_pos h1] at h;have e:i.toNat=j:=Option.some.inj h;exact⟨by rw[Ts h0 h1,e],by lia,by lia,h1⟩
  .rw[if_neg h1] at h;cases h
 .rw[if_neg h0] at h;by_cases h1: -(n:Int)<=i
  .rw[if_pos h1] at h;have e:(i+n).toNat=j:=Option.some.inj h;exact⟨by rw[Th (by lia) h1,e],by lia,h1,by lia⟩
  .rw[if_neg h1] at h;cases h
def atI_get{α:Type}{xs:List α}{i:Int}{v:α}(h:atI xs i=be v):∃ j,seqIndex? i xs.length=be j/\xs[j]?=be v/\j<xs.length/\-(xs.length:Int)<=i/\i<xs.length:=by
 unfold atI at h;cases e:ixN xs.length i with
 |none=>rw[e] at h;cases h
 |some j=>
  rw[e] at h;obtain⟨h1,h2,h3,h4⟩:=qI e;exact⟨j,h1,h,h2,h3,h4⟩
def bZ{α:Type}{xs:List α}{j:Nat}{v:α}(h:xs[j]?=be v):atI xs (j:Int)=be v:=by
 have hj:j<xs.length:=(FG.mp h).1;have e:ixN xs.length (j:Int)=be j:=by
  unfold ixN;rw[if_pos (by lia),if_pos (by lia)];simp
 unfold atI;rw[e];exact h
def dY(b:RP):Prop:=∀ o i,subscripted b false o i=operate [o,i] (Tn o i)
def IxR(X:Cx)(r:R2):Prop:=
 ∀ (value slice:RP) (pins:List (KF × R')) (s:KM) (σ:St) (H:Hp) (x y:V) (v u:KB) (Q:VK),Inv X pins σ H s->RelV x v->RelV y u->r x y H Q->
  subscripted slice false v u=operate [v,u] (Tn v u)->RS (RR X.prog X.w) X.A (subscriptTail value slice v u) (EP X pins σ Q) X.xe s
def MtR(X:Cx)(id:String)(r:V->List V->Hp->VK->Prop):Prop:=
 ∀ (pins:List (KF × R')) (s:KM) (σ:St) (H:Hp) (x:V) (xs:List V) (v:KB) (us:List KB) (Q:VK),Inv X pins σ H s->RelV x v->Vals xs us->r x xs H Q->
  RS (RR X.prog X.w) X.A (call (.builtin id) (v::us)) (EP X pins σ Q) X.xe s
section
variable {X:Cx}{a b:RP}{ta tb:TE}{pos:R5}
def IxR.or{r r':R2}(h:IxR X r)(h':IxR X r'):IxR X (λx y H Q=>r x y H Q\/r' x y H Q):=by
 intro value slice pins s σ H x y v u Q I rx ry q hs;rcases q with q|q
 .exact h value slice pins s σ H x y v u Q I rx ry q hs
 .exact h' value slice pins s σ H x y v u Q I rx ry q hs
def pe_ix{r:R2}(hr:IxR X r)(ha:PE X a ta)(hb:PE X b tb)(hs:dY b):PE X (.Subscript a b pos) (tOp r ta tb):=by
 intro pins s σ H Q I h;exact Subscript_ (binT ha hb I h λv u s2 x y H2 I2 rx ry q=>hr a b pins s2 σ H2 x y v u Q I2 rx ry q (hs _ _))
def rIxL(K:Ex):R2:=λx y H Q=>∃ p xs i v,x= .ref p/\y= .int i/\SqL K H p xs/\atI xs i=be v/\Q v H
def rIxT(K:Ex):R2:=λx y H Q=>∃ p xs i v,x= .ref p/\y= .int i/\SqT K H p xs/\atI xs i=be v/\Q v H
def rIxS:R2:=λx y H Q=>∃ z i c,x= .str z/\y= .int i/\z.length<=sizeLine/\atI z.cps.toList i=be c/\Q (.str ⟨#[c]⟩) H
def ix_list:IxR X (rIxL X.K):=by
 intro value slice pins s σ H x y v u Q I rx ry h hs;obtain⟨p,xs,i,z,rfl,rfl,hq,he,q⟩:=h;cases rx;obtain⟨t,rfl⟩:=ry;obtain⟨its,r,pl,hz⟩:=I.list hq;obtain⟨j,h1,h2,h3,h4,h5⟩:=atI_get he;obtain⟨w,ew,i9⟩:=r.get h2;have hl:=r.length;have hn:=line63;have c_:EP X pins σ Q w s:=⟨z,H,I,i9,q⟩;by_cases h0:0<=i
 .have hj:i.toNat=j:=by
   rw[Ts h0 h5] at h1;exact Option.some.inj h1
  exact item_listR pl.isList h0 (by lia) (by rw[hj];simpa using ew) c_ hs
 .have hj:(i+(its.toArray.size:Int)).toNat=j:=by
   rw[Th (by lia) h4] at h1;rw[FD,<- hl];exact Option.some.inj h1
  exact Tg (x:=w) pl.isList.typeIs slot_list_getitem.lookup
   (wpAny_getItem_list_neg (Q:=λr s'=>r=w/\EP X pins σ Q r s') pl.isList (by lia) (by rw[FD]<;>lia) (by lia) (by rw[hj];simpa using ew) ⟨rfl,c_⟩) hs
def ix_tup:IxR X (rIxT X.K):=by
 intro value slice pins s σ H x y v u Q I rx ry h hs;obtain⟨p,xs,i,z,rfl,rfl,hq,he,q⟩:=h;cases rx;obtain⟨t,rfl⟩:=ry;obtain⟨its,r,pl,hz⟩:=I.tuple hq;obtain⟨j,h1,h2,h3,h4,h5⟩:=atI_get he;obtain⟨w,ew,i9⟩:=r.get h2;have hl:=r.length;have hn:=line63;have c_:EP X pins σ Q w s:=⟨z,H,I,i9,q⟩;exact Tg (x:=w) pl.typeIs slot_tuple_getitem.lookup
  (getItem_tuple (j:=j) (Q:=λr s'=>r=w/\EP X pins σ Q r s') pl (by lia) (by lia) (by rw[FD,<- hl];exact h1) (by simpa using ew) ⟨rfl,c_⟩) hs
def xj:IxR X rIxS:=by
 intro value slice pins s σ H x y v u Q I rx ry h hs;obtain⟨z,i,c,rfl,rfl,hz,he,q⟩:=h;obtain⟨t,rfl⟩:=rx;obtain⟨t',rfl⟩:=ry;obtain⟨j,h1,h2,h3,h4,h5⟩:=atI_get he;have hl:z.cps.toList.length=z.length:=by simp[Str.length]
 rw[hl] at h1 h4 h5;have hn:=line63;exact tail_any (TJ s z t) slot_str_getitem.lookup (getItem_str (c:=c) (by
  have e1:decide (i< -(2 ^ 63:Int))=false:=decide_eq_false (by lia);have e2:decide (i >= 2 ^ 63)=false:=decide_eq_false (by lia);rw[e1,e2,Bool.or_false]) (by rw[h1];simpa using h2) ⟨.str ⟨#[c]⟩,H,I.tok _,⟨_,rfl⟩,q⟩) hs
def rIx(K:Ex):R2:=λx y H Q=>rIxL K x y H Q\/rIxT K x y H Q\/rIxS x y H Q
def qJ:IxR X (rIx X.K):=ix_list.or (ix_tup.or xj)
def xk(its:List KB)(n j:Nat)(u:KB):Obj.mapSeq (·.setIfInBounds j u) {cls:= .type "list",data:= .seq its.toArray n}={cls:= .type "list",data:= .seq (its.set j u).toArray n}:=by
 simp[Obj.mapSeq]
def Inv.lst{pins:List (KF × R')}{σ:St}{H:Hp}{s:KM}{p:KF}{xs:List V}(I:Inv X pins σ H s)(h:H p=be (.lst xs)):
  ∃ (its:List KB) (n:Nat),Vals xs its/\s.heap.get? p=be {cls:= .type "list",data:= .seq its.toArray n}/\xs.length<=sizeLine:=by
 obtain⟨z,its,n,r,e⟩:=I.hok p _ h;exact⟨its,n,r,e,z⟩
variable{pins:List (KF × R')}{s:KM}
def Inv.lstUpd{σ:St}{H:Hp}{p:KF}{xs ys:List V}{its its':List KB}{n n':Nat}{f:R'->R'}(I:Inv X pins σ H s)(h:H p=be (.lst xs))
  (ho:s.heap.get? p=be {cls:= .type "list",data:= .seq its.toArray n}) (hf:f {cls:= .type "list",data:= .seq its.toArray n}={cls:= .type "list",data:= .seq its'.toArray n'}) (r:Vals ys its') (hz:ys.length<=sizeLine) (t:Nat):
  Inv X pins σ (upd H p (.lst ys)) {s with heap:=s.heap.update p f,toks:=t}:=by
 have e:(s.heap.update p f).get? p=be {cls:= .type "list",data:= .seq its'.toArray n'}:=by
  rw[Heap.get?_update_self f ho (by rw[hf]<;>rfl),hf]
 refine I.write (x:=p) (e:=p) (by rw[h];trivial) (.inl rfl) (λb u hb q=>(Heap.get?_update_other _ _ (Ne.symm hb)).trans q) ⟨_,e⟩ ?_;exact⟨hz,its',n',r,e⟩
def xm:V->V->V->Hp->(Hp->Prop)->Prop:=λo i v H Q=>∃ p xs k j,o= .ref p/\i= .int k/\H p=be (.lst xs)/\ixN xs.length k=be j/\Q (upd H p (.lst (xs.set j v)))
def xn:PSet X xm:=by
 intro pins s σ H o i v ov iv u Q I ro ri rv h;obtain⟨p,xs,k,j,rfl,rfl,hp,hj,q⟩:=h;cases ro;obtain⟨t,rfl⟩:=ri;obtain⟨its,n,r,ho,hz⟩:=I.lst hp;obtain⟨h1,h2,h3,h4⟩:=qI hj;have hl:=r.length;have hn:=line63;have I':Inv X pins σ (upd H p (.lst (xs.set j v))) {s with heap:=s.heap.update p (Obj.mapSeq (·.setIfInBounds j u))}:=
  I.lstUpd hp ho (xk its n j u) (r.set rv j) (by rw[Gj];exact hz) s.toks
 by_cases h0:0<=k
 .have hk:k.toNat=j:=by
   rw[Ts h0 h4] at h1;exact Option.some.inj h1
  exact ki_setAt ho h0 (by lia) (by rw[FD,<- hl];exact h4) (by rw[hk];exact⟨_,I',q⟩)
 .have hk:(k+(its.toArray.size:Int)).toNat=j:=by
   rw[Th (by lia) h3] at h1;rw[FD,<- hl];exact Option.some.inj h1
  exact ki_setBack ho (by lia) (by rw[FD,<- hl];exact h3) (by lia) (by rw[hk];exact⟨_,I',q⟩)
def xo(lo hi:Option Int)(n:Nat):(Sr lo hi m9 n).1=((HT.sIx n 0 lo:Nat):Int)/\(Sr lo hi m9 n).2.1=((HT.sIx n n hi:Nat):Int)/\(Sr lo hi m9 n).2.2=1:=by
 refine⟨?_,?_,rfl⟩
 .cases lo with
  |none=>simp[Sr,HT.sIx]
  |some i=>
   simp only[Sr,HT.sIx,HQ,show(1:Int)>0 by decide,if_true];by_cases h:i<0
   .simp only[h,if_true]<;>lia
   .simp only[h,if_false]<;>lia
 .cases hi with
  |none=>simp[Sr,HT.sIx]
  |some i=>
   simp only[Sr,HT.sIx,HQ,show(1:Int)>0 by decide,if_true];by_cases h:i<0
   .simp only[h,if_true]<;>lia
   .simp only[h,if_false]<;>lia
def xp(its:List KB)(lo hi:Option Int):slicePick its.toArray lo hi m9=((its.drop (HT.sIx its.length 0 lo)).take (HT.sIx its.length its.length hi - HT.sIx its.length 0 lo)).toArray:=by
 obtain⟨h1,h2,h3⟩:=xo lo hi its.toArray.size;unfold slicePick;rw[h1,h2,h3];simp only[sliceRange_one,pick_run,FD]<;>rfl
def rSlL(K:Ex):V->Option Int->Option Int->Hp->VK->Prop:=λx lo hi H Q=>∃ a xs,x= .ref a/\SqL K H a xs/\∀ p,H p=m9->Q (.ref p) (upd H p (.lst (cutV xs lo hi)))
def qK:SlR X (rSlL X.K):=by
 intro pins s σ H x v vl vu lo hi sl Q I rx hs pl pu h;obtain⟨a,xs,rfl,hx,q⟩:=h;cases rx;obtain⟨its,r,ht,hz⟩:=I.list hx;have a_:=r.length;refine⟨"list",_,slot_list_getitem.lookup,ht.isList.typeIs,?_⟩;refine wpAny_getItem_list_slice ht.isList hs pl pu .none (by simp) ?_ (by rw[FD]<;>lia);rw[xp,<- a_];refine⟨.ref s.heap.objs.size,_,I.laid (t':=s.toks) (o:= .lst (cutV xs lo hi)) (λb ob q=>Heap.get?_push_of_some _ q) (Fo _) ?_,rfl,q _ (I.hok.fresh (Fo _))⟩;exact⟨FA (qG xs lo hi) hz,_,0,(r.drop (HT.sIx xs.length 0 lo)).take (HT.sIx xs.length xs.length hi - HT.sIx xs.length 0 lo),Heap.get?_push_size _ rfl⟩
def bR:V->Bool
 | .non=>true
 | .bl _=>true
 | .int _=>true
 | .str _=>true
 |_=>false
def eqV:V->V->Bool
 | .non,.non=>true
 | .bl a,.bl b=>a==b
 | .bl a,.int b=>(if a then 1 else 0)==b
 | .int a,.bl b=>a==(if b then 1 else 0)
 | .int a,.int b=>a==b
 | .str a,.str b=>a==b
 |_,_=>false
variable{x:V}
def eqAt_V{A:RU}{y:V}{u v:KB}(ry:RelV y u)(rx:RelV x v)(fy:bR y=true)(fx:bR x=true):SeqAt.EqAt A s u v (eqV y x):=by
 cases y with
 |non=>
  cases ry;cases x with
  |non=>cases rx;exact SeqAt.EqAt.same _
  |bl b=>cases rx;exact SeqAt.EqAt.none_bool b
  |int b=>obtain⟨t,rfl⟩:=rx;exact SeqAt.EqAt.none_int b t
  |str b=>obtain⟨t,rfl⟩:=rx;exact SeqAt.EqAt.none_str b t
  |_=>exact absurd (show false=true from fx) Fz
 |bl a=>
  cases ry;cases x with
  |non=>cases rx;exact SeqAt.EqAt.bool_none a
  |bl b=>cases rx;exact SeqAt.EqAt.bool_bool a b
  |int b=>obtain⟨t,rfl⟩:=rx;exact SeqAt.EqAt.bool_int a b t
  |str b=>obtain⟨t,rfl⟩:=rx;exact SeqAt.EqAt.bool_str a b t
  |_=>exact absurd (show false=true from fx) Fz
 |int a=>
  obtain⟨t',rfl⟩:=ry;cases x with
  |non=>cases rx;exact SeqAt.EqAt.int_none a t'
  |bl b=>cases rx;exact SeqAt.EqAt.int_bool a t' b
  |int b=>obtain⟨t,rfl⟩:=rx;exact SeqAt.EqAt.int_int a t' b t
  |str b=>obtain⟨t,rfl⟩:=rx;exact SeqAt.EqAt.int_str a t' b t
  |_=>exact absurd (show false=true from fx) Fz
 |str a=>
  obtain⟨t',rfl⟩:=ry;cases x with
  |non=>cases rx;exact SeqAt.EqAt.str_none a t'
  |bl b=>cases rx;exact SeqAt.EqAt.str_bool a t' b
  |int b=>obtain⟨t,rfl⟩:=rx;exact SeqAt.EqAt.str_int a t' b t
  |str b=>obtain⟨t,rfl⟩:=rx;exact SeqAt.EqAt.str_str a t' b t
  |_=>exact absurd (show false=true from fx) Fz
 |_=>exact absurd (show false=true from fy) Fz
def eqU(x:V)(u:KB):Bool:=match u with
 | .none=>eqV .non x
 | .bool b=>eqV (.bl b) x
 | .int i _=>eqV (.int i) x
 | .str z _=>eqV (.str z) x
 |_=>false
def qL{y:V}{u:KB}(r:RelV y u)(f:bR y=true):eqU x u=eqV y x:=by
 cases y with
 |non=>cases r;rfl
 |bl b=>cases r;rfl
 |int i=>obtain⟨t,rfl⟩:=r;rfl
 |str z=>obtain⟨t,rfl⟩:=r;rfl
 |_=>exact absurd (show false=true from f) Fz
def jE{x:V}:∀ {xs:List V} {us:List KB},Vals xs us->xs.all bR=true->us.any (eqU x)=xs.any λy=>eqV y x
 |_,_,.nil,_=>rfl
 |y::xs,u::us,.cons r t,f=>by
  rw[GK,FS] at f;rw[GC,GC,qL r f.1,jE t f.2]
def mem_eqAt{A:RU}{s:KM}{x:V}{v:KB}(rx:RelV x v)(fx:bR x=true):∀ {xs:List V} {us:List KB},Vals xs us->xs.all bR=true->∀ u∈us,SeqAt.EqAt A s u v (eqU x u)
 |_,_,.nil,_=>λu hu=>by cases hu
 |y::xs,u::us,.cons r t,f=>λu' hu=>by
  rw[GK,FS] at f;rcases Fp.mp hu with rfl|hu
  .rw[qL r f.1];exact eqAt_V r rx f.1 fx
  .exact mem_eqAt rx fx t f.2 u' hu
def inV(x:V)(xs:List V):Bool:=xs.any λy=>eqV y x
def rIn(K:Ex)(neg:Bool):R2:=λx y H Q=>∃ p xs,y= .ref p/\(SqL K H p xs\/SqT K H p xs)/\bR x=true/\xs.all bR=true/\Q (.bl (if neg then !inV x xs else inV x xs)) H
def xq:OpR X (R9 .NotIn) (rIn X.K true):=by
 intro pins s σ H x y v u Q I rx ry h;obtain⟨p,xs,rfl,hq,fx,fs,q⟩:=h;cases ry;rcases hq with hq|hq
 .obtain⟨its,r,pl,hz⟩:=I.list hq;refine SeqAt.notIn_listAt (eqU x) pl.isList (λw hw=>mem_eqAt rx fx r fs w (by simpa using hw)) ⟨.bl _,H,I,rfl,?_⟩;rw[show its.toArray.any (eqU x)=its.any (eqU x) by simp,jE r fs];exact q
 .obtain⟨its,r,pl,hz⟩:=I.tuple hq;refine SeqAt.notIn_tupleAt (eqU x) pl (λw hw=>mem_eqAt rx fx r fs w (by simpa using hw)) ⟨.bl _,H,I,rfl,?_⟩;rw[show its.toArray.any (eqU x)=its.any (eqU x) by simp,jE r fs];exact q
def xr:OpR X (R9 .NotIn) (λx y H Q=>∃ i j,x= .str i/\y= .str j/\Q (.bl (!(!(Builtin.Str.occurrences j i 0 j.length 1).isEmpty))) H):=by
 intro pins s σ H x y v u Q I rx ry h;obtain⟨i,j,rfl,rfl,q⟩:=h;obtain⟨t,rfl⟩:=rx;obtain⟨t',rfl⟩:=ry;exact notIn_str ⟨.bl _,H,I,rfl,q⟩
def qM:bE X (.type "list") (λxs H Q=>∃ p ys,xs=[.ref p]/\(SqL X.K H p ys\/SqT X.K H p ys)/\∀ l,H l=m9->Q (.ref l) (upd H l (.lst ys))):=by
 intro pins s σ H xs us Q I r h;obtain⟨p,ys,rfl,hq,q⟩:=h;obtain⟨u,rfl,rx⟩:=bY r;cases rx;have c_:∀ (its:List KB),Vals ys its->ys.length<=sizeLine->∀ (h':Heap) (c':Nat),(∀ b o',s.heap.get? b=be o'->h'.get? b=be o')->
   h'.get? s.heap.objs.size=be {cls:= .type "list",dict:=m9,data:= .seq its.toArray c',slots:=#[]}->EP X pins σ Q (.ref s.heap.objs.size) {s with heap:=h'}:=λits r' hz h' c' kp e=>
  ⟨.ref s.heap.objs.size,_,I.laid (t':=s.toks) kp (Fo _) (show ObjOk X.prog X.w _ h' _ (.lst ys) from⟨hz,its,c',r',e⟩),rfl,q _ (I.hok.fresh (Fo _))⟩
 rcases hq with hq|hq
 .obtain⟨its,r',pl,hz⟩:=I.list hq;have a_:=r'.length;obtain⟨o,ho,hc,n,hd⟩:=pl.isList;exact call_list_seq p (.inl rfl) ho hc hd (λh' c' kp e=>c_ its r' hz h' c' kp e) (by simp only[FD]<;>lia)
 .obtain⟨its,r',pl,hz⟩:=I.tuple hq;have a_:=r'.length;obtain⟨o,ho,hc,n,hd⟩:=pl;exact call_list_seq p (.inr rfl) ho hc hd (λh' c' kp e=>c_ its r' hz h' c' kp e) (by simp only[FD]<;>lia)
def tyV(K:Ex)(T:String)(x:V)(H:Hp):Prop:=match x with
 | .str _=>T="str"
 | .int _=>T="int"
 | .ref p=>(T="list"/\∃ xs,SqL K H p xs)\/(T="tuple"/\∃ o,K.lookup p=be o/\o.cls= .type "tuple"/\o.dict=m9)\/
   (T="dict"/\((∃ a8,H p=be (.dK a8))\/∃ a8,H p=be (.dT a8)))\/(T="set"/\∃ S n,H p=be (.set S n))
 |_=>False
def xt{σ:St}{H:Hp}{T:String}{v:KB}(I:Inv X pins σ H s)(r:RelV x v)(ty:tyV X.K T x H):
  s.TypeIs v T/\∀ a,v= .ref a->∃ ob,s.heap.get? a=be ob/\ob.dict=none:=by
 cases x with
 |str z=>
  obtain⟨t,rfl⟩:=r;cases(show T="str" from ty);exact⟨TJ s z t,λ_ e=>nomatch e⟩
 |int i=>
  obtain⟨t,rfl⟩:=r;cases(show T="int" from ty);exact⟨typeIs_int s i t,λ_ e=>nomatch e⟩
 |ref p=>
  cases r;rcases ty with⟨rfl,xs,hq⟩|⟨rfl,o,hk,hc,hd⟩|⟨rfl,hk⟩|⟨rfl,S,n,hk⟩
  .obtain⟨its,_,pl,_⟩:=I.list hq;refine⟨pl.isList.typeIs,λa e=>?_⟩;cases e;obtain⟨o,n,e,c,hd,_⟩:=pl;exact⟨o,e,hd⟩
  .refine⟨⟨o,I.kIn p o hk,hc⟩,λa e=>?_⟩;cases e;exact⟨o,I.kIn _ o hk,hd⟩
  .have z:∃ o,s.heap.get? p=be o/\o.ExactDict:=by
    rcases hk with⟨a8,hk⟩|⟨a8,hk⟩
    .obtain⟨_,_,_,_,o,_,_,e,ex,_⟩:=I.hok p _ hk;exact⟨o,e,ex⟩
    .obtain⟨_,_,_,_,o,_,_,e,ex,_⟩:=I.hok p _ hk;exact⟨o,e,ex⟩
   obtain⟨o,e,ex⟩:=z;refine⟨⟨o,e,ex.1⟩,λa e2=>?_⟩;cases e2;exact⟨o,e,ex.2.1⟩
  .obtain⟨o,_,_,_,e,ex,_⟩:=I.hok p _ hk;refine⟨⟨o,e,ex.1⟩,λa e2=>?_⟩;cases e2;exact⟨o,e,ex.2.1⟩
 |_=>exact False.elim ty
def tBM(K:Ex)(T:String)(r:V->List V->Hp->VK->Prop)(to:TE)(t:TA):TE:=λσ H Q=>to σ H λx H1=>tyV K T x H1/\t σ H1 λxs H2=>r x xs H2 Q
variable {o e:RP}{es:List RP}{to:TE}{t:TA}{name:D'}{apos cpos:R5}{T id:String}{r:V->List V->Hp->VK->Prop}
def dZ(pa:PlainAttrs T)(slot:Slot T name id)(Mi:typeOf (.builtin id)=pure (.type "method_descriptor"))(hm:MtR X id r)(ho:PE X o to)(ha:PA X (e::es) t)
  (b9:autoParam (RZ o name X.env (R1 o X.env)=R1 o X.env) zA0)
  (d_:((Sw cpos (RV (e::es) X.env)).all (λx=>!x.1) && (SV cpos (Ss [] X.env)).all (λx=>x.1.isSome)
   && decide ((e::es).length+([]:List SX).length+(if([]:List SX).isEmpty then 0 else 1)<30))=true:=by rfl)
  (c9:autoParam ((apos.endLine==cpos.line)=true) zA0) (hs:autoParam (zSE X e es) zA0) (n6:autoParam (zPL X cpos es) zA0):
  PE X (.Call (.Attribute o name apos) (e::es) [] cpos) (tBM X.K T r to t):=by
 intro pins s σ H Q I h;refine wpAny_Call_method_late b9 d_ c9 rfl (thn (ho pins s σ H _ I h) λv s1 b8=>?_);obtain⟨x,H1,I1,r1,ty,q1⟩:=b8;obtain⟨h1,h2⟩:=xt I1 r1 ty;refine⟨T,id,pa,slot,Mi,h1,h2,?_⟩;have hA:=ha cpos pins s1 σ H1 _ I1 q1;rw[hs] at hA ⊢;refine Calls.callWith_builtin (by show(false||(Sw cpos (RV es X.env)).any (·.1))=false;rw[n6]<;>rfl) (Calls.evalArgs_plain ?_);exact thn hA λus s2 ⟨vs,H2,I2,r2,q2⟩=>hm pins s2 σ H2 x vs v us Q I2 r1 r2 q2
end
def MtM(X:Cx)(id:String)(r:V->List V->Hp->VK->Prop):Prop:=
 ∀ (pins:List (KF × R')) (s:KM) (σ:St) (H:Hp) (x:V) (xs:List V) (v:KB) (us:List KB) (Q:VK),Inv X pins σ H s->RelV x v->Vals xs us->r x xs H Q->
  RS (RR X.prog X.w) X.A (call (.builtin id) (v::us)) (EP X pins σ Q) X.xe s
def Vals.one:∀ {x:V} {us:List KB},Vals [x] us->∃ u,us=[u]/\RelV x u:=by
 intro x us h;cases h with
 |cons r h=>cases h;exact⟨_,rfl,r⟩
def Vals.two:∀ {x y:V} {us:List KB},Vals [x,y] us->∃ u v,us=[u,v]/\RelV x u/\RelV y v:=by
 intro x y us h;cases h with
 |cons r h=>
  obtain⟨u,rfl,q⟩:=Vals.one h;exact⟨_,_,rfl,r,q⟩
def Vals.zero:∀ {us:List KB},Vals [] us->us=[]
 |_,.nil=>rfl
def Vals.dropLast{xs:List V}{us:List KB}(h:Vals xs us):Vals xs.dropLast us.dropLast:=by
 induction h with
 |nil=>exact .nil
 |cons r t ih=>
  cases t with
  |nil=>exact .nil
  |cons q t'=>exact .cons r ih
section
variable {X:Cx}{pins:List (KF × R')}{σ:St}{H:Hp}{s:KM}{l b:KF}{xs ys zs:List V}
variable{its:List KB}
def Inv.lset{its':List KB}{n:Nat}{f:Array KB->Array KB}{t':Nat}(I:Inv X pins σ H s)(hH:H l=be (.lst xs))
  (e:s.heap.get? l=be {cls:= .type "list",data:= .seq its.toArray n}) (hf:f its.toArray=its'.toArray) (hv:Vals ys its') (hz:ys.length<=sizeLine):
  Inv X pins σ (upd H l (.lst ys)) {s with heap:=s.heap.update l (Obj.mapSeq f),toks:=t'}:=by
 have q:=PySem.IsL.update e f;rw[hf] at q;refine I.write (x:=l) (e:=l) (by rw[hH];exact trivial) (.inl rfl) (λb' u hb hu=>(Heap.get?_update_other s.heap (Obj.mapSeq f) (Ne.symm hb)).trans hu) ⟨_,q⟩ ?_;exact⟨hz,its',_,hv,q⟩
def Inv.lnew{t':Nat}(I:Inv X pins σ H s)(hv:Vals ys its)(hz:ys.length<=sizeLine):
  Inv X pins σ (upd H s.heap.objs.size (.lst ys)) {s with heap:=s.heap.push {cls:= .type "list",data:= .seq its.toArray},toks:=t'}:=
 I.laid (λ_ _ q=>Heap.get?_push_of_some _ q) (Fo _) ⟨hz,its,0,hv,Heap.get?_push_size _ rfl⟩
def Inv.fresh(I:Inv X pins σ H s):H s.heap.objs.size=none:=I.hok.fresh (Fo _)
def Inv.lstM(I:Inv X pins σ H s)(hH:H l=be (.lst xs)):xs.length<=sizeLine/\∃ (its:List KB) (n:Nat),Vals xs its/\xs.length=its.length/\s.heap.get? l=be {cls:= .type "list",data:= .seq its.toArray n}:=by
 obtain⟨z,its,n,r,e⟩:=I.hok l _ hH;exact⟨z,its,n,r,r.length,e⟩
def xu{n:Nat}(h:n<=sizeLine):Builtin.List.listTooLong n=false:=by
 unfold Builtin.List.listTooLong;exact decide_eq_false (by lia)
end
section
variable {X:Cx}
def xx:V->List V->Hp->VK->Prop:=λx vs H Q=>∃ l xs y,x= .ref l/\vs=[y]/\H l=be (.lst xs)/\xs.length<sizeLine/\Q .non (upd H l (.lst (xs++[y])))
def gz:MtM X "list.append" xx:=by
 intro pins s σ H x vs v us Q I rx rv h;obtain⟨l,xs,y,rfl,rfl,hH,hz,q⟩:=h;cases rx;obtain⟨u,rfl,ru⟩:=rv.one;obtain⟨z,its,n,r,hl,e⟩:=I.lstM hH;refine call_meets F.slot_list_append ⟨_,e,rfl⟩ F.entry_list_append (F.args_list_append_2 _ _) (PySem.list_append l its.toArray n u (by rw[FD];lia)) ⟨e,?_⟩;refine⟨.non,_,I.lset (its':=its++[u]) hH e (by simp) (r.append (.cons ru .nil)) ?_,rfl,q⟩;rw[Fx,List.length_singleton];lia
def xy:V->List V->Hp->VK->Prop:=λx vs H Q=>∃ l b xs zs,x= .ref l/\vs=[.ref b]/\H l=be (.lst xs)/\H b=be (.lst zs)/\xs.length+zs.length<=sizeLine/\Q .non (upd H l (.lst (xs++zs)))
def Ff:MtM X "list.extend" xy:=by
 intro pins s σ H x vs v us Q I rx rv h;obtain⟨l,b,xs,zs,rfl,rfl,hH,hB,hz,q⟩:=h;cases rx;obtain⟨u,rfl,ru⟩:=rv.one;cases ru;obtain⟨z,its,n,r,hl,e⟩:=I.lstM hH;obtain⟨z2,m4,n2,r2,Jg,e2⟩:=I.lstM hB;have g6:its.toArray.size+m4.toArray.size<=sizeLine:=by rw[FD,FD];lia
 have Kx:¬ (!its.toArray.isEmpty && Builtin.List.listTooLong (its.toArray.size+m4.toArray.size))=true:=by
  rw[xu g6,Bool.and_false];exact Fz
 refine call_meets F.slot_list_extend ⟨_,e,rfl⟩ F.entry_list_extend (F.args_list_extend_2 _ _)
  (AutoSeq1.list_extend_list_list_0 l its.toArray n b m4.toArray n2 Kx (by rw[FD];lia) (by lia)) ⟨e,e2,?_⟩
 refine⟨.non,_,I.lset (its':=its++m4) hH e (by simp) (r.append r2) ?_,rfl,q⟩;rw[Fx];lia
def rCat:R2:=λx y H Q=>∃ l b xs zs,x= .ref l/\y= .ref b/\H l=be (.lst xs)/\H b=be (.lst zs)/\xs.length+zs.length<=sizeLine/\∀ p,H p=m9->Q (.ref p) (upd H p (.lst (xs++zs)))
def xz:OpR X (Sd .Add) rCat:=by
 intro pins s σ H x y v u Q I rx ry h;obtain⟨l,b,xs,zs,rfl,rfl,hH,hB,hz,q⟩:=h;cases rx;cases ry;obtain⟨z,its,n,r,hl,e⟩:=I.lstM hH;obtain⟨z2,m4,n2,r2,Jg,e2⟩:=I.lstM hB;refine PySem.P.add_list e e2 ?_ (by rw[FD,FD];lia);have ea:its.toArray++m4.toArray=(its++m4).toArray:=by simp
 rw[ea];exact⟨.ref _,_,I.lnew (t':=s.toks) (r.append r2) (by rw[Fx];lia),rfl,q _ I.fresh⟩
end
end L2
namespace OD
open PySem PySem.W PySem.Calls PyProof.Rows
variable{P:Params}
def xA{h:Heap}:∀ (ns:List Int) (vs:List KB),WellAll P h vs (ns.map WData.int)->S1 vs ns:=by
 intro ns;induction ns with
 |nil=>
  intro vs w;rw[Gi] at w;cases w;exact .nil
 |cons n ns ih=>
  intro vs w;rw[FB] at w;cases w with
  |cons a b=>
   cases a;exact .cons _ _ (ih _ b)
variable{l:OpenLaw}
def xB{n:Nat}(hn:l.most=be n){h:Heap}{args:List WData}{JD:List KB}
  (E_:l.row.toRowW.claim.pre args=true) (Mj:WellAll P h JD args):
  ∃ a vs ns,JD=[Value.ref a]/\args=[WData.list (ns.map WData.int)]/\h.get? a=be {cls:= .type "list",data:= .seq vs.toArray}/\S1 vs ns/\ns.length<=n:=by
 have PZ:WShape.hasAll [] args [.list .int]=true:=(pre_splitW E_).1;have hc:l.pre.holds [] {args:=args}=true:=(pre_splitW E_).2;obtain⟨d,r,rfl,h1,h2⟩:=hasAllW_cons PZ;obtain rfl:=hasAllW_nil h2;obtain⟨xs,rfl,h3⟩:=hasW_list h1;obtain⟨ns,rfl⟩:=items_int h3;have a_:ns.length<=n:=by
  unfold OpenLaw.pre at hc;have h4:(WTm.not (.lt (.lit (.int (n:Int))) (.len (.arg 0)))).holds [] {args:=[.list (ns.map .int)]}=true:=by
   have h4:=(holds_andW hc).1;rw[hn] at h4;exact h4
  have h5:=condW_of h4 (w_not (w_lt w_lit (w_len_list (w_arg rfl))));rw[Fs] at h5;refine G3 λq=>?_;have q':(n:Int)<((ns.length:Nat):Int):=by lia
  first
   |(rw[decide_eq_true q'] at h5;exact absurd h5 (by decide))
   |(simp at h5;lia)
 cases Mj with
 |cons w1 w2=>
  cases w2;cases w1 with
  |list ho F_=>exact⟨_,_,ns,rfl,rfl,ho,xA ns _ F_,a_⟩
def xC(l:OpenLaw)(args:List WData):l.row.toRowW.claim.post args (.bool true) args=true:=
 postW_of (r:=l.row.toRowW) (X:=(true==true))
  (show WShape.has [] (.bool true) .bool=true by first|rfl|decide|simp[WShape.has,WShape.arms,WShape.armsAll])
  (show(WTm.eq .res (.lit (.bool true))).value [] {args:=args,res:=be (.bool true),after:=args}=be (.bool (true==true)) from w_eq_bool (w_res rfl) w_lit) rfl
def attach_call{n:Nat}{q:P3}{j7:List D'}{XP:(D'->Option KB)->Heap->Prop}{YP:RT->Heap->Prop}{d:DefRec}
  (hn:l.most=be n) (Ky:d.params.defaults=[])
  (call:∀ (w:RT) (s₀ s₁:KM) (mg mb:D'->Option KB) (fa:KF) (o:R') (pm cd doc:KB) (a:KF) (vs:List KB) (ns:List Int),
   Ground q j7 [] XP w s₀ mg mb s₁.heap->YP w s₁.heap->
   s₁.heap.get? fa=be o->o.data= .func (docDef d.name d.params d.body d.scope pm cd doc)->s₁.heap.CodeRec cd d.name->mg d.name=be (.ref fa)->
   s₁.heap.get? a=be {cls:= .type "list",data:= .seq vs.toArray}->S1 vs ns->ns.length<=n->s₁.gens=#[]->
   SO (RR l.prog w) SZ (.call (.ref fa) ⟨[.ref a],[]⟩) (λr s'=>r= .ok (.ret (.bool true))/\OldK s₁.heap s'.heap/\s'.os=s₁.os/\SJ s'.gens) s₁):
  WalkO q j7 XP YP l.row.toRowW d [] (λf vs=>PySem.call f vs):=by
 intro w s₀ s₁ mg mb G Y fa o pm cd doc dV kV ho hd gt hD m5 hg args JD as E_ P0 Rh Mj Ri;obtain rfl:dV= .none:=Dflts.none hD Ky;obtain rfl:kV= .none:=Dflts.noKw hD;obtain⟨a,vs,ns,rfl,rfl,JE,v4,a_⟩:=xB hn E_ Mj;refine enter_call (SA (call w s₀ s₁ mg mb fa o pm cd doc a vs ns G Y ho (fd_plain hd) gt m5 JE v4 a_ hg) λr s' hq=>?_);obtain⟨rfl,h2,h3,h4⟩:=hq;exact⟨.inl ⟨.bool true,.bool true,[],rfl,λ_=>rfl,.bool true,xC l _,λ_=>⟨List.Pairwise.nil,λ_ hm=>(nomatch hm)⟩⟩,h2,h3,h4⟩
end OD
namespace L2
open PySem PySem.Spec PyProof.Rows
def qN:∀ {vs:List KB} {ns:List Int},S1 vs ns->Vals (ns.map V.int) vs
 |_,_,.nil=> .nil
 |_,_,.cons n t h=> .cons ⟨t,rfl⟩ (qN h)
def Only(H:Hp):Prop:=∀ b,H b=m9\/∃ o xs,H b=be (.frz o (.lst xs))
variable{P:P3}{w:RT}{a:KF}
def xD{K:Ex}{mg mb:D'->Option KB}{CX:CXT}{k:Nat}{fa:KF}{fd:RY}{x:D'}{sp:Sp}{s₁:KM}{vs:List KB}{ns:List Int}
  (KX:K.In s₁.heap) (hns:s₁.heap.Ns Pi mg) (hb:s₁.heap.Ns TM mb) (P1:∀ x:D',x≠"__name__"->mb x=R_ x) (Ml:s₁.heap.NoLimit) (hg:s₁.gens=#[])
  (ha:s₁.heap.get? a=be {cls:= .type "list",data:= .seq vs.toArray}) (hi:S1 vs ns) (hl:ns.length<=sizeLine) (hr:Room k SZ)
  (F:∀ base:Heap,K.In base->base.Ns Pi mg->FnOk P w K mg base CX k fa fd [x] sp) (Kz:∀ (s:KM) (u:KB),S2 s fd ⟨[u],[]⟩ [(x,u)])
  (t5:∀ H:Hp,Only H->SqL K H a (ns.map V.int)->sp [.ref a] H (λv _=>v= .bl true) λ_ _ _=>False)
  (Mm:∀ H e s',CX [] H s₁ (λ_ _ _=>False) e s'->False):
  SO (RR P w) SZ (.call (.ref fa) ⟨[.ref a],[]⟩) (λr s'=>r= .ok (.ret (.bool true))/\OldK s₁.heap s'.heap/\s'.os=s₁.os/\SJ s'.gens) s₁:=by
 have rv:=qN hi;have Mn:=hi.length;have KC:∀ H:Hp,Only H->SqL K H a (ns.map V.int)->HOk P w H s₁.heap->(∀ b,H b≠m9->b=a)->(H a≠m9->K.lookup a=m9)->
   SO (RR P w) SZ (.call (.ref fa) ⟨[.ref a],[]⟩) (λr s'=>r= .ok (.ret (.bool true))/\OldK s₁.heap s'.heap/\s'.os=s₁.os/\SJ s'.gens) s₁:=by
  intro H hO hS hok hA hK;have p_:∀ {b:KF} {o:R'},s₁.heap.get? b=be o->H b=m9->(hidT s₁.heap H).get? b=be o:=λe n=>vB e n;have Kv:∀ {b:KF} {o:R'} {es:Array DictEntry} {ep:Nat},s₁.heap.get? b=be o->o.data= .dict es ep->H b=none:=λ{b o es ep} e d=>by
   cases q:H b with
   |none=>rfl
   |some u=>
    have e':b=a:=hA b (by rw[q];simp);subst e';rw[ha] at e;cases e;have d':Data.seq vs.toArray _=Data.dict es ep:=d;cases d'
  have LG:∀ {b:KF} {m:D'->Option KB},s₁.heap.Ns b m->(hidT s₁.heap H).Ns b m:=λ{b m} ⟨o,es,ep,e,d,r⟩=>⟨o,es,ep,p_ e (Kv e d),d,r⟩;have OF:K.In (hidT s₁.heap H):=λb o e=>p_ (KX b o e) (by
   cases q:H b with
   |none=>rfl
   |some u=>
    have e':b=a:=hA b (by rw[q];simp);subst e';rw[hK (by rw[q];simp)] at e;cases e)
  have hM:Mod K mg (hidT s₁.heap H):=⟨OF,LG hns,⟨mb,LG hb,P1⟩,let ⟨mc,h1,h2⟩:=Ml;⟨mc,LG h1,h2⟩⟩;have e0:Env0 P w K mg (hidT s₁.heap H) SZ [] s₁ H:=⟨rfl,hM,λb o e=>vC e,GZ (vA _ _),trivial,λb hb=>absurd (show b∈([]:List KF) from hb) (by simp),hok,.of_eq hg⟩;refine SA ((F _ OF (LG hns)).run SZ [] s₁ H ⟨[.ref a],[]⟩ [.ref a] [.ref a] _ _ hr e0 (Kz s₁ (.ref a)) (.cons rfl .nil) (t5 H hO hS)) λr s' h=>?_;cases r with
  |error e=>exact(Mm H e s' h).elim
  |ok fl=>
   cases fl with
   |next=>exact False.elim h
   |brk=>exact False.elim h
   |cont=>exact False.elim h
   |ret u=>
    obtain⟨v,H',os,bare,un,Mo,r',q⟩:=h;have q':v= .bl true:=q;subst q';obtain rfl:u=Value.bool true:=r';refine⟨rfl,OldK.of_keep λb o e=>?_,os,bare⟩;cases q:H b with
    |none=>exact un.keep b o e q (by intro z;exact absurd (show b∈([]:List KF) from z) (by simp)) (by simp)
    |some u=>
     rcases hO b with z|⟨ob,xs,z⟩
     .rw[q] at z;cases z
     .have z2:=un.frzs b ob _ z;obtain⟨e1,_⟩:=hok b _ z;obtain⟨e2,_⟩:=Mo b _ z2;rw[e] at e1;cases e1;exact e2
 cases hk:K.lookup a with
 |some o=>
  have e:=KX a o hk;rw[ha] at e;cases e;refine KC (λ_=>m9) (λ_=> .inl rfl) (.inr ⟨_,vs.toArray,_,hk,rfl,rfl,rfl,by rw[FD,Mn];exact hl,by simpa using rv⟩) (λb u z=>by have z':(m9:Option HO)=be u:=z;cases z') (λb z=>absurd rfl z) λz=>absurd rfl z
 |none=>
  refine KC (λb=>if b=a then be (.frz {cls:= .type "list",data:= .seq vs.toArray} (.lst (ns.map V.int))) else m9) (λb=>?_) (.inl (.inr ⟨{cls:= .type "list",data:= .seq vs.toArray},if_pos rfl⟩)) (λb u z=>?_) (λb z=>?_) λ_=>hk
  .by_cases hb:b=a
   .exact .inr ⟨_,_,if_pos hb⟩
   .exact .inl (if_neg hb)
  .by_cases hb:b=a
   .have z':=(if_pos hb).symm.trans z;cases z';subst hb;exact⟨ha,by rw[Fs];exact hl,vs,_,rv,ha⟩
   .have z':=(if_neg hb).symm.trans z;cases z'
  .by_cases hb:b=a
   .exact hb
   .exact absurd (if_neg hb) z
def walk_of{l:Hr}{n k:Nat}{q:P3}{j7:List D'}{XP:(D'->Option KB)->Heap->Prop}{YP:RT->Heap->Prop}{d:DefRec}{K:Params->Ex}{CX:RT->CXT}{sp:RT->Sp}{x:D'}
  (hn:l.most=be n) (A':n<=sizeLine) (Ky:d.params.defaults=[]) (hr:Room k SZ)
  (hY:∀ (w:RT) (h:Heap),YP w h->(K w.params).In h)
  (F:∀ (w:RT) (mg:D'->Option KB) (fa:KF) (h:Heap),(K w.params).In h->h.Ns Pi mg->mg d.name=be (.ref fa)->
   ∃ fd:RY,(∀ (s:KM) (u:KB),S2 s fd ⟨[u],[]⟩ [(x,u)])/\
    ∀ base:Heap,(K w.params).In base->base.Ns Pi mg->FnOk l.prog w (K w.params) mg base (CX w) k fa fd [x] (sp w))
  (t5:∀ (w:RT) (H:Hp) (a:KF) (ns:List Int),ns.length<=n->Only H->SqL (K w.params) H a (ns.map V.int)->sp w [.ref a] H (λv _=>v= .bl true) λ_ _ _=>False)
  (Mm:∀ (w:RT) (H:Hp) (s:KM) (e:KB) (s':KM),CX w [] H s (λ_ _ _=>False) e s'->False):
  HR q j7 XP YP l.row.toRowW d [] (λf vs=>PySem.call f vs):=by
 refine OD.attach_call hn Ky λw s₀ s₁ mg mb fa o pm cd doc a vs ns G Y ho hd gt m5 JE v4 a_ hg=>?_;have KX:=hY w _ Y;obtain⟨fd,hb,hF⟩:=F w mg fa _ KX G.T.g m5;exact xD KX G.T.g G.T.b G.T.builtins G.T.nolimit hg JE v4 (FA a_ A') hr hF hb (λH hO hS=>t5 w H a ns a_ hO hS) λH e s'=>Mm w H s₁ e s'
def bn(s:RO)(j:Nat):RO:=match s with
 | .ClassDef _ _ _ body _ _ _ _ _ _ _=>body.getD j (.Pass ⟨0,0,0,0⟩)
 |_=> .Pass ⟨0,0,0,0⟩
def bF(s:RO):Arguments:=match s with
 | .FunctionDef _ a _ _ _ _ _ _ _ _=>a
 |_=>{posonlyargs:=[],args:=[],vararg:=m9,kwonlyargs:=[],kw_defaults:=[],kwarg:=m9,defaults:=[]}
def aK(s:RO):List RO:=match s with
 | .FunctionDef _ _ b _ _ _ _ _ _ _=>b
 |_=>[]
def ag(s:RO):Sk:=match s with
 | .FunctionDef _ _ _ _ _ _ sc _ _ _=>sc
 |_=>{kind:= .function,names:=[],isGenerator:=false,isCoroutine:=false}
abbrev CX0:CXT:=λ_ _ _ _ _ _=>False
abbrev E0:XK:=λ_ _ _=>False
structure Fun(K:Ex)(x qual:Str)(st:RO)(f:KF)(fd:RY):Prop where
 ex:∃ (oc:KB) (od:Option KF) (kV doc pm:KB) (an:Option KF) (cdv ct:KB) (osl:Array (Option KB)),
  fd=fnOf x qual (bF st) (aK st) (ag st) .none kV doc pm an cdv ct/\K.lookup f=be ⟨oc,od,.func fd,osl⟩/\codeIn K cdv qual=true
 kp:keepIn K (.ref f)=true
section
variable {P:P3}{w:RT}{K:Ex}{mg:D'->Option KB}{base:Heap}
variable{x qual:D'}{st:RO}{f:KF}{ps:List D'}
def Fun.ok{fd:RY}{N:List D'}{k:Nat}{sp:Sp}(F:Fun K x qual st f fd)(S:FnScope N ps (ag st))(len:∀ vs H Q E,sp vs H Q E->vs.length=ps.length)
  (a9:∀ (cdv:KB) (A:RU) (outer:List SE) (s:KM) (H:Hp) (vs:List V) (Q:VK) (E:XK),Room k (A.deeper (R7 qual (ag st) s.heap.objs.size f cdv))->sp vs H Q E->
   ∃ t,PSs (cxOf CX0 P w K mg base N qual (ag st) f cdv A outer s H E).nox (aK st) t/\t {nx:=λ_ H'=>Q .non H',rt:=Q} (start N vs) H):FnOk P w K mg base CX0 (k+1) f fd ps sp:=by
 obtain⟨oc,od,kV,doc,pm,an,cdv,ct,osl,rfl,lk,gt⟩:=F.ex;refine qA lk gt S len λA outer s H vs Q E hr t5=>?_;obtain⟨t,h,q⟩:=a9 cdv A outer s H vs Q E hr t5;exact⟨t,h.nox,q⟩
def Fun.binds{fd:RY}(F:Fun K x qual st f fd)
  (h:∀ (kV doc pm:KB) (an:Option KF) (cdv ct:KB) (us:List KB),us.length=ps.length->SB (fnOf x qual (bF st) (aK st) (ag st) .none kV doc pm an cdv ct) ⟨us,[]⟩=pure (ps.zip us)):Binds K fd ps []:=by
 obtain⟨oc,od,kV,doc,pm,an,cdv,ct,osl,rfl,lk,gt⟩:=F.ex;exact .all (h kV doc pm an cdv ct)
def gA{oc:KB}{od an:Option KF}{osl:Array (Option KB)}{kV doc pm cdv ct:KB}(l:K.lookup f=be ⟨oc,od,.func (fnOf x qual (bF st) (aK st) (ag st) .none kV doc pm an cdv ct),osl⟩)
  (c:codeIn K cdv qual=true) (k:keepIn K (.ref f)=true):Fun K x qual st f (fnOf x qual (bF st) (aK st) (ag st) .none kV doc pm an cdv ct):=⟨⟨oc,od,kV,doc,pm,an,cdv,ct,osl,rfl,l,c⟩,k⟩
end
def qO{A:RU}{k:Nat}(hr:Room k A):A.units+1<Tc:=HS (Nat.add_le_add_left (by decide:1<=64) _) hr.units
def xE{n:Nat}(h:n<=1000):n<sizeLine:=HS h (by decide)
def ite2{c A B:Prop}[Decidable c](h1:c->A)(h2:¬ c->B):if c then A else B:=by
 by_cases h:c
 .rw[if_pos h];exact h1 h
 .rw[if_neg h];exact h2 h
def Same(H H':Hp):Prop:=∀ b o,H b=be o->H' b=be o
def Same.refl(H:Hp):Same H H:=λ_ _ h=>h
variable{H:Hp}
def Same.trans{H1 H2:Hp}(a:Same H H1)(b:Same H1 H2):Same H H2:=λc o h=>b c o (a c o h)
variable{H':Hp}
def Same.free(e:Same H H'){l:KF}(h:H' l=Option.none):H l=Option.none:=by
 cases q:H l with
 |none=>rfl
 |some o=>
  rw[e l o q] at h;cases h
def Same.seq{K:Ex}{xs:List V}(e:Same H H')(h:SqL K H a xs):SqL K H' a xs:=by
 rcases h with(h|⟨o,h⟩)|h
 .exact .inl (.inl (e _ _ h))
 .exact .inl (.inr ⟨o,e _ _ h⟩)
 .exact .inr h
section
variable {κ:Type}[DecidableEq κ]
def valV(a8:List (κ × V))(k:κ):Option V:=(a8.find? λkv=>decide (kv.1=k)).map (·.2)
def putK(a8:List (κ × V))(k:κ)(v:V):List (κ × V):=
 if(a8.any λkv=>decide (kv.1=k))=true then a8.map (λkv=>if kv.1=k then(kv.1,v) else kv) else a8++[(k,v)]
def jF{p:κ × V}{r:List (κ × V)}{k:κ}(e:p.1=k):valV (p::r) k=be p.2:=by simp[valV,GD,e]
def jG{p:κ × V}{r:List (κ × V)}{k:κ}(e:¬ p.1=k):valV (p::r) k=valV r k:=by simp[valV,GD,e]
def RelO.getD{o:Option V}{u:Option KB}{d:V}{d':KB}(r:RelO o u)(rd:RelV d d'):RelV (o.getD d) (u.getD d'):=by
 cases o with
 |none=>cases u with
  |none=>exact rd
  |some _=>exact(show False from r).elim
 |some _=>cases u with
  |none=>exact(show False from r).elim
  |some _=>exact r
def KV.val{a8:List (κ × V)}{vs:List (κ × KB)}(r:KV a8 vs)(k:κ):RelO (valV a8 k) (S7 vs k):=by
 unfold KV at r;induction r with
 |nil=>exact True.intro
 |@cons p q ps qs h t ih=>
  obtain⟨h1,h2⟩:=h;by_cases e:p.1=k
  .have e':q.1=k:=h1.symm.trans e;have b:S7 (q::qs) k=be q.2:=by simp[S7,GD,e']
   rw[jF e,b];exact h2
  .have e':¬ q.1=k:=λz=>e (h1.trans z);have b:S7 (q::qs) k=S7 qs k:=by simp[S7,GD,e']
   rw[jG e,b];exact ih
def KV.any{a8:List (κ × V)}{vs:List (κ × KB)}(r:KV a8 vs)(k:κ):(a8.any λkv=>decide (kv.1=k))=vs.any λkv=>decide (kv.1=k):=by
 unfold KV at r;induction r with
 |nil=>rfl
 |cons h t ih=>rw[GC,GC,ih,h.1]
def KV.keys{a8:List (κ × V)}{vs:List (κ × KB)}(r:KV a8 vs):a8.map (·.1)=vs.map (·.1):=by
 unfold KV at r;induction r with
 |nil=>rfl
 |cons h t ih=>rw[FB,FB,ih,h.1]
def KV.length{a8:List (κ × V)}{vs:List (κ × KB)}(r:KV a8 vs):a8.length=vs.length:=Paired.length r
end
def qP{k:Key}{u:KB}(r:RelV (kV k) u):(bD P w).is k u=true:=by
 cases k with
 |inl i=>obtain⟨t,e⟩:=(show ∃ t,u=Value.int i t from r);subst e;exact mixKind_int P w i t
 |inr x=>obtain⟨t,e⟩:=(show ∃ t,u=Value.str x t from r);subst e;exact vy P w x t
def qQ{P:P3}{w:RT}:∀ {ks:List Key} {us:List KB},Vals (ks.map kV) us->ItemsAre (bD P w) ks us
 |[],_,r=>by rw[Gi] at r;cases r;exact .nil
 |k::ks,_,r=>by
  rw[FB] at r;cases r with
  |cons h t=>exact .cons (qP h) (qQ t)
abbrev KT(H:Hp):List (List Key × V)->List (List Key × KF × KB)->Prop:=Paired λp q=>p.1=q.1/\H q.2.1=be (.tup (p.1.map kV))/\RelV p.2 q.2.2
variable{xs:List (List Key × KF × KB)}{a8:List (List Key × V)}
def KT.val(r:KT H a8 xs)(k:List Key):RelO (valV a8 k) ((S6 xs k).map (·.2)):=by
 induction r with
 |nil=>exact True.intro
 |@cons p q ps qs h t ih=>
  obtain⟨h1,_,h2⟩:=h;by_cases e:p.1=k
  .have e':q.1=k:=h1.symm.trans e;have b:S6 (q::qs) k=be q.2:=by simp[S6,GD,e']
   rw[jF e,b];exact h2
  .have e':¬ q.1=k:=λz=>e (h1.trans z);have b:S6 (q::qs) k=S6 qs k:=by simp[S6,GD,e']
   rw[jG e,b];exact ih
def KT.keeps(r:KT H a8 xs)(ht:∀ b ys,H b=be (.tup ys)->H' b=be (.tup ys)):KT H' a8 xs:=
 Paired.mapP r λ_ _ z=>⟨z.1,ht _ _ z.2.1,z.2.2⟩
section
variable {P:P3}{w:RT}{H:Hp}{h:Heap}{a:KF}
def qR{u:HO}(ok:HOk P w H h)(e:Rd H a u):ObjOk P w H h a u:=e.ok ok
def xF{a8:List (Key × V)}(ok:HOk P w H h)(e:Rd H a (.dK a8)):a8.length<=sizeLine/\(a==Sh)=false/\∃ vs,KV a8 vs/\h.DictOf (bD P w) a vs:=
 show ObjOk P w H h a (.dK a8) from qR ok e
def key_of{ks:List Key}(ok:HOk P w H h)(e:H a=be (.tup (ks.map kV))):(SK (bD P w)).is h ks a:=by
 obtain⟨_,its,r,o,h1,h2,n,h3⟩:=(show ObjOk P w H h a (.tup (ks.map kV)) from ok a _ e);exact⟨o,its.toArray,n,h1,h2,h3,by simpa using qQ r⟩
variable{a8:List (List Key × V)}
def qS(ok:HOk P w H h)(e:Rd H a (.dT a8)):a8.length<=sizeLine/\(a==Sh)=false/\
  ∃ xs,KT H a8 xs/\h.DictOfH (SK (bD P w)) a xs:=by
 obtain⟨z,y,xs,r,o,es,ep,h1,h2,h3,h4,h5⟩:=(show ObjOk P w H h a (.dT a8) from qR ok e);refine⟨z,y,xs,r,o,es,ep,h1,h2,h3,h4,λx hx=>?_,h5⟩;have all:∀ {l:List (List Key × V)} {m:List (List Key × KF × KB)},KT H l m->∀ x∈m,(SK (bD P w)).is h x.1 x.2.1:=by
  intro l m q;induction q with
  |nil=>intro x hx;exact nomatch hx
  |@cons p q ps qs hq t ih=>
   intro x hx;rcases Fp.mp hx with e|hx
   .subst e;exact key_of ok (by rw[<- hq.1];exact hq.2.1)
   .exact ih x hx
 exact all r x hx
def xG(ok:HOk P w H h)(e:H a=be (.dT a8)):a8.length<=sizeLine/\(a==Sh)=false/\
  ∃ xs,KT H a8 xs/\h.DictOfH (SK (bD P w)) a xs:=qS ok (.inl e)
end
def DGet(H:Hp)(a:KF)(y:V)(r:Option V):Prop:=
 (∃ a8 k,Rd H a (.dK a8)/\y=kV k/\r=valV a8 k)\/∃ a8 k b,Rd H a (.dT a8)/\y= .ref b/\H b=be (.tup (k.map kV))/\r=valV a8 k
def DPut(H:Hp)(a:KF)(y v:V)(H':Hp):Prop:=
 (∃ a8 k,H a=be (.dK a8)/\y=kV k/\a8.length<sizeLine/\H'=upd H a (.dK (putK a8 k v)))\/
 ∃ a8 k b,H a=be (.dT a8)/\y= .ref b/\H b=be (.tup (k.map kV))/\a8.length<sizeLine/\H'=upd H a (.dT (putK a8 k v))
def DGet.k{a8:List (Key × V)}{k:Key}(e:H a=be (.dK a8)):DGet H a (kV k) (valV a8 k):= .inl ⟨a8,k,.inl e,rfl,rfl⟩
def DGet.t{b:KF}{k:List Key}(e:H a=be (.dT a8))(eb:H b=be (.tup (k.map kV))):DGet H a (.ref b) (valV a8 k):= .inr ⟨a8,k,b,.inl e,rfl,eb,rfl⟩
def DPut.k{a8:List (Key × V)}{k:Key}{v:V}(e:H a=be (.dK a8))(hl:a8.length<sizeLine):DPut H a (kV k) v (upd H a (.dK (putK a8 k v))):= .inl ⟨a8,k,e,rfl,hl,rfl⟩
def DPut.t{b:KF}{k:List Key}{v:V}(e:H a=be (.dT a8))(eb:H b=be (.tup (k.map kV)))(hl:a8.length<sizeLine):
  DPut H a (.ref b) v (upd H a (.dT (putK a8 k v))):= .inr ⟨a8,k,b,e,rfl,eb,hl,rfl⟩
section
variable {X:Cx}{pins:List (KF × R')}{σ:St}{H:Hp}{s:KM}{a:KF}{y v:V}{u r:KB}{o:Option V}{A:RU}{E:KB->KM->Prop}
def Inv.big(I:Inv X pins σ H s):Sh<s.heap.objs.size:=by
 have h:Pi<s.heap.objs.size:=(I.mod.glob.keeps I.bk).lt;exact HU (by decide) h
def xH{h':Heap}{t':Nat}{ob:HO}(I:Inv X pins σ H s)(mu:Mut (H a))(hs:Heap.SameBut a s.heap h')(he:∃ q,h'.get? a=be q)(new:ObjOk X.prog X.w (upd H a ob) h' a ob):
  Inv X pins σ (upd H a ob) {s with heap:=h',toks:=t'}:=
 I.write (x:=a) (e:=a) mu (.inl rfl) (λb q hb z=>(hs.2 b hb).trans z) he new
end
def xI(h:Heap)(hb:Sh<h.objs.size):ObjOk P w H (h.push {cls:= .type "dict",data:= .dict #[]}) h.objs.size (.dT []):=
 ⟨FR _,beq_eq_false_iff_ne.mpr (Ne.symm (Fy hb)),[],.nil,_,#[],0,Heap.get?_push_size _ rfl,⟨rfl,rfl,rfl⟩,rfl,rfl,HV⟩
def xJ:TE:=λ_ H Q=>∀ p,H p=m9->Q (.ref p) (upd H p (.dT []))
section
variable {X:Cx}{pos:R5}
def pe_dnewT:PE X (.Dict [] [] pos) xJ:=λpins s σ H Q I h=>
 wpAny_Dict_empty ⟨.ref s.heap.objs.size,_,I.laid (a:=s.heap.objs.size) (o:= .dT []) (t':=s.toks) (λ_ _ q=>Heap.get?_push_of_some _ q) (Fo _) (xI s.heap I.big),rfl,h _ (I.hok.fresh (Fo _))⟩
end
structure M1(X:Cx)(o:RP)(m:Str)(apos:R5)(e:RP)(cpos:R5):Prop where
 base:RZ o m X.env (R1 o X.env)=R1 o X.env
 few:((Sw cpos (RV [e] X.env)).all (λx=>!x.1) && (SV cpos (Ss [] X.env)).all (λx=>x.1.isSome)
  && decide (([e]:List RP).length+([]:List SX).length+(if([]:List SX).isEmpty then 0 else 1)<30))=true
 line:(apos.endLine==cpos.line)=true
 trees:Sw cpos (RV [e] X.env)=[(false,R1 e X.env)]
structure M2(X:Cx)(o:RP)(m:Str)(apos:R5)(e f:RP)(cpos:R5):Prop where
 base:RZ o m X.env (R1 o X.env)=R1 o X.env
 few:((Sw cpos (RV [e,f] X.env)).all (λx=>!x.1) && (SV cpos (Ss [] X.env)).all (λx=>x.1.isSome)
  && decide (([e,f]:List RP).length+([]:List SX).length+(if([]:List SX).isEmpty then 0 else 1)<30))=true
 line:(apos.endLine==cpos.line)=true
 trees:Sw cpos (RV [e,f] X.env)=[(false,R1 e X.env),(false,R1 f X.env)]
section
variable {X:Cx}{pins:List (KF × R')}{σ:St}{H:Hp}{s:KM}{a:KF}{y d:V}{u r:KB}{o:Option V}{A:RU}{E:KB->KM->Prop}
def xK{Q:KB->KM->Prop}(hu:A.units+1<Tc)(I:Inv X pins σ H s)(g:DGet H a y o)(ry:RelV y u)(rd:RelV d r)(h:∀ w' s',Inv X pins σ H s'->RelV (o.getD d) w'->Q w' s'):
  RS (RR X.prog X.w) A (call (.builtin "dict.get") [.ref a,u,r]) Q E s:=by
 rcases g with⟨a8,k,e,ey,l⟩|⟨a8,k,b,e,ey,eb,l⟩
 .subst ey;obtain⟨z,hd,vs,rel,dd⟩:=xF I.hok e;refine Tp PySem.F.slot_dict_get dd.typeIs PySem.F.entry_dict_get (PySem.F.args_dict_get_3 _ _ _) (meets_dict_get_default (bD X.prog X.w) a (qP ry) hd r) ⟨_,dd.mapOf,h _ _ (I.tok _) ?_⟩;rw[l];exact(rel.val k).getD rd
 .subst ey;cases(show u=Value.ref b from ry);obtain⟨z,hd,xs,rel,dd⟩:=qS I.hok e;refine Tp PySem.F.slot_dict_get dd.typeIs PySem.F.entry_dict_get (PySem.F.args_dict_get_3 _ _ _) (meetsH_dict_get_default (SK (bD X.prog X.w)) a b hd r) ⟨TK hu,k,xs,key_of I.hok eb,dd,h _ _ (I.tok _) ?_⟩;rw[l];exact(rel.val k).getD rd
end
end L2
end
section
open PySem PySem.Spec PyProof.Rows L2
namespace Exc
open PySem PySem.Spec PyProof.Rows PySem.W L2
def aT:List KB->Bool
 | .ref _::r=>aT r
 |l=>l==[.type "ValueError",.type "Exception",.type "BaseException",.type "object"]
def qT(self:KB):∀ {l:List KB},aT l=true->refuseLoop self "__setattr__" l=pure ()
 | .ref c::r,e=>by rw[refuseLoop_ref];exact qT self (by unfold aT at e;exact e)
 |[],e=>by simp[aT] at e
 | .type n::r,e=>by
  have e':(Value.type n::r)=[.type "ValueError",.type "Exception",.type "BaseException",.type "object"]:=by simpa[aT] using e
  rw[e'];exact PySem.F.store_ValueError.passes self
 | .none::r,e=>by simp[aT] at e
 | .bool _::r,e=>by simp[aT] at e
 | .int _ _::r,e=>by simp[aT] at e
 | .float _ _::r,e=>by simp[aT] at e
 | .str _ _::r,e=>by simp[aT] at e
 | .bytes _ _::r,e=>by simp[aT] at e
 | .builtin _::r,e=>by simp[aT] at e
def gB{T:String}(hT:[Value.type "ValueError",.type "Exception",.type "BaseException",.type "object"].contains (.type T)=true):∀ {l:List KB},aT l=true->l.contains (.type T)=true
 | .ref c::r,e=>by rw[Hs,gB hT (l:=r) (by unfold aT at e;exact e),G4]
 |[],e=>by simp[aT] at e
 | .type n::r,e=>by
  have e':(Value.type n::r)=[.type "ValueError",.type "Exception",.type "BaseException",.type "object"]:=by simpa[aT] using e
  rw[e'];exact hT
 | .none::r,e=>by simp[aT] at e
 | .bool _::r,e=>by simp[aT] at e
 | .int _ _::r,e=>by simp[aT] at e
 | .float _ _::r,e=>by simp[aT] at e
 | .str _ _::r,e=>by simp[aT] at e
 | .bytes _ _::r,e=>by simp[aT] at e
 | .builtin _::r,e=>by simp[aT] at e
section
variable {prog:P3}{w:RT}{A:RU}{E:KB->KM->Prop}{s:KM}{K:Ex}{x C:KF}{ox:R'}{cd:ClassData}{name:D'}{v:KB}{vs:Array KB}
def xL{Q:Unit->KM->Prop}(X:K.In s.heap)(hx:s.heap.get? x=be ox)(j8:ox.cls= .ref C)(JG:ox.data= .fields vs)(hd:ox.dict=m9)(hc:clsIn K C=be cd)(hm:aT cd.mro=true)(hh:cd.hasDict=true)
  (hs:findIn K (.ref C) "__setattr__"=be (be (.builtin "object.__setattr__"))) (hf:findIn K (.ref C) name=be m9)
  (h:∀ h',h'.get? x=be {ox with dict:=be s.heap.objs.size}->h'.Ns1 s.heap.objs.size (λy=>if y=name then be v else m9)->(∀ b o,b≠x->s.heap.get? b=be o->h'.get? b=be o)->∀ tk,Q () {s with heap:=h',toks:=tk}):
  RS (RR prog w) A (setAttr (.ref x) name v) Q E s:=by
 have hn:notCls ox=true:=by unfold notCls;rw[JG]
 have I:InstAt s.heap x ox C none:=⟨hx,j8,hn,by rw[hd];trivial⟩;refine set_plain X I hs ?_;have SF:=PySem.F.store_object;have ne:cd.mro.isEmpty=false:=by cases q:cd.mro with|nil=>rw[q] at hm;simp[aT] at hm|cons _ _=>rfl
 have sub:Looks (RR prog w) s.heap (TL (.ref x) (.type "object")) true:=I.type.andThen (looks_mroIn X (by unfold mroIn;rw[hc,Ht,if_neg (by rw[ne];decide),gB (by decide+kernel) hm]));refine Tu SF.slot.plain SF.entry (@check_slot (RR prog w) _ _ _ "object.__setattr__" "object" "__setattr__" (.ref x) [.str name s.toks,v] [] _ SF.kind SF.split sub (SF.args (.ref x) (.str name s.toks) v) ?_);have Mp:Looks (RR prog w) s.heap (mroOf (.ref C)) cd.mro:=(looks_clsIn X hc).andThen .now;rw[osa_eq,refuse_eq];refine Os (Os (I.type.here (s:={s with toks:=s.toks+1}) (Os (Mp.here (s:={s with toks:=s.toks+1}) ?_))));rw[qT _ hm];refine RQ (Os (I.type.here (s:={s with toks:=s.toks+1}) (Os ((looks_findIn X hf).here (s:={s with toks:=s.toks+1}) (Os (Looks.now.here (s:={s with toks:=s.toks+1}) ?_))))));obtain⟨oc,P2,P4,osl⟩:=ox;dsimp only at j8 hd JG;subst j8 hd JG;refine Os (RQ (Os (Os (wpAny_loadPart hx (Os ((looks_clsIn X hc).here (s:={s with toks:=s.toks+1}) ?_))))));rw[hh];rw[if_neg (by decide)];have hx₁:(s.heap.push {cls:= .type "dict",data:= .dict #[]}).get? x=be ⟨.ref C,m9,.fields vs,osl⟩:=Heap.get?_push_of_some _ hx;have OG:x≠s.heap.objs.size:=Fy (Heap.lt_size hx);show RS _ _ (do
  let d <- alloc {cls:=Value.type "dict",data:=Data.dict #[]}
  update x λo=>{cls:=o.cls,dict:=be d,data:=o.data,slots:=o.slots}
  dictMade (.ref C) x d) _ _ _
 refine Os (wpAny_alloc' ?_);refine Os (wpAny_update' hx₁ ?_);refine RQ ?_;have P5:((s.heap.push {cls:= .type "dict",data:= .dict #[]}).update x λo=>{cls:=o.cls,dict:=be s.heap.objs.size,data:=o.data,slots:=o.slots}).get? s.heap.objs.size
   =be {cls:= .type "dict",data:= .dict #[]}:=
  (Heap.get?_update_ne _ _ _ _ OG.symm).trans (Heap.get?_push_at rfl rfl)
 have P6:((s.heap.push {cls:= .type "dict",data:= .dict #[]}).update x λo=>{cls:=o.cls,dict:=be s.heap.objs.size,data:=o.data,slots:=o.slots}).Ns s.heap.objs.size (λ_=>m9):=
  ⟨_,#[],_,P5,rfl,λe he=>absurd he (by simp),λ_=>rfl⟩
 show RS _ _ (Builtin.ObjectAttr.storeInDict s.heap.objs.size (.str name s.toks) name v) _ _ _;unfold Builtin.ObjectAttr.storeInDict Builtin.ObjectAttr.newKeyGuard;refine Os (RQ (Os (wpAny_nsSet1 (Heap.Ns1.of_empty P6) λh' k8 hs=>?_)));obtain⟨oD,PP,PQ,Me,Mf,Mg⟩:=k8.count (Within.cons name v Within.nil);refine Os (wpAny_lookBehind Me (by rw[Mf];exact pastItsLine_dict (FA Mg (by rw[Fq,GL,SU];lia))) ?_);refine RQ (h h' ?_ k8 (λb o hb q=>?_) _)
 .exact(hs.2 x OG).trans (Heap.get?_update_self _ hx₁ rfl)
 .exact(hs.2 b (Fy (Heap.lt_size q))).trans ((Heap.get?_update_ne _ _ _ _ hb).trans (Heap.get?_push_of_some _ q))
def xM{Q:KB->KM->Prop}{rest:List KB}{t0:KF}{a1 a2 a3 a4 a5:KB}(X:K.In s.heap)(hx:s.heap.get? x=be ox)(j8:ox.cls= .ref C)(JG:ox.data= .fields #[.ref t0,a1,a2,a3,a4,a5])(hc:clsIn K C=be cd)(hm:aT cd.mro=true)(hl:rest.length<=sizeLine)
  (h:∀ h',h'.get? x=be {ox with data:= .fields #[.ref s.heap.objs.size,a1,a2,a3,a4,a5]}->(∀ b o,b≠x->s.heap.get? b=be o->h'.get? b=be o)->Q .none {s with heap:=h'}):
  RS (RR prog w) A (call (.builtin "ValueError.__init__") (.ref x::rest)) Q E s:=by
 have F:=PySem.F.excBase_ValueError;have hn:notCls ox=true:=by unfold notCls;rw[JG]
 have ht:Looks (RR prog w) s.heap (typeOf (.ref x)) (.ref C):=j8 ▸ (Looks.ld hx).andThen .now;have ne:cd.mro.isEmpty=false:=by cases q:cd.mro with|nil=>rw[q] at hm;simp[aT] at hm|cons _ _=>rfl
 have sub:Looks (RR prog w) s.heap (TL (.ref x) (.type "ValueError")) true:=ht.andThen (looks_mroIn X (by unfold mroIn;rw[hc,Ht,if_neg (by rw[ne];decide),gB (by decide+kernel) hm]));have P7:∀ {Q:Unit->KM->Prop} {E:KB->KM->Prop} {A:RU},Q () s->RS (RR prog w) A (checkBuiltinCall "ValueError.__init__" ⟨.ref x::rest,[]⟩) Q E s:=λ{Q E A} hq=>by
  have Mq:=F.noStar;simp only[checkBuiltinCall,F.initKind,F.initSplit,F.initRow];refine Os (sub.here ?_);obtain⟨hp,g,d,t,os⟩:=s;have Lc:=looks_clsIn (M:=RR prog w) X hc
  repeat(first|(with_reducible refine R8 hx ?_;rw[j8])|(with_reducible refine Lc.here ?_)|wp_step)
  refine wpAny_onRaise ?_;rw[show ∀ (a b:String) (n:Nat),Bind.check ⟨.positional,"*","ValueError",.self,[⟨"args",.varPos,false⟩]⟩ a b n (GM (λx=>x.fst) ({pos:=Value.ref x::rest}:Args).kw)=pure () from
   λa b n=>check_star_args _ _ _ _ _ _]
  exact RQ hq
 refine SL (Tu F.init.plain F.initEntry (P7 ?_));obtain⟨hp,g,d,t,os⟩:=s;obtain⟨oc,P2,P4,osl⟩:=ox;dsimp only at j8 JG hx h;subst j8 JG
 wp_walk
 have hx₁:=Heap.get?_push_of_some {cls:=Value.type "tuple",data:=Data.seq rest.toArray} hx;refine h _ ?_ (λb o hb q=>?_)
 .rw[Heap.get?_update_self _ hx₁ rfl];rfl
 .rw[Heap.get?_update_other _ _ (Ne.symm hb)];exact Heap.get?_push_of_some _ q
end
abbrev veLine:List KB:=[.type "ValueError",.type "Exception",.type "BaseException",.type "object"]
section
variable {prog:P3}{w:RT}{A:RU}{E:KB->KM->Prop}{h:Heap}{g:Array Tw}{d:Drawn}{t:Nat}{os:OsState}{K:Ex}
variable {nm q:D'}{C N fI:KF}{bs bm:List KB}{hdct:Bool}{sn:List D'}{sub:List KB}{ab:Bool}{col:Option Bool}{dd:Option KF}{k0 k1 k2 k3 k5:Option KB}{rest:List KB}
def xN{Q:Fin->KM->Prop}(X:K.In h)(T:OwnTail h veLine bm)(hC:h.get? C=be (Sb nm q C N bs bm hdct sn sub ab col dd k0 k1 k2 k3 k5 "ValueError.__new__"))
  (hi:findIn K (.ref C) "__init__"=be (be (.ref fI))) (hf:typeIn K (.ref fI)=be (.type "function"))
  (hq:∀ h' e,Heap.MadeExcOf h h' e (.ref C) rest->RS (RR prog w) A (call (.ref fI) (.ref e::rest)) (λr s'=>r= .none/\Q (.done (.ret (.ref e))) s') E ⟨h',g,d,t,os⟩) (hl:rest.length<=sizeLine):
  RS (RR prog w) A (Builtin.«type.__call__» ⟨.ref C::rest,[]⟩) Q E ⟨h,g,d,t,os⟩:=by
 have F:=PySem.F.excBase_ValueError
 repeat(first|(with_reducible refine R8 hC ?_)|(with_reducible refine wpAny_madeBy_exc hC ?_)|wp_step)
 refine codeAny_call_builtin_code (Code.quiet_builtin _ F.quiet) (wpAny_check_new_subT F T hC (codeAny_exc_new_subT F T hC ?_ hl));have kp:∀ b o,h.get? b=be o->((h.push {cls:= .type "tuple",data:= .seq rest.toArray}).push {cls:= .ref C,data:= .fields #[.ref h.objs.size,.none,.none,.none,.bool false,.none]}).get? b=be o:=λb o e=>Heap.get?_push_of_some _ (Heap.get?_push_of_some _ e);have P8:=kp _ _ hC;have X1:K.In _:=X.keeps kp;have he:((h.push {cls:= .type "tuple",data:= .seq rest.toArray}).push {cls:= .ref C,data:= .fields #[.ref h.objs.size,.none,.none,.none,.bool false,.none]}).get? (h.objs.size+1)=be {cls:= .ref C,data:= .fields #[.ref h.objs.size,.none,.none,.none,.bool false,.none]}:=by heap_get
 have P9:(Value.ref C::bm).contains (.ref C)=true:=by simp
 have L1:=looks_findIn (M:=RR prog w) X1 hi;have L2:=bind_fn (M:=RR prog w) X1 (.ref (h.objs.size+1)) hf;show RS _ _ _ _ _ _;unfold TL
 repeat(first|(with_reducible refine R8 he ?_)|(with_reducible refine Sy P8 ?_;rw[P9])|wp_step)
 refine L1.at ?_;refine Sj (Os (L2.at ?_));refine Os (R3 (hq _ (h.objs.size+1) ⟨kp,Heap.get?_none_of_le (Gs _),h.objs.size,he,Heap.get?_none_of_le (Fo _),Heap.get?_push_of_some _ (Heap.get?_push_at rfl rfl)⟩) (λr s' hr=>?_) λ_ _ x=>x);obtain⟨rfl,hQ⟩:=hr;refine RQ ?_;exact RQ hQ
def xO{Q:KB->KM->Prop}(X:K.In h)(T:OwnTail h veLine bm)(hC:h.get? C=be (Sb nm q C N bs bm hdct sn sub ab col dd k0 k1 k2 k3 k5 "ValueError.__new__"))
  (hi:findIn K (.ref C) "__init__"=be (be (.ref fI))) (hf:typeIn K (.ref fI)=be (.type "function"))
  (hq:∀ h' e,Heap.MadeExcOf h h' e (.ref C) rest->RS (RR prog w) (A.under (.builtin "type.__call__" ⟨.ref C::rest,[]⟩)) (call (.ref fI) (.ref e::rest)) (λr s'=>r= .none/\Q (.ref e) s') E ⟨h',g,d,t,os⟩) (hl:rest.length<=sizeLine):
  RS (RR prog w) A (call (.ref C) rest) Q E ⟨h,g,d,t,os⟩:=by
 have f1:=tc_lookup;have f2:=tc_bind (.ref C);have hT:(⟨h,g,d,t,os⟩:KM).TypeIs (.ref C) "type":=⟨_,hC,rfl⟩;refine SL (codeAny_of_tree ?_);show RS _ _ (callAny (.ref C) _) _ _ _
 repeat(any_goals (first|(with_reducible refine R8 hC ?_)|assumption|wp_step))
 exact⟨rfl,codeAny_call_builtin_at (Code.quiet_builtin _ (by decide+kernel)) entry_typeCall (wpAny_check_type_call_sub hC (xN X T hC hi hf (λh' e hm=>hq h' e hm) hl))⟩
end
section
variable {prog:P3}{w:RT}{A:RU}{E:KB->KM->Prop}{s:KM}{env:SE}
variable {nm q:D'}{C N:KF}{bs bm:List KB}{hdct:Bool}{sn:List D'}{sub:List KB}{ab:Bool}{col:Option Bool}{dd:Option KF}{k0 k1 k2 k3 k5:Option KB}{newId:String}
variable{Q:Flow->KM->Prop}
def xP{x:Tq KB}(b9:bm.contains (.type "BaseException")=true)(hh:A.handled=m9)
  (h:RS (RR prog w) A x (λv s₁=>∃ e t od sl,v= .ref e/\s₁.heap.get? C=be (Sb nm q C N bs bm hdct sn sub ab col dd k0 k1 k2 k3 k5 newId)/\
   s₁.heap.get? e=be ⟨.ref C,od,.fields #[.ref t,.none,.none,.none,.bool false,.none],sl⟩/\E (.ref e) s₁) E s):
  RS (RR prog w) A (raiseStmt env (be x) m9) Q E s:=by
 have Mr:(Value.ref C::bm).contains (.type "BaseException")=true:=by rw[Hs,b9,G4]
 unfold raiseStmt;refine Os (R3 h (λv s₁ h₁=>?_) λ_ _ x=>x);obtain⟨e,t,od,sl,rfl,hC,he,hE⟩:=h₁;obtain⟨hp,g,d,tk,os⟩:=s₁
 repeat(first|(with_reducible refine R8 he ?_)|(with_reducible refine R8 hC ?_)|(with_reducible refine Sy hC ?_;rw[Mr])|wp_step)
 exact wpAny_raiseNew_none hh hE
def jH{x:RP}{pos:R5}(b9:bm.contains (.type "BaseException")=true)(hh:A.handled=m9)
  (h:RS (RR prog w) A (R1 x env) (λv s₁=>∃ e t od sl,v= .ref e/\s₁.heap.get? C=be (Sb nm q C N bs bm hdct sn sub ab col dd k0 k1 k2 k3 k5 newId)/\
   s₁.heap.get? e=be ⟨.ref C,od,.fields #[.ref t,.none,.none,.none,.bool false,.none],sl⟩/\E (.ref e) s₁) E s):
  RS (RR prog w) A (exec (.Raise (be x) m9 pos) env) Q E s:=by
 rw[arm_exec_Raise];show RS (RR prog w) A (do SM pos;raiseStmt env (be (do let v <- R1 x env;SM pos;pure v)) m9) Q E s;exact Os (Si (xP b9 hh (Os (R3 h (λv s₁ h₁=>Os (Si (RQ h₁))) λ_ _ x=>x))))
end
def ExAt(h:Heap)(e C:KF)(od:Option KF)(T:KF)(fl:KB):Prop:=
 ∃ sl vs oT ts,h.get? e=be ⟨.ref C,od,.fields vs,sl⟩/\vs[1]?=be (.ref T)/\T≠e/\h.get? T=be oT/\oT.data= .fields ts/\ts[3]?=be fl
structure Stay(fs ex:List KF)(h h':Heap):Prop where
 keep:∀ b o,h.get? b=be o->b ∉ ex->b ∉ fs->h'.get? b=be o
 slot:∀ b o,h.get? b=be o->b ∉ ex->∃ sl,h'.get? b=be {o with slots:=sl}
 there:∀ b o,h.get? b=be o->∃ o',h'.get? b=be o'
variable{fs ex:List KF}{h:Heap}
def Stay.trans{Kq:List KF}{h1 h2:Heap}(a:Stay fs ex h h1)(b:Stay fs Kq h1 h2):Stay fs (ex++Kq) h h2:=
  ⟨λc o e n m=>b.keep c o (a.keep c o e (λz=>n (Ge _ z)) m) (λz=>n (FC _ z)) m,
   λc o e n=>by
    obtain⟨s1,e1⟩:=a.slot c o e (λz=>n (Ge _ z));obtain⟨s2,e2⟩:=b.slot c _ e1 (λz=>n (FC _ z));exact⟨s2,e2⟩,
   λc o e=>by
    obtain⟨o1,e1⟩:=a.there c o e;exact b.there c o1 e1⟩
section
variable {M:TV}{A:RU}{E:KB->KM->Prop}{s:KM}{env:SE}{outer:List SE}{base:Heap}{L e C T:KF}{od:Option KF}
variable{Q:Unit->KM->Prop}
def qU{sl:Array (Option KB)}{vs:Array KB}(hfr:A.frames=be (env::outer))(hl:s.heap.FunFrames base (env::outer))(hf:env.frame=be L)
  (he:s.heap.get? e=be ⟨.ref C,od,.fields vs,sl⟩) (h1:vs[1]?=be .none)
  (h:∀ h' T,ExAt h' e C od T (SN L)->s.heap.objs.size<=T->Stay (frs (env::outer)) [e] s.heap h'->Q () {s with heap:=h'}):RS M A (SW (.ref e) env) Q E s:=by
 have g6:1<vs.size:=(G5.mp h1).1;have JH:e ∉ (env::outer).filterMap (·.frame):=λhm=>by
  obtain⟨_,o,ho,hnf⟩:=hl.mem hm;rw[he] at ho;injection ho with ho;subst ho;exact hnf vs rfl
 unfold SW;simp only[hf];refine Os (Sq he rfl h1 ?_);rw[if_neg (by decide)];refine Os (TN hfr hl hf λh₁ hs₁=>Os (TC λpl c7=>?_));unfold EntryCells.newEntry newFields;refine Os (R6 ?_ (c7.sizeOk5 _ _ _ _ _));have he₁:h₁.get? e=be ⟨.ref C,od,.fields vs,sl⟩:=(hs₁.2.1 e JH).trans he;have fresh:h₁.get? h₁.objs.size=none:=Heap.get?_none_of_le (Fo _);generalize KE:({cls:= .type "traceback",dict:=m9,data:= .fields ([Value.none,.ref L,.none,SN L,.none]++(if pl.isEmpty then Gg 6 Value.none else pl)).toArray}:R')=oT;have he₂:=Heap.get?_push_of_some (h:=h₁) oT he₁;have v5:h₁.objs.size≠e:=Gq (Heap.lt_size he₁);refine SS he₂ rfl g6 (h _ h₁.objs.size ?_ ?_ ?_)
 .refine⟨sl,vs.setIfInBounds 1 (.ref h₁.objs.size),oT,([Value.none,.ref L,.none,SN L,.none]++(if pl.isEmpty then Gg 6 Value.none else pl)).toArray,?_,by simp[g6],v5,?_,by rw[<- KE],by simp⟩
  .rw[Heap.get?_update_self _ he₂ rfl];rfl
  .rw[Heap.get?_update_other _ _ (Ne.symm v5)];exact Heap.get?_push_size h₁ (by rw[<- KE];rfl)
 .exact GZ hs₁.1.symm
 .have kp:∀ b o,b≠e->h₁.get? b=be o->((h₁.push oT).update e (Obj.mapFields (·.setIfInBounds 1 (Value.ref h₁.objs.size)))).get? b=be o:=λb o hb z=>by
   rw[Heap.get?_update_other _ _ (Ne.symm hb)];exact Heap.get?_push_of_some _ z
  refine⟨λb o q n m=>kp b o (λz=>n (by simp[z])) ((hs₁.2.1 b m).trans q),λb o q n=>?_,λb o q=>?_⟩
  .obtain⟨r_,z⟩:=hs₁.2.2 b o q;exact⟨r_,kp b _ (λz=>n (by simp[z])) z⟩
  .by_cases hb:b=e
   .subst hb;exact⟨_,Heap.get?_update_self _ he₂ rfl⟩
   .obtain⟨r_,z⟩:=hs₁.2.2 b o q;exact⟨_,kp b _ hb z⟩
def qV(hfr:A.frames=be (env::outer))(hl:s.heap.FunFrames base (env::outer))(hf:env.frame=be L)(hx:ExAt s.heap e C od T .none)
  (h:∀ h' T',ExAt h' e C od T' (SN L)->s.heap.objs.size<=T'->Stay (frs (env::outer)) [T,e] s.heap h'->Q () {s with heap:=h'}):RS M A (SW (.ref e) env) Q E s:=by
 obtain⟨sl,vs,oT,ts,he,h1,v5,hT,k_,h3⟩:=hx;have g6:1<vs.size:=(G5.mp h1).1;have LH:3<ts.size:=(G5.mp h3).1;have JH:e ∉ (env::outer).filterMap (·.frame):=λhm=>by
  obtain⟨_,o,ho,hnf⟩:=hl.mem hm;rw[he] at ho;injection ho with ho;subst ho;exact hnf vs rfl
 unfold SW;simp only[hf];refine Os (Sq he rfl h1 ?_);rw[if_pos (show(Value.ref T !=Value.none)=true from by simp)];refine Os (Sq hT k_ h3 ?_);rw[if_neg (show¬ ((Value.none==SN L)=true) from by simp[SN])];refine Os (SS hT k_ LH ?_);have other:∀ b,b≠T->(s.heap.update T (Obj.mapFields (·.setIfInBounds 3 Value.none))).get? b=s.heap.get? b:=λb hb=>Heap.get?_update_other _ _ (Ne.symm hb);have nT:∀ b o,s.heap.get? b=be o->(∀ vs,o.data≠.fields vs)->b≠T:=λb o hb hnf q=>by
  rw[q,hT] at hb;injection hb with hb;subst hb;exact hnf ts k_
 have P':(s.heap.update T (Obj.mapFields (·.setIfInBounds 3 Value.none))).FunFrames base (env::outer):=hl.of_keeps λb o hb hnf=>⟨o,(other b (nT b o hb hnf)).trans hb,rfl⟩;have P_:∃ o',(s.heap.update T (Obj.mapFields (·.setIfInBounds 3 Value.none))).get? T=be o':=⟨_,Heap.get?_update_self _ hT (Obj.isFreed_of_fields (Obj.data_mapFields k_ _))⟩;refine Os (TN hfr P' hf λh₁ hs₁=>Os (TC λpl c7=>?_));unfold EntryCells.newEntry newFields;refine Os (R6 ?_ (c7.sizeOk5 _ _ _ _ _));have he₁:h₁.get? e=be ⟨.ref C,od,.fields vs,sl⟩:=(hs₁.2.1 e JH).trans ((other e (Ne.symm v5)).trans he);have fresh:h₁.get? h₁.objs.size=none:=Heap.get?_none_of_le (Fo _);generalize KE:({cls:= .type "traceback",dict:=m9,data:= .fields ([Value.ref T,.ref L,.none,SN L,.none]++(if pl.isEmpty then Gg 6 Value.none else pl)).toArray}:R')=Ms;have he₂:=Heap.get?_push_of_some (h:=h₁) Ms he₁;have KG:h₁.objs.size≠e:=Gq (Heap.lt_size he₁);refine SS he₂ rfl g6 (h _ h₁.objs.size ?_ ?_ ?_)
 .refine⟨sl,vs.setIfInBounds 1 (.ref h₁.objs.size),Ms,([Value.ref T,.ref L,.none,SN L,.none]++(if pl.isEmpty then Gg 6 Value.none else pl)).toArray,?_,by simp[g6],KG,?_,by rw[<- KE],by simp⟩
  .rw[Heap.get?_update_self _ he₂ rfl];rfl
  .rw[Heap.get?_update_other _ _ (Ne.symm KG)];exact Heap.get?_push_size h₁ (by rw[<- KE];rfl)
 .exact GZ (hs₁.1.trans (Heap.size_after_update _ _ _)).symm
 .have kp:∀ b o,b≠e->h₁.get? b=be o->((h₁.push Ms).update e (Obj.mapFields (·.setIfInBounds 1 (Value.ref h₁.objs.size)))).get? b=be o:=λb o hb z=>by
   rw[Heap.get?_update_other _ _ (Ne.symm hb)];exact Heap.get?_push_of_some _ z
  refine⟨λb o q n m=>kp b o (λz=>n (by simp[z])) ((hs₁.2.1 b m).trans ((other b (λz=>n (by simp[z]))).trans q)),λb o q n=>?_,λb o q=>?_⟩
  .obtain⟨r_,z⟩:=hs₁.2.2 b o ((other b (λz=>n (by simp[z]))).trans q);exact⟨r_,kp b _ (λz=>n (by simp[z])) z⟩
  .by_cases hb:b=e
   .subst hb;exact⟨_,Heap.get?_update_self _ he₂ rfl⟩
   .have:∃ o',(s.heap.update T (Obj.mapFields (·.setIfInBounds 3 Value.none))).get? b=be o':=by
     by_cases hb:b=T
     .rw[hb];exact P_
     .exact⟨o,(other _ hb).trans q⟩
    obtain⟨o',q'⟩:=this;obtain⟨r_,z⟩:=hs₁.2.2 b o' q';exact⟨_,kp b _ hb z⟩
def flight_none{fl:KB}(hx:ExAt s.heap e C od T fl)(h:∀ h',ExAt h' e C od T .none->Stay [] [T] s.heap h'->Q () {s with heap:=h'}):RS M A (Tb (.ref e) m9) Q E s:=by
 obtain⟨sl,vs,oT,ts,he,h1,v5,hT,k_,h3⟩:=hx;have LH:3<ts.size:=(G5.mp h3).1;unfold Tb;refine Os (Sq he rfl h1 ?_);rw[if_pos (show(Value.ref T !=Value.none)=true from by simp)];refine SS hT k_ LH (h _ ?_ ?_)
 .exact⟨sl,vs,_,_,(Heap.get?_update_other _ _ v5).trans he,h1,v5,Heap.get?_update_self _ hT (Obj.isFreed_of_fields (Obj.data_mapFields k_ _)),Obj.data_mapFields k_ _,by simp[LH]⟩
 .have other:∀ b o,b ∉ [T]->s.heap.get? b=be o->(s.heap.update T (Obj.mapFields (·.setIfInBounds 3 ((m9:Option KF).elim Value.none λf=>SN f)))).get? b=be o:=λb o hb q=>(Heap.get?_update_other _ _ (λz=>hb (by simp[z]))).trans q;refine⟨λb o q n _=>other b o n q,λb o q n=>⟨o.slots,other b o n q⟩,λb o q=>?_⟩;by_cases hb:b=T
  .subst hb;exact⟨_,Heap.get?_update_self _ hT (Obj.isFreed_of_fields (Obj.data_mapFields k_ _))⟩
  .exact⟨o,other b o (by simp[hb]) q⟩
end
def CX1(P:P3)(w:RT):CXT:=λouter H s E ev s'=>∃ e C od T H',ev= .ref e/\s'.os=s.os/\SJ s'.gens/\Un (frs outer) [] H H' s.heap s'.heap/\HOk P w H' s'.heap/\ExAt s'.heap e C od T .none/\s.heap.get? e=m9/\s.heap.get? T=m9/\H' e=m9/\H' T=m9/\E (.ref C) od H'
def fF{P:P3}{w:RT}{H:Hp}{h':Heap}(x:HOk P w H h)(st:Stay fs ex h h')(hf:∀ b∈fs,H b=m9)(he:∀ b∈ex,H b=m9):HOk P w H h':=λa o q=>
 (x a o q).stay (λb u hb r=>by
  have hn:H b≠none:=by
   rcases hb with rfl|hb
   .rw[q];exact λz=>nomatch z
   .rw[hb];exact λz=>nomatch z
  exact st.keep b u r (λz=>hn (he b z)) (λz=>hn (hf b z))) (λ_ q=>q) λ_ _ q=>q
def gC{j5:List KF}{H H':Hp}{h1 h2:Heap}(u:Un fs [] H H' h h1)(st:Stay j5 ex h1 h2)(hex:∀ b∈ex,h.get? b=m9)(LI:∀ b∈j5,b∈fs\/h.get? b=m9):Un fs [] H H' h h2 where
 keep:=λb o q n hb hx=>st.keep b o (u.keep b o q n hb hx) (λz=>by rw[hex b z] at q;cases q) (λz=>(LI b z).elim hb λy=>by rw[y] at q;cases q)
 slot:=λb o q n hb hx=>by
  obtain⟨sl,e1⟩:=u.slot b o q n hb hx;obtain⟨r_,e2⟩:=st.slot b _ e1 (λz=>by rw[hex b z] at q;cases q);exact⟨r_,e2⟩
 free:=u.free
 there:=λb o q hx=>by
  obtain⟨o1,e1⟩:=u.there b o q hx;exact st.there b o1 e1
 tups:=u.tups
 frzs:=u.frzs
 tbls:=u.tbls
section
variable {P:P3}{w:RT}{K:Ex}{mg:D'->Option KB}{base:Heap}{N:List D'}{qual:D'}{scope:Sk}{f:KF}{cd:KB}{A:RU}{outer:List SE}{s:KM}{H:Hp}{E E':XK}
def qW{b:KF}(hb:b∈frs (R7 qual scope s.heap.objs.size f cd::outer)):b∈frs outer\/s.heap.get? b=none:=by
 unfold frs at hb;rw[GX] at hb;rcases Fp.mp (show b∈s.heap.objs.size::outer.filterMap (·.frame) from hb) with e|e
 .rw[e];exact .inr (Heap.get?_none_of_le (Fo _))
 .exact .inl e
def qX{pins:List (KF × R')}{σ:L2.St}{H1:Hp}{s1:KM}{e C:KF}{od:Option KF}{sl:Array (Option KB)}{vs:Array KB}(I:Inv (cxOf (CX1 P w) P w K mg base N qual scope f cd A outer s H E') pins σ H1 s1)
  (he:s1.heap.get? e=be ⟨.ref C,od,.fields vs,sl⟩) (h1:vs[1]?=be .none) (He:H1 e=m9) (ne:s.heap.get? e=m9) (hE:E' (.ref C) od H1):(cxOf (CX1 P w) P w K mg base N qual scope f cd A outer s H E').xe (.ref e) s1:=by
 show RS _ _ (Tj _ _) _ _ _;unfold Tj;refine Os (qU I.ok.frames I.stack rfl he h1 λh2 T2 u6 v6 s9=>flight_none (s:={s1 with heap:=h2}) u6 λh3 KH z_=>?_);have G':s1.heap.get? T2=none:=Heap.get?_none_of_le v6;have f1:∀ b,s1.heap.get? b=m9->s.heap.get? b=none:=λb q=>by
  cases z:s.heap.get? b with
  |none=>rfl
  |some o=>
   obtain⟨o',z'⟩:=I.base.there b o z (by exact λy=>absurd (show b∈([]:List KF) from y) (by simp));rw[q] at z';cases z'
 have hok:HOk P w H1 s1.heap:=I.hok;have Jh:H1 T2=none:=hok.fresh v6;have u2:Un (frs outer) [] H H1 s.heap h2:=gC (show Un (frs outer) [] H H1 s.heap s1.heap from I.base) s9 (λb hb=>by rw[Fl.mp hb];exact ne) λb hb=>qW hb;have u3:Un (frs outer) [] H H1 s.heap h3:=gC u2 z_ (λb hb=>by rw[Fl.mp hb];exact f1 T2 G') λb hb=>by cases hb
 have k2:=fF hok s9 (λb hb=>I.stkFree b hb) (λb hb=>by rw[Fl.mp hb];exact He);have k3:=fF k2 z_ (λb hb=>by cases hb) (λb hb=>by rw[Fl.mp hb];exact Jh);exact⟨e,C,od,T2,H1,rfl,I.os,I.bare,u3,k3,KH,ne,f1 T2 G',He,Jh,hE⟩
end
end Exc
namespace L2
def Same.tup{K:Ex}{H H':Hp}{a:KF}{xs:List V}(e:Same H H')(h:SqT K H a xs):SqT K H' a xs:=by
 rcases h with(h|⟨o,h⟩)|h
 .exact .inl (.inl (e _ _ h))
 .exact .inl (.inr ⟨o,e _ _ h⟩)
 .exact .inr h
end L2
namespace My
def fG{X:Cx}:fE (Exc.CX1 X.prog X.w) X E0:=λ_ _ _ _ _ _ _ h=>by
 obtain⟨e,C,od,T,H',_,_,_,_,_,_,_,_,_,_,h⟩:=h;exact h.elim
def Fun.okC{P:P3}{w:RT}{K:Ex}{mg:D'->Option KB}{base:Heap}{CX:CXT}{x qual:D'}{st:RO}{f:KF}{fd:RY}{N ps:List D'}{k:Nat}{sp:Sp}(F:Fun K x qual st f fd)(S:FnScope N ps (ag st))(len:∀ vs H Q E,sp vs H Q E->vs.length=ps.length)
  (a9:∀ (cdv:KB) (A:RU) (outer:List SE) (s:KM) (H:Hp) (vs:List V) (Q:VK) (E:XK),Room k (A.deeper (R7 qual (ag st) s.heap.objs.size f cdv))->sp vs H Q E->
   ∃ t,PSs (cxOf CX P w K mg base N qual (ag st) f cdv A outer s H E) (aK st) t/\t {nx:=λ_ H'=>Q .non H',rt:=Q} (start N vs) H):FnOk P w K mg base CX (k+1) f fd ps sp:=by
 obtain⟨oc,od,kV,doc,pm,an,cdv,ct,osl,rfl,lk,gt⟩:=F.ex;refine qA lk gt S len λA outer s H vs Q E hr t5=>?_;exact a9 cdv A outer s H vs Q E hr t5
def Cal(P:P3)(w:RT)(K:Ex)(mg:D'->Option KB)(base:Heap)(n:Nat)(x:D')(ps:List D')(sp:Sp):Prop:=
 ∃ f fd,FnOk P w K mg base (Exc.CX1 P w) n f fd ps sp/\Binds K fd ps []/\keepIn K (.ref f)=true/\mg x=be (.ref f)
def Tx(K:Ex)(mg:D'->Option KB)(x:D')(st:RO)(ps:List D'):Prop:=
 ∃ f fd,Fun K x x st f fd/\Binds K fd ps []/\mg x=be (.ref f)
section
variable {X:Cx}{n m:Nat}{ps:List D'}{sp:Sp}{x:D'}{p pos:R5}{e:RP}{es:List RP}{t:TA}
def xQ(C:Cal X.prog X.w X.K X.mg X.base n x ps sp)(hr:Room m X.A)(ha:PA X (e::es) t)(hg:autoParam (Gl X x) zA0)(hn:autoParam (n<=m) zA1)(d7:autoParam (zND x) zA1)
  (he:autoParam (zSE X e es) zA0) (c7:autoParam (zPL X pos es) zA0):
  PE X (.Call (.Name x p) (e::es) [] pos) (qw sp [] E0 t):=by
 obtain⟨f,fd,F,hb,hk,hm⟩:=C;exact wV F (hr.mono hn) hg hm hk hb .nil fG ha d7 he c7
end
section
variable {P:P3}{w:RT}{K:Ex}{mg:D'->Option KB}{base:Heap}
def Tx.ok{x:D'}{st:RO}{N ps:List D'}{k:Nat}{sp:Sp}(T:Tx K mg x st ps)(S:FnScope N ps (ag st))(len:∀ vs H Q E,sp vs H Q E->vs.length=ps.length)
  (a9:∀ (f:KF) (cdv:KB) (A:RU) (outer:List SE) (s:KM) (H:Hp) (vs:List V) (Q:VK) (E:XK),Room k (A.deeper (R7 x (ag st) s.heap.objs.size f cdv))->sp vs H Q E->
   ∃ t,PSs (cxOf (Exc.CX1 P w) P w K mg base N x (ag st) f cdv A outer s H E).nox (aK st) t/\t {nx:=λ_ H'=>Q .non H',rt:=Q} (start N vs) H):Cal P w K mg base (k+1) x ps sp:=by
 obtain⟨f,fd,F,hb,hm⟩:=T;refine⟨f,fd,Fun.okC F S len (λcdv A outer s H vs Q E hr h=>?_),hb,F.kp,hm⟩;obtain⟨t,h1,h2⟩:=a9 f cdv A outer s H vs Q E hr h;exact⟨t,h1.nox,h2⟩
end
def aU{H:Hp}{p:KF}(h:H p=m9)(o:HO):Same H (upd H p o):=λb u q=>by rw[au (bQ q h)];exact q
def sz{n:Nat}(h:n<=1000):n<=sizeLine:=GW (xE h)
end My
namespace L2
section
variable {X:Cx}
variable{e:RP}
def PE.anti{t t':TE}(h:PE X e t)(a:∀ s H Q,t' s H Q->t s H Q):PE X e t':=λpins s σ H Q I q=>h pins s σ H Q I (a _ _ _ q)
def PT.anti{t t':TT}(h:PT X e t)(a:∀ s H Q,t' s H Q->t s H Q):PT X e t':=λpins s σ H Q I q=>h pins s σ H Q I (a _ _ _ q)
def PW.anti{t t':TT}(h:PW X e t)(a:∀ s H Q,t' s H Q->t s H Q):PW X e t':=λwh pins s σ H Q I q=>h wh pins s σ H Q I (a _ _ _ q)
def PA.anti{e:List RP}{t t':TA}(h:PA X e t)(a:∀ s H Q,t' s H Q->t s H Q):PA X e t':=λp pins s σ H Q I q=>h p pins s σ H Q I (a _ _ _ q)
def PS.anti{e:RO}{t t':TS}(h:PS X e t)(a:∀ E s H,t' E s H->t E s H):PS X e t':=λpins s σ H Q I q=>h pins s σ H Q I (a _ _ _ q)
def PSs.anti{e:List RO}{t t':TS}(h:PSs X e t)(a:∀ E s H,t' E s H->t E s H):PSs X e t':=λpins s σ H Q I q=>h pins s σ H Q I (a _ _ _ q)
end
end L2
namespace My
inductive D where
 |non|bl (b:Bool)|int (i:Int)|str (x:Str)|tup (xs:List D)|lst (xs:List D)
  |rol (xs:List D)
  |obj (x:D') (fs:List (D' × D))
  |exc (x:D') (fs:List (D' × D))
  |own (xs:List D)
  |ptr (a:KF)
  |dti (a8:List ((Int × Int) × Int))
def dtiV(a8:List ((Int × Int) × Int)):List (List Key × V):=a8.map λe=>([.inl e.1.1,.inl e.1.2],.int e.2)
def XO(e C:KF)(od:Option KF):HO:= .ext λh=>∃ vs sl,h.get? e=be ⟨.ref C,od,.fields vs,sl⟩
mutual
def Rep(K:Ex)(H:Hp):D->V->Prop
 | .non,v=>v= .non
 | .bl b,v=>v= .bl b
 | .int i,v=>v= .int i
 | .str x,v=>v= .str x
 | .tup ds,v=>∃ a vs,v= .ref a/\H a=be (.tup vs)/\Reps K H ds vs
 | .lst ds,v=>∃ a vs,v= .ref a/\H a=be (.lst vs)/\Reps K H ds vs
 | .rol ds,v=>∃ a vs,v= .ref a/\SqL K H a vs/\Reps K H ds vs
 | .obj x fs,v=>∃ a C dx vs,v= .ref a/\nsIn K Pi x=be (be (.ref C))/\H a=be (.ins C dx vs)/\RepF K H fs vs
 | .exc x fs,v=>∃ a C od vs,v= .ref a/\nsIn K Pi x=be (be (.ref C))/\H a=be (XO a C od)/\RepF K H fs vs/\((od=m9/\vs=[])\/∃ b,od=be b/\H b=be (.xd vs))
 | .own _,_=>False
 | .ptr a,v=>v= .ref a
 | .dti a8,v=>∃ a,v= .ref a/\H a=be (.dT (dtiV a8))
def RepF(K:Ex)(H:Hp):List (D' × D)->List (D' × V)->Prop
 |[],vs=>vs=[]
 |(f,d)::ds,vs=>∃ v r,vs=(f,v)::r/\Rep K H d v/\RepF K H ds r
def Reps(K:Ex)(H:Hp):List D->List V->Prop
 |[],vs=>vs=[]
 |d::ds,vs=>∃ v r,vs=v::r/\Rep K H d v/\Reps K H ds r
end
mutual
def Rep.mono{K:Ex}{H H':Hp}(g:Same H H'):∀ (d:D) (v:V),Rep K H d v->Rep K H' d v
 | .non,v,h=>by unfold Rep at h ⊢;exact h
 | .bl b,v,h=>by unfold Rep at h ⊢;exact h
 | .int b,v,h=>by unfold Rep at h ⊢;exact h
 | .str b,v,h=>by unfold Rep at h ⊢;exact h
 | .tup ds,v,h=>by
  unfold Rep at h ⊢;obtain⟨a,vs,e,q,r⟩:=h;exact⟨a,vs,e,g _ _ q,Reps.mono g ds vs r⟩
 | .lst ds,v,h=>by
  unfold Rep at h ⊢;obtain⟨a,vs,e,q,r⟩:=h;exact⟨a,vs,e,g _ _ q,Reps.mono g ds vs r⟩
 | .rol ds,v,h=>by
  unfold Rep at h ⊢;obtain⟨a,vs,e,q,r⟩:=h;exact⟨a,vs,e,g.seq q,Reps.mono g ds vs r⟩
 | .obj C fs,v,h=>by
  unfold Rep at h ⊢;obtain⟨a,C,dx,vs,e,n,q,r⟩:=h;exact⟨a,C,dx,vs,e,n,g _ _ q,RepF.mono g fs vs r⟩
 | .exc C fs,v,h=>by
  unfold Rep at h ⊢;obtain⟨a,C,od,vs,e,n,q,r,d⟩:=h;exact⟨a,C,od,vs,e,n,g _ _ q,RepF.mono g fs vs r,d.imp id λ⟨b,h1,h2⟩=>⟨b,h1,g _ _ h2⟩⟩
 | .own ds,v,h=>by
  unfold Rep at h ⊢;exact h
 | .ptr a,v,h=>by unfold Rep at h ⊢;exact h
 | .dti a8,v,h=>by
  unfold Rep at h ⊢;obtain⟨a,e,q⟩:=h;exact⟨a,e,g _ _ q⟩
def RepF.mono{K:Ex}{H H':Hp}(g:Same H H'):∀ (ds:List (D' × D)) (vs:List (D' × V)),RepF K H ds vs->RepF K H' ds vs
 |[],vs,h=>by unfold RepF at h ⊢;exact h
 |(f,d)::ds,vs,h=>by
  unfold RepF at h ⊢;obtain⟨v,r,e,q1,q2⟩:=h;exact⟨v,r,e,Rep.mono g d v q1,RepF.mono g ds r q2⟩
def Reps.mono{K:Ex}{H H':Hp}(g:Same H H'):∀ (ds:List D) (vs:List V),Reps K H ds vs->Reps K H' ds vs
 |[],vs,h=>by unfold Reps at h ⊢;exact h
 |d::ds,vs,h=>by
  unfold Reps at h ⊢;obtain⟨v,r,e,q1,q2⟩:=h;exact⟨v,r,e,Rep.mono g d v q1,Reps.mono g ds r q2⟩
end
section
variable {K:Ex}{H:Hp}
variable{v:V}
def rep_non:Rep K H .non v↔v= .non:=by unfold Rep;exact Iff.rfl
def rep_bl{b:Bool}:Rep K H (.bl b) v↔v= .bl b:=by unfold Rep;exact Iff.rfl
def rep_int{i:Int}:Rep K H (.int i) v↔v= .int i:=by unfold Rep;exact Iff.rfl
variable{x:D'}
def rep_str:Rep K H (.str x) v↔v= .str x:=by unfold Rep;exact Iff.rfl
variable{ds:List D}
def rep_tupS:Rep K H (.tup ds) v↔∃ a vs,v= .ref a/\H a=be (.tup vs)/\Reps K H ds vs:=by
 constructor
 .intro h;unfold Rep at h;exact h
 .intro h;unfold Rep;exact h
def rep_tup_mp(h:Rep K H (.tup ds) v):∃ a vs,v= .ref a/\SqT K H a vs/\Reps K H ds vs:=by
 obtain⟨a,vs,e,q,r⟩:=rep_tupS.mp h;exact⟨a,vs,e,SqT.of q,r⟩
def rep_ptr{a:KF}:Rep K H (.ptr a) v↔v= .ref a:=by unfold Rep;exact Iff.rfl
def rep_dti{a8:List ((Int × Int) × Int)}:Rep K H (.dti a8) v↔∃ a,v= .ref a/\H a=be (.dT (dtiV a8)):=by
 constructor
 .intro h;unfold Rep at h;exact h
 .intro h;unfold Rep;exact h
def rep_lst:Rep K H (.lst ds) v↔∃ a vs,v= .ref a/\H a=be (.lst vs)/\Reps K H ds vs:=by
 constructor
 .intro h;unfold Rep at h;exact h
 .intro h;unfold Rep;exact h
def rep_rol:Rep K H (.rol ds) v↔∃ a vs,v= .ref a/\SqL K H a vs/\Reps K H ds vs:=by
 constructor
 .intro h;unfold Rep at h;exact h
 .intro h;unfold Rep;exact h
variable{fs:List (D' × D)}
def rep_obj:Rep K H (.obj x fs) v↔∃ a C dx vs,v= .ref a/\nsIn K Pi x=be (be (.ref C))/\H a=be (.ins C dx vs)/\RepF K H fs vs:=by
 constructor
 .intro h;unfold Rep at h;exact h
 .intro h;unfold Rep;exact h
def rep_exc:Rep K H (.exc x fs) v↔∃ a C od vs,v= .ref a/\nsIn K Pi x=be (be (.ref C))/\H a=be (XO a C od)/\RepF K H fs vs/\((od=m9/\vs=[])\/∃ b,od=be b/\H b=be (.xd vs)):=by
 constructor
 .intro h;unfold Rep at h;exact h
 .intro h;unfold Rep;exact h
def rep_own:¬ Rep K H (.own ds) v:=by intro h;unfold Rep at h;exact h
variable{vs:List (D' × V)}
def repf_nil:RepF K H [] vs↔vs=[]:=by unfold RepF;exact Iff.rfl
def repf_cons{f:D'}{d:D}{ds:List (D' × D)}:RepF K H ((f,d)::ds) vs↔∃ v r,vs=(f,v)::r/\Rep K H d v/\RepF K H ds r:=by
 constructor
 .intro h;unfold RepF at h;exact h
 .intro h;unfold RepF;exact h
def RepF.look{f:D'}{d:D}:∀ {fs:List (D' × D)} {vs:List (D' × V)},RepF K H fs vs->fs.lookup f=be d->∃ v,vs.lookup f=be v/\Rep K H d v
 |[],_,_,e=>by cases e
 |(g,x)::fs,vs,h,e=>by
  obtain⟨v,r,rfl,h1,h2⟩:=repf_cons.mp h;rw[FI] at e ⊢;split at e
  .cases e;exact⟨v,rfl,h1⟩
  .exact RepF.look h2 e
def RepF.none{f:D'}:∀ {fs:List (D' × D)} {vs:List (D' × V)},RepF K H fs vs->fs.lookup f=Option.none->vs.lookup f=Option.none
 |[],vs,h,_=>by rw[repf_nil.mp h];rfl
 |(g,x)::fs,vs,h,e=>by
  obtain⟨v,r,rfl,h1,h2⟩:=repf_cons.mp h;rw[FI] at e ⊢;split at e
  .cases e
  .exact RepF.none h2 e
def reps_nil{vs:List V}:Reps K H [] vs↔vs=[]:=by unfold Reps;exact Iff.rfl
def reps_cons{d:D}{vs:List V}:Reps K H (d::ds) vs↔∃ v r,vs=v::r/\Rep K H d v/\Reps K H ds r:=by
 constructor
 .intro h;unfold Reps at h;exact h
 .intro h;unfold Reps;exact h
def Reps.length:∀ {ds:List D} {vs:List V},Reps K H ds vs->vs.length=ds.length
 |[],vs,h=>by rw[reps_nil.mp h];rfl
 |d::ds,vs,h=>by
  obtain⟨v,r,rfl,_,h2⟩:=reps_cons.mp h;rw[Fq,Fq,Reps.length h2]
def Reps.get:∀ {ds:List D} {vs:List V} {i:Nat} {d:D},Reps K H ds vs->ds[i]?=be d->∃ v,vs[i]?=be v/\Rep K H d v
 |[],_,_,_,_,e=>by simp at e
 |x::ds,vs,0,d,h,e=>by
  obtain⟨v,r,rfl,h1,_⟩:=reps_cons.mp h;simp at e;subst e;exact⟨v,rfl,h1⟩
 |x::ds,vs,i+1,d,h,e=>by
  obtain⟨v,r,rfl,_,h2⟩:=reps_cons.mp h;obtain⟨u,q1,q2⟩:=Reps.get (i:=i) h2 (by simpa using e);exact⟨u,by simpa using q1,q2⟩
def Reps.ints:∀ {ns:List Int} {vs:List V},Reps K H (ns.map D.int) vs↔vs=ns.map V.int
 |[],vs=>reps_nil
 |n::ns,vs=>by
  rw[FB,reps_cons,FB];constructor
  .rintro⟨v,r,rfl,h1,h2⟩;rw[rep_int.mp h1,Reps.ints.mp h2]
  .rintro rfl;exact⟨_,_,rfl,rep_int.mpr rfl,Reps.ints.mpr rfl⟩
end
abbrev SD:=List (Option D)
def gD:D->Bool| .own _=>true|_=>false
structure RepS(K:Ex)(B F H:Hp)(t:SD)(s:L2.St):Prop where
 len:s.length=t.length
 val:∀ (i:Nat) d,t[i]?=be (be d)->gD d=false->∃ v,s[i]?=be (be v)/\Rep K F d v
 own:∀ (i:Nat) ds,t[i]?=be (be (.own ds))->∃ a vs,s[i]?=be (be (.ref a))/\H a=be (.lst vs)/\B a=m9/\F a=m9/\Reps K F ds vs
 apart:∀ (i j:Nat) di dj a,t[i]?=be (be (.own di))->t[j]?=be (be (.own dj))->s[i]?=be (be (.ref a))->s[j]?=be (be (.ref a))->i=j
structure Grow(F H F' H':Hp):Prop where
 ff:Same F F'
 fh:Same F' H'
 hh:Same H H'
 out:∀ b,F b=m9->H b≠m9->F' b=m9
variable{F H:Hp}
def Grow.refl(h:Same F H):Grow F H F H:=⟨Same.refl F,h,Same.refl H,λ_ h _=>h⟩
def Grow.trans{F1 H1 F2 H2:Hp}(g:Grow F H F1 H1)(k:Grow F1 H1 F2 H2):Grow F H F2 H2:=
 ⟨g.ff.trans k.ff,k.fh,g.hh.trans k.hh,λb h1 h2=>k.out b (g.out b h1 h2) (by
  cases e:H b with
  |none=>exact absurd e h2
  |some o=>rw[g.hh b o e];exact λz=>nomatch z)⟩
def Grow.new{p:KF}(h:Same F H)(hp:H p=m9)(o:HO):Grow F H (upd F p o) (upd H p o):=by
 have fp:F p=none:=h.free hp;refine⟨aU fp o,λb u e=>?_,aU hp o,λb h1 h2=>?_⟩
 .by_cases hb:b=p
  .subst hb;rw[aC] at e ⊢;exact e
  .rw[au hb] at e ⊢;exact h b u e
 .by_cases hb:b=p
  .subst hb;exact absurd hp h2
  .rw[au hb];exact h1
class Jx where
 B:Hp
 F0:Hp
 RX:SD->D'->List (D' × D)->Prop
structure Kept[J:Jx](B F0 F H:Hp):Prop where
 bh:Same B H
 fh:Same F H
 f0:Same F0 F
 out:∀ b,F0 b=m9->B b≠m9->F b=m9
 eb:B=J.B
 jf:Same J.F0 F0
 jo:∀ b,J.F0 b=m9->B b≠m9->F0 b=m9
variable{B:Hp}
def Kept.kf[J:Jx]{F0:Hp}(k:Kept B F0 F H):Kept B J.F0 F H:=⟨k.bh,k.fh,k.jf.trans k.f0,λb h1 h2=>k.out b (k.jo b h1 h2) h2,k.eb,Same.refl _,λ_ h _=>h⟩
def Kept.grow[Jx]{F0 F' H':Hp}(k:Kept B F0 F H)(g:Grow F H F' H'):Kept B F0 F' H':=
 ⟨k.bh.trans g.hh,g.fh,k.f0.trans g.ff,λb h1 h2=>g.out b (k.out b h1 h2) (by
  cases e:B b with
  |none=>exact absurd e h2
  |some o=>rw[k.bh b o e];exact λz=>nomatch z),k.eb,k.jf,k.jo⟩
section
variable {K:Ex}{B F H F' H':Hp}{t:SD}{s:L2.St}
def RepS.grow(g:Grow F H F' H')(h:RepS K B F H t s):RepS K B F' H' t s where
 len:=h.len
 val:=λi d e no=>let ⟨v,q1,q2⟩:=h.val i d e no;⟨v,q1,q2.mono g.ff⟩
 own:=λi ds e=>by
  obtain⟨a,vs,q1,q2,q3,q4,q5⟩:=h.own i ds e;exact⟨a,vs,q1,g.hh a _ q2,q3,g.out a q4 (by rw[q2];exact λz=>nomatch z),q5.mono g.ff⟩
 apart:=h.apart
variable{i:Nat}
def RepS.set{d:D}{v:V}(h:RepS K B F H t s)(r:Rep K F d v):RepS K B F H (t.set i (be d)) (s.set i (be v)):=by
 have no:gD d=false:=by
  cases d with
  |own ds=>exact absurd r rep_own
  |_=>rfl
 have get:∀ {j:Nat} {x:D},(t.set i (be d))[j]?=be (be x)->(j=i/\x=d/\i<t.length)\/(j≠i/\t[j]?=be (be x)):=λ{j x} e=>by
  by_cases hj:i=j
  .subst hj;rw[GN] at e;simp at e;exact .inl ⟨rfl,e.2.symm,e.1⟩
  .rw[FM hj] at e;exact .inr ⟨λz=>hj z.symm,e⟩
 refine⟨by rw[Gj,Gj];exact h.len,λj x e nx=>?_,λj ds e=>?_,λj k dj dk a e1 e2 e3 e4=>?_⟩
 .rcases get e with⟨rfl,rfl,hl⟩|⟨hj,e⟩
  .exact⟨v,by rw[Ga (by rw[h.len];exact hl)],r⟩
  .obtain⟨u,q1,q2⟩:=h.val j x e nx;exact⟨u,by rw[FM (λz=>hj z.symm)];exact q1,q2⟩
 .rcases get e with⟨rfl,rfl,hl⟩|⟨hj,e⟩
  .cases no
  .obtain⟨a,vs,q1,q⟩:=h.own j ds e;exact⟨a,vs,by rw[FM (λz=>hj z.symm)];exact q1,q⟩
 .rcases get e1 with⟨rfl,rfl,hl⟩|⟨hj,e1⟩
  .cases no
  .rcases get e2 with⟨rfl,rfl,hl⟩|⟨hk,e2⟩
   .cases no
   .rw[FM (λz=>hj z.symm)] at e3;rw[FM (λz=>hk z.symm)] at e4;exact h.apart j k dj dk a e1 e2 e3 e4
variable{ds:List D}
def RepS.setOwn{a:KF}{vs:List V}(h:RepS K B F H t s)(hB:B a=m9)(hF:F a=m9)(r:Reps K F ds vs)
  (free:∀ (j:Nat) dj,j≠i->t[j]?=be (be (.own dj))->s[j]?≠be (be (.ref a))):RepS K B F (upd H a (.lst vs)) (t.set i (be (.own ds))) (s.set i (be (.ref a))):=by
 have get:∀ {j:Nat} {x:D},(t.set i (be (.own ds)))[j]?=be (be x)->(j=i/\x= .own ds/\i<t.length)\/(j≠i/\t[j]?=be (be x)):=λ{j x} e=>by
  by_cases hj:i=j
  .subst hj;rw[GN] at e;simp at e;exact .inl ⟨rfl,e.2.symm,e.1⟩
  .rw[FM hj] at e;exact .inr ⟨λz=>hj z.symm,e⟩
 refine⟨by rw[Gj,Gj];exact h.len,λj x e nx=>?_,λj dj e=>?_,λj k dj dk b e1 e2 e3 e4=>?_⟩
 .rcases get e with⟨rfl,rfl,hl⟩|⟨hj,e⟩
  .cases nx
  .obtain⟨u,q1,q2⟩:=h.val j x e nx;exact⟨u,by rw[FM (λz=>hj z.symm)];exact q1,q2⟩
 .rcases get e with⟨rfl,e,hl⟩|⟨hj,e⟩
  .cases e;exact⟨a,vs,by rw[Ga (by rw[h.len];exact hl)],aC,hB,hF,r⟩
  .obtain⟨b,us,q1,q2,q⟩:=h.own j dj e;have ne:b≠a:=λz=>free j dj hj e (z ▸ q1);exact⟨b,us,by rw[FM (λz=>hj z.symm)];exact q1,by rw[au ne];exact q2,q⟩
 .rcases get e1 with⟨hj,c1,hl⟩|⟨hj,f1⟩
  .rcases get e2 with⟨hk,c2,Jg⟩|⟨hk,f2⟩
   .rw[hj,hk]
   .rw[hj,Ga (by rw[h.len];exact hl)] at e3;rw[FM (λz=>hk z.symm)] at e4;cases e3;exact absurd e4 (free k dk hk f2)
  .rcases get e2 with⟨hk,c2,Jg⟩|⟨hk,f2⟩
   .rw[hk,Ga (by rw[h.len];exact Jg)] at e4;rw[FM (λz=>hj z.symm)] at e3;cases e4;exact absurd e3 (free j dj hj f1)
   .rw[FM (λz=>hj z.symm)] at e3;rw[FM (λz=>hk z.symm)] at e4;exact h.apart j k dj dk b f1 f2 e3 e4
def RepS.freeze[Jx]{F0:Hp}(h:RepS K B F H t s)(k:Kept B F0 F H)(e:t[i]?=be (be (.own ds))):∃ F',Kept B F0 F' H/\RepS K B F' H (t.set i (be (.lst ds))) s:=by
 obtain⟨a,vs,q1,q2,q3,q4,q5⟩:=h.own i ds e;have hl:i<t.length:=(FG.mp e).1;have g:Same F (upd F a (.lst vs)):=aU q4 _;have get:∀ {j:Nat} {x:D},(t.set i (be (.lst ds)))[j]?=be (be x)->(j=i/\x= .lst ds)\/(j≠i/\t[j]?=be (be x)):=λ{j x} e=>by
  by_cases hj:i=j
  .subst hj;rw[GN] at e;simp at e;exact .inl ⟨rfl,e.2.symm⟩
  .rw[FM hj] at e;exact .inr ⟨λz=>hj z.symm,e⟩
 refine⟨upd F a (.lst vs),⟨k.bh,λb o z=>?_,k.f0.trans g,λb h1 h2=>?_,k.eb,k.jf,k.jo⟩,⟨by rw[Gj];exact h.len,λj x e' nx=>?_,λj dj e'=>?_,λj l dj dl b e1 e2 e3 e4=>?_⟩⟩
 .by_cases hb:b=a
  .subst hb;rw[aC] at z;cases z;exact q2
  .rw[au hb] at z;exact k.fh b o z
 .by_cases hb:b=a
  .subst hb;exact absurd q3 h2
  .rw[au hb];exact k.out b h1 h2
 .rcases get e' with⟨rfl,rfl⟩|⟨hj,e'⟩
  .exact⟨.ref a,q1,rep_lst.mpr ⟨a,vs,rfl,aC,q5.mono g⟩⟩
  .obtain⟨u,p1,p2⟩:=h.val j x e' nx;exact⟨u,p1,p2.mono g⟩
 .rcases get e' with⟨rfl,c⟩|⟨hj,e'⟩
  .cases c
  .obtain⟨b,us,p1,p2,p3,p4,p5⟩:=h.own j dj e';have ne:b≠a:=λz=>hj (h.apart j i dj ds a e' e (z ▸ p1) q1);exact⟨b,us,p1,p2,p3,by rw[au ne];exact p4,p5.mono g⟩
 .rcases get e1 with⟨rfl,c⟩|⟨hj,e1⟩
  .cases c
  .rcases get e2 with⟨rfl,c⟩|⟨hk,e2⟩
   .cases c
   .exact h.apart j l dj dl b e1 e2 e3 e4
end
def startD(N:List D')(ds:List D):SD:=ds.map be++Gg (N.length - ds.length) m9
variable{K:Ex}
def Rep.noown{d:D}{v:V}(r:Rep K F d v):gD d=false:=by
 cases d with
 |own ds=>exact absurd r rep_own
 |_=>rfl
def eg{N:List D'}{ds:List D}{vs:List V}(h:Reps K F ds vs):RepS K B F H (startD N ds) (L2.start N vs):=by
 have hl:=h.length;have get:∀ (i:Nat) d,(startD N ds)[i]?=be (be d)->∃ v,(L2.start N vs)[i]?=be (be v)/\Rep K F d v:=λi d e=>by
  unfold startD at e;unfold L2.start;by_cases hi:i<ds.length
  .rw[F8 (by simpa using hi),FF] at e;cases q:ds[i]? with
   |none=>rw[q] at e;cases e
   |some x=>
    rw[q] at e;cases e;obtain⟨v,q1,q2⟩:=h.get q;exact⟨v,by rw[F8 (by simpa[hl] using hi),FF,q1];rfl,q2⟩
  .rw[Gh (by simpa using hi),Hq] at e;split at e<;>cases e
 refine⟨by unfold startD L2.start;simp[hl],λi d e _=>get i d e,λi d e=>?_,λi j di dj a e=>?_⟩
 .obtain⟨v,_,r⟩:=get i _ e;exact absurd r rep_own
 .obtain⟨v,_,r⟩:=get i _ e;exact absurd r rep_own
abbrev TD:=SD->(D->Prop)->Prop
abbrev TDT:=SD->(Bool->Prop)->Prop
abbrev TDA:=SD->(List D->Prop)->Prop
structure EndsD where
 nx:SD->Prop
 rt:D->Prop
 bk:SD->Prop:=λ_=>False
 ct:SD->Prop:=λ_=>False
abbrev TSD:=EndsD->SD->Prop
def lE(K:Ex)[J:Jx](t:TD):TE:=λs H Q=>∃ B F z,Kept B J.F0 F H/\RepS K B F H z s/\∃ R:D->Prop,t z R/\∀ d v F' H',Grow F H F' H'->R d->Rep K F' d v->Q v H'
def lT(K:Ex)[J:Jx](t:TDT):TT:=λs H Q=>∃ B F z,Kept B J.F0 F H/\RepS K B F H z s/\∃ R:Bool->Prop,t z R/\∀ b F' H',Grow F H F' H'->R b->Q b H'
def lA(K:Ex)[J:Jx](t:TDA):TA:=λs H Q=>∃ B F z,Kept B J.F0 F H/\RepS K B F H z s/\∃ R:List D->Prop,t z R/\∀ ds vs F' H',Grow F H F' H'->R ds->Reps K F' ds vs->Q vs H'
structure EndsOk[Jx](K:Ex)(B F0:Hp)(ED:EndsD)(E:Ends):Prop where
 nx:∀ z' s' F' H',Kept B F0 F' H'->ED.nx z'->RepS K B F' H' z' s'->E.nx s' H'
 rt:∀ d v F' H',Kept B F0 F' H'->ED.rt d->Rep K F' d v->E.rt v H'
 bk:∀ z' s' F' H',Kept B F0 F' H'->ED.bk z'->RepS K B F' H' z' s'->E.bk s' H'
 ct:∀ z' s' F' H',Kept B F0 F' H'->ED.ct z'->RepS K B F' H' z' s'->E.ct s' H'
def lS(K:Ex)[Jx](t:TSD):TS:=λE s H=>∃ B F0 F z,Kept B F0 F H/\RepS K B F H z s/\∃ ED:EndsD,t ED z/\EndsOk K B F0 ED E
abbrev DE(X:Cx)[Jx](e:RP)(t:TD):Prop:=PE X e (lE X.K t)
abbrev DT(X:Cx)[Jx](e:RP)(t:TDT):Prop:=PT X e (lT X.K t)
abbrev DW(X:Cx)[Jx](e:RP)(t:TDT):Prop:=PW X e (lT X.K t)
abbrev DA(X:Cx)[Jx](es:List RP)(t:TDA):Prop:=PA X es (lA X.K t)
abbrev DS(X:Cx)[Jx](st:RO)(t:TSD):Prop:=PS X st (lS X.K t)
abbrev DSs(X:Cx)[Jx](st:List RO)(t:TSD):Prop:=PSs X st (lS X.K t)
structure WDE(X:Cx)[Jx](e:RP)(t:TD):Prop where
 out:DE X e t
structure WDT(X:Cx)[Jx](e:RP)(t:TDT):Prop where
 out:DT X e t
structure WDW(X:Cx)[Jx](e:RP)(t:TDT):Prop where
 out:DW X e t
structure WDA(X:Cx)[Jx](es:List RP)(t:TDA):Prop where
 out:DA X es t
structure WDS(X:Cx)[Jx](st:RO)(t:TSD):Prop where
 out:DS X st t
structure WDSs(X:Cx)[Jx](st:List RO)(t:TSD):Prop where
 out:DSs X st t
section
variable {X:Cx}
def okR(R:D->Prop):D->Prop| .own _=>False|d=>R d
def dVar(i:Nat):TD:=λz R=>match z[i]? with|some (be d)=>okR R d|_=>False
def dC(d:D):TD:=λ_ R=>R d
variable{x:D'}
def aa[Jx](i:Nat){pos:R5}(hN:autoParam (X.N[i]?=be x) zA0)(hv:autoParam (Vis X.env.scope x) zA5)(hd:autoParam (zND x) zA1)
  (gt:autoParam (zNC x) zA1):WDE X (.Name x pos) (dVar i):=⟨(dz hN hv hd gt).anti λs H Q h=>by
 obtain⟨B,F,z,kf,r,R,h1,h2⟩:=h;have fh:=kf.fh;unfold dVar at h1;split at h1
 .rename_i d e;have no:gD d=false:=by
   cases d with
   |own ds=>exact False.elim h1
   |_=>rfl
  have Qa:R d:=by
   cases d with
   |own ds=>exact False.elim h1
   |_=>exact h1
  obtain⟨v,q1,q2⟩:=r.val i d e no;exact⟨v,q1,h2 d v F H (Grow.refl fh) Qa q2⟩
 .exact h1.elim⟩
variable{e:RP}
def de_c[Jx]{d:D}{v:V}(h:PE X e (tC v))(r:∀ H,Rep X.K H d v):DE X e (dC d):=h.anti λs H Q q=>by
 obtain⟨B,F,z,kf,_,R,h1,h2⟩:=q;have fh:=kf.fh;exact h2 d v F H (Grow.refl fh) h1 (r F)
def ad[Jx]{i j pos}:WDE X (.Constant (.int i) j pos) (dC (.int i)):=⟨de_c vD λ_=>rep_int.mpr rfl⟩
def ca[Jx]{b j pos}:WDE X (.Constant (.bool b) j pos) (dC (.bl b)):=⟨de_c vE λ_=>rep_bl.mpr rfl⟩
def bz[Jx]{j pos}:WDE X (.Constant .none j pos) (dC .non):=⟨de_c vF λ_=>rep_non.mpr rfl⟩
def ay[Jx]{x j pos}:WDE X (.Constant (.str x) j pos) (dC (.str x)):=⟨de_c pP λ_=>rep_str.mpr rfl⟩
abbrev RD2:=D->D->(D->Prop)->Prop
def dOp(r:RD2)(ta tb:TD):TD:=λz R=>ta z λx=>tb z λy=>r x y R
def bc(K:Ex)(r:R2)(rd:RD2):Prop:=∀ x y u v F H R Q,Same F H->rd x y R->Rep K F x u->Rep K F y v->(∀ d w F' H',Grow F H F' H'->R d->Rep K F' d w->Q w H')->r u v H Q
variable{r:R2}{rd:RD2}
def jI[Jx]{ta tb:TD}(L:bc X.K r rd)(h:PE X e (tOp r (lE X.K ta) (lE X.K tb))):DE X e (dOp rd ta tb):=h.anti λs H Q q=>by
 obtain⟨B,F,z,kf,rs,R,h1,h2⟩:=q;have fh:=kf.fh;refine⟨B,F,z,kf,rs,_,h1,λx u F1 H1 g1 hx rx=>?_⟩;refine⟨B,F1,z,kf.grow g1,rs.grow g1,_,hx,λy v F2 H2 g2 hy ry=>?_⟩;exact L x y u v F2 H2 R Q g2.fh hy (rx.mono g2.ff) ry λd w F' H' g3=>h2 d w F' H' (g1.trans (g2.trans g3))
variable {a b c:RP}{ta tb tc:TD}{pos:R5}
def dD[Jx]{op:Operator}(ho:OpR X (Sd op) r)(L:bc X.K r rd)(ha:DE X a ta)(hb:DE X b tb):DE X (.BinOp a op b pos) (dOp rd ta tb):=jI L (qg ho ha hb)
def qY[Jx]{op:TX}(ho:OpR X (R9 op) r)(L:bc X.K r rd)(ha:DE X a ta)(hb:DE X b tb)(hm:Sg op b=false):DE X (.Compare a [op] [b] pos) (dOp rd ta tb):=jI L (wx ho ha hb hm)
def xR[Jx](hr:IxR X r)(L:bc X.K r rd)(ha:DE X a ta)(hb:DE X b tb)(hs:autoParam (dY b) zA6):DE X (.Subscript a b pos) (dOp rd ta tb):=jI L (pe_ix hr ha hb hs)
def rdAdd:RD2:=λx y R=>match x,y with
 | .int i,.int j=>R (.int (i+j))
 | .str i,.str j=>i.length+j.length<=1000000/\R (.str (i++j))
 | .lst xs,.lst ys=>xs.length+ys.length<=1000000/\R (.lst (xs++ys))
 | .tup xs,.tup ys=>(xs≠[]/\ys≠[]/\xs.length+ys.length<=1000000)/\R (.tup (xs++ys))
 |_,_=>False
def qZ(K:Ex):R2:=λx y H Q=>rI0 (λi j=> .int (i+j)) x y H Q\/((λx y H Q=>∃ i j,x= .str i/\y= .str j/\i.length+j.length<=sizeLine/\Q (.str (i++j)) H) x y H Q\/(rCat x y H Q\/qH K x y H Q))
def ra:OpR X (Sd .Add) (qZ X.K):=OpR.or we (OpR.or wC (OpR.or xz xi))
def Reps.append{K:Ex}{F:Hp}:∀ {xs ys:List D} {us vs:List V},Reps K F xs us->Reps K F ys vs->Reps K F (xs++ys) (us++vs)
 |[],ys,us,vs,r1,r2=>by rw[reps_nil.mp r1];exact r2
 |x::xs,ys,us,vs,r1,r2=>by
  obtain⟨u,ur,rfl,a1,a2⟩:=reps_cons.mp r1;exact reps_cons.mpr ⟨u,ur++vs,rfl,a1,Reps.append a2 r2⟩
variable{K:Ex}
def Reps.ne_nil{F:Hp}{xs:List D}{us:List V}(r:Reps K F xs us)(h:xs≠[]):us≠[]:=by
 cases xs with
 |nil=>exact absurd rfl h
 |cons x xs=>obtain⟨u,ur,rfl,_⟩:=reps_cons.mp r;exact λz=>nomatch z
def rb:bc K (qZ K) rdAdd:=by
 intro x y u v F H R Q fh h rx ry q;unfold rdAdd at h;split at h
 .exact .inl ⟨_,_,rep_int.mp rx,rep_int.mp ry,q _ _ F H (Grow.refl fh) h (rep_int.mpr rfl)⟩
 .exact .inr (.inl ⟨_,_,rep_str.mp rx,rep_str.mp ry,FA h.1 (by decide),q _ _ F H (Grow.refl fh) h.2 (rep_str.mpr rfl)⟩)
 .obtain⟨a,us,rfl,hq,rr⟩:=rep_lst.mp rx;obtain⟨b,vs,rfl,td,u7⟩:=rep_lst.mp ry;refine .inr (.inr (.inl ⟨a,b,us,vs,rfl,rfl,fh _ _ hq,fh _ _ td,by rw[rr.length,u7.length];exact FA h.1 (by decide),λp hp=>?_⟩));exact q _ _ _ _ (Grow.new fh hp _) h.2 (rep_lst.mpr ⟨p,_,rfl,aC,(rr.append u7).mono (aU (fh.free hp) _)⟩)
 .obtain⟨a,us,rfl,hq,rr⟩:=rep_tup_mp rx;obtain⟨b,vs,rfl,td,u7⟩:=rep_tup_mp ry;obtain⟨⟨n1,n2,hz⟩,h⟩:=h;refine .inr (.inr (.inr ⟨a,b,us,vs,rfl,rfl,fh.tup hq,fh.tup td,rr.ne_nil n1,by rw[rr.length,u7.length];exact FA hz (by decide),λz=>absurd z (u7.ne_nil n2),λ_ p hp=>?_⟩));exact q _ _ _ _ (Grow.new fh hp _) h (rep_tupS.mpr ⟨p,_,rfl,aC,(rr.append u7).mono (aU (fh.free hp) _)⟩)
 .exact h.elim
def am[Jx](ha:WDE X a ta)(hb:WDE X b tb):WDE X (.BinOp a .Add b pos) (dOp rdAdd ta tb):=⟨have ha:=ha.out;have hb:=hb.out;dD ra rb ha hb⟩
def rdSub:RD2:=λx y R=>match x,y with| .int i,.int j=>R (.int (i - j))|_,_=>False
def rg:bc K (rI0 λi j=> .int (i - j)) rdSub:=by
 intro x y u v F H R Q fh h rx ry q;unfold rdSub at h;split at h
 .exact⟨_,_,rep_int.mp rx,rep_int.mp ry,q _ _ F H (Grow.refl fh) h (rep_int.mpr rfl)⟩
 .exact h.elim
def bq[Jx](ha:WDE X a ta)(hb:WDE X b tb):WDE X (.BinOp a .Sub b pos) (dOp rdSub ta tb):=⟨have ha:=ha.out;have hb:=hb.out;dD qh rg ha hb⟩
def rdMul:RD2:=λx y R=>match x,y with| .int i,.int j=>CMul i j/\R (.int (i*j))|_,_=>False
def xS:bc K (rI CMul λi j=> .int (i*j)) rdMul:=by
 intro x y u v F H R Q fh h rx ry q;unfold rdMul at h;split at h
 .exact⟨_,_,rep_int.mp rx,rep_int.mp ry,h.1,q _ _ F H (Grow.refl fh) h.2 (rep_int.mpr rfl)⟩
 .exact h.elim
def ax[Jx](ha:WDE X a ta)(hb:WDE X b tb):WDE X (.BinOp a .Mult b pos) (dOp rdMul ta tb):=⟨have ha:=ha.out;have hb:=hb.out;dD wg xS ha hb⟩
def rdFdiv:RD2:=λx y R=>match x,y with| .int i,.int j=>(0<j/\j<1073741824)/\R (.int (i / j))|_,_=>False
def xT:bc K (rI CDiv λi j=> .int (i / j)) rdFdiv:=by
 intro x y u v F H R Q fh h rx ry q;unfold rdFdiv at h;split at h
 .exact⟨_,_,rep_int.mp rx,rep_int.mp ry,h.1,q _ _ F H (Grow.refl fh) h.2 (rep_int.mpr rfl)⟩
 .exact h.elim
def aN[Jx](ha:WDE X a ta)(hb:WDE X b tb):WDE X (.BinOp a .FloorDiv b pos) (dOp rdFdiv ta tb):=⟨have ha:=ha.out;have hb:=hb.out;dD wj xT ha hb⟩
def rh(i j:Int):Prop:=j≠0/\j.natAbs<4611686018427387904
def xU:OpR X (Sd .FloorDiv) (rI rh λi j=> .int (i.fdiv j)):=opI λ_ j _ _ _ _ _ hc q=>floordiv_int hc.1 q (.inl (PyProof.noPylong_of_log2 (HU ((HW (λz=>hc.1 (HX.mp z))).mpr (show j.natAbs<2 ^ 62 from hc.2)) (by decide))))
def rdFdivN:RD2:=λx y R=>match x,y with| .int i,.int j=>(j≠0/\j.natAbs<4611686018427387904)/\R (.int (i.fdiv j))|_,_=>False
def xV:bc K (rI rh λi j=> .int (i.fdiv j)) rdFdivN:=by
 intro x y u v F H R Q fh h rx ry q;unfold rdFdivN at h;split at h
 .exact⟨_,_,rep_int.mp rx,rep_int.mp ry,h.1,q _ _ F H (Grow.refl fh) h.2 (rep_int.mpr rfl)⟩
 .exact h.elim
def xW[Jx](ha:WDE X a ta)(hb:WDE X b tb):WDE X (.BinOp a .FloorDiv b pos) (dOp rdFdivN ta tb):=⟨have ha:=ha.out;have hb:=hb.out;dD xU xV ha hb⟩
def rdMod:RD2:=λx y R=>match x,y with| .int i,.int j=>0<j/\R (.int (i % j))|_,_=>False
def xX:bc K (rI (λ_ j=>0<j) λi j=> .int (i % j)) rdMod:=by
 intro x y u v F H R Q fh h rx ry q;unfold rdMod at h;split at h
 .exact⟨_,_,rep_int.mp rx,rep_int.mp ry,h.1,q _ _ F H (Grow.refl fh) h.2 (rep_int.mpr rfl)⟩
 .exact h.elim
def aw[Jx](ha:WDE X a ta)(hb:WDE X b tb):WDE X (.BinOp a .Mod b pos) (dOp rdMod ta tb):=⟨have ha:=ha.out;have hb:=hb.out;dD wk xX ha hb⟩
def rdModN:RD2:=λx y R=>match x,y with| .int i,.int j=>j≠0/\R (.int (i.fmod j))|_,_=>False
def xY:bc K (rI (λ_ j=>j≠0) λi j=> .int (i.fmod j)) rdModN:=by
 intro x y u v F H R Q fh h rx ry q;unfold rdModN at h;split at h
 .exact⟨_,_,rep_int.mp rx,rep_int.mp ry,h.1,q _ _ F H (Grow.refl fh) h.2 (rep_int.mpr rfl)⟩
 .exact h.elim
def rj[Jx](ha:WDE X a ta)(hb:WDE X b tb):WDE X (.BinOp a .Mod b pos) (dOp rdModN ta tb):=⟨have ha:=ha.out;have hb:=hb.out;dD wl xY ha hb⟩
def rdLt:RD2:=λx y R=>match x,y with| .int i,.int j=>R (.bl (decide (i<j)))|_,_=>False
def rk:bc K (rI0 λi j=> .bl (decide (i<j))) rdLt:=by
 intro x y u v F H R Q fh h rx ry q;unfold rdLt at h;split at h
 .exact⟨_,_,rep_int.mp rx,rep_int.mp ry,q _ _ F H (Grow.refl fh) h (rep_bl.mpr rfl)⟩
 .exact h.elim
def rdLe:RD2:=λx y R=>match x,y with| .int i,.int j=>R (.bl (decide (i<=j)))|_,_=>False
def xZ:bc K (rI0 λi j=> .bl (decide (i<=j))) rdLe:=by
 intro x y u v F H R Q fh h rx ry q;unfold rdLe at h;split at h
 .exact⟨_,_,rep_int.mp rx,rep_int.mp ry,q _ _ F H (Grow.refl fh) h (rep_bl.mpr rfl)⟩
 .exact h.elim
def rdGt:RD2:=λx y R=>match x,y with| .int i,.int j=>R (.bl (decide (j<i)))|_,_=>False
def ya:bc K (rI0 λi j=> .bl (decide (j<i))) rdGt:=by
 intro x y u v F H R Q fh h rx ry q;unfold rdGt at h;split at h
 .exact⟨_,_,rep_int.mp rx,rep_int.mp ry,q _ _ F H (Grow.refl fh) h (rep_bl.mpr rfl)⟩
 .exact h.elim
def rdGe:RD2:=λx y R=>match x,y with| .int i,.int j=>R (.bl (decide (j<=i)))|_,_=>False
def yb:bc K (rI0 λi j=> .bl (decide (j<=i))) rdGe:=by
 intro x y u v F H R Q fh h rx ry q;unfold rdGe at h;split at h
 .exact⟨_,_,rep_int.mp rx,rep_int.mp ry,q _ _ F H (Grow.refl fh) h (rep_bl.mpr rfl)⟩
 .exact h.elim
def rdEq:RD2:=λx y R=>match x,y with
 | .int i,.int j=>R (.bl (decide (i=j)))
 | .bl i,.bl j=>R (.bl (decide (i=j)))
 | .str i,.str j=>R (.bl (decide (i=j)))
 | .non,.non=>R (.bl true)
 |_,_=>False
def rdNe:RD2:=λx y R=>match x,y with
 | .int i,.int j=>R (.bl (!decide (i=j)))
 | .bl i,.bl j=>R (.bl (!decide (i=j)))
 | .str i,.str j=>R (.bl (!decide (i=j)))
 | .non,.non=>R (.bl false)
 |_,_=>False
def jJ:bc K rEq rdEq:=by
 intro x y u v F H R Q fh h rx ry q;unfold rdEq at h;split at h
 .rw[rep_int.mp rx,rep_int.mp ry];refine⟨rfl,q _ _ F H (Grow.refl fh) h (rep_bl.mpr ?_)⟩;simp
 .rw[rep_bl.mp rx,rep_bl.mp ry];refine⟨rfl,q _ _ F H (Grow.refl fh) h (rep_bl.mpr ?_)⟩;simp
 .rw[rep_str.mp rx,rep_str.mp ry];refine⟨rfl,q _ _ F H (Grow.refl fh) h (rep_bl.mpr ?_)⟩;simp
 .rw[rep_non.mp rx,rep_non.mp ry];refine⟨rfl,q _ _ F H (Grow.refl fh) h (rep_bl.mpr ?_)⟩;simp
 .exact h.elim
def yc:bc K rNe rdNe:=by
 intro x y u v F H R Q fh h rx ry q;unfold rdNe at h;split at h
 .rw[rep_int.mp rx,rep_int.mp ry];refine⟨rfl,q _ _ F H (Grow.refl fh) h (rep_bl.mpr ?_)⟩;simp
 .rw[rep_bl.mp rx,rep_bl.mp ry];refine⟨rfl,q _ _ F H (Grow.refl fh) h (rep_bl.mpr ?_)⟩;simp
 .rw[rep_str.mp rx,rep_str.mp ry];refine⟨rfl,q _ _ F H (Grow.refl fh) h (rep_bl.mpr ?_)⟩;simp
 .rw[rep_non.mp rx,rep_non.mp ry];refine⟨rfl,q _ _ F H (Grow.refl fh) h (rep_bl.mpr ?_)⟩;simp
 .exact h.elim
def dE[Jx](ha:WDE X a ta)(hb:WDE X b tb):WDE X (.Compare a [.Eq] [b] pos) (dOp rdEq ta tb):=⟨have ha:=ha.out;have hb:=hb.out;qY jx jJ ha hb (nomark _)⟩
def rl:D->Bool| .non=>true|_=>false
def rdIs(f:Bool->Bool):RD2:=λx y R=>match y with| .non=>R (.bl (f (rl x)))|_=>False
def rn{H:Hp}{x:D}{u:V}(r:Rep K H x u):decide (u= .non)=rl x:=by
 cases x with
 |non=>rw[rep_non.mp r];rfl
 |bl b=>rw[rep_bl.mp r];rfl
 |int b=>rw[rep_int.mp r];rfl
 |str b=>rw[rep_str.mp r];rfl
 |tup b=>obtain⟨a,vs,rfl,_⟩:=rep_tup_mp r;rfl
 |lst b=>obtain⟨a,vs,rfl,_⟩:=rep_lst.mp r;rfl
 |rol b=>obtain⟨a,vs,rfl,_⟩:=rep_rol.mp r;rfl
 |obj C b=>obtain⟨a,C,dx,vs,rfl,_⟩:=rep_obj.mp r;rfl
 |exc C b=>obtain⟨a,C,od,vs,rfl,_⟩:=rep_exc.mp r;rfl
 |own b=>exact absurd r rep_own
 |ptr b=>rw[rep_ptr.mp r];rfl
 |dti b=>obtain⟨a,rfl,_⟩:=rep_dti.mp r;rfl
def jK:bc K (λx y H Q=>y= .non/\Q (.bl (decide (x= .non))) H) (rdIs id):=by
 intro x y u v F H R Q fh h rx ry q;unfold rdIs at h;split at h
 .exact⟨rep_non.mp ry,q _ _ F H (Grow.refl fh) h (rep_bl.mpr (by rw[rn rx];rfl))⟩
 .exact h.elim
def yd:bc K (λx y H Q=>y= .non/\Q (.bl (!decide (x= .non))) H) (rdIs not):=by
 intro x y u v F H R Q fh h rx ry q;unfold rdIs at h;split at h
 .exact⟨rep_non.mp ry,q _ _ F H (Grow.refl fh) h (rep_bl.mpr (by rw[rn rx]))⟩
 .exact h.elim
def ye[Jx](ha:WDE X a ta)(hb:WDE X b tb):WDE X (.Compare a [.Is] [b] pos) (dOp (rdIs id) ta tb):=⟨have ha:=ha.out;have hb:=hb.out;qY jy jK ha hb (nomark _)⟩
def rdIx:RD2:=λx y R=>match x,y with
 | .tup ds,.int i=>∃ d,atI ds i=be d/\R d
 | .lst ds,.int i=>∃ d,atI ds i=be d/\R d
 | .rol ds,.int i=>∃ d,atI ds i=be d/\R d
 | .str x,.int i=>∃ c,(x.length<=1000000/\atI x.cps.toList i=be c)/\R (.str ⟨#[c]⟩)
 |_,_=>False
def Reps.at{H:Hp}{ds:List D}{vs:List V}{i:Int}{d:D}(r:Reps K H ds vs)(e:atI ds i=be d):∃ v,atI vs i=be v/\Rep K H d v:=by
 unfold atI at e ⊢;rw[r.length];cases q:ixN ds.length i with
 |none=>rw[q] at e;cases e
 |some j=>
  rw[q] at e;exact r.get e
def rq:bc K (rIx K) rdIx:=by
 intro x y u v F H R Q fh h rx ry q;unfold rdIx at h;split at h
 .obtain⟨d,e,h⟩:=h;obtain⟨a,vs,e1,hq,rs⟩:=rep_tup_mp rx;obtain⟨w,e2,i9⟩:=rs.at e;exact .inr (.inl ⟨a,vs,_,w,e1,rep_int.mp ry,fh.tup hq,e2,q d w F H (Grow.refl fh) h i9⟩)
 .obtain⟨d,e,h⟩:=h;obtain⟨a,vs,e1,hq,rs⟩:=rep_lst.mp rx;obtain⟨w,e2,i9⟩:=rs.at e;exact .inl ⟨a,vs,_,w,e1,rep_int.mp ry,fh.seq (SqL.of hq),e2,q d w F H (Grow.refl fh) h i9⟩
 .obtain⟨d,e,h⟩:=h;obtain⟨a,vs,e1,hq,rs⟩:=rep_rol.mp rx;obtain⟨w,e2,i9⟩:=rs.at e;exact .inl ⟨a,vs,_,w,e1,rep_int.mp ry,fh.seq hq,e2,q d w F H (Grow.refl fh) h i9⟩
 .obtain⟨c,⟨hz,e⟩,h⟩:=h;exact .inr (.inr ⟨_,_,c,rep_str.mp rx,rep_int.mp ry,FA hz (by decide),e,q _ _ F H (Grow.refl fh) h (rep_str.mpr rfl)⟩)
 .exact h.elim
def af[Jx](ha:WDE X a ta)(hb:WDE X b tb)(hs:autoParam (dY b) zA6):WDE X (.Subscript a b pos) (dOp rdIx ta tb):=⟨have ha:=ha.out;have hb:=hb.out;xR qJ rq ha hb hs⟩
def dUn(r:D->(D->Prop)->Prop)(ta:TD):TD:=λz R=>ta z λx=>r x R
def rz:D->(D->Prop)->Prop:=λx R=>match x with| .int i=>R (.int (-i))|_=>False
def cb[Jx](ha:WDE X a ta):WDE X (.UnaryOp .USub a pos) (dUn rz ta):=⟨have ha:=ha.out;(wc wn ha).anti λs H Q h=>by
 obtain⟨B,F,z,kf,rs,R,h1,h2⟩:=h;have fh:=kf.fh;refine⟨B,F,z,kf,rs,_,h1,λx u F1 H1 g1 hx rx=>?_⟩;unfold rz at hx;split at hx
 .exact⟨_,rep_int.mp rx,h2 _ _ F1 H1 g1 hx (rep_int.mpr rfl)⟩
 .exact hx.elim⟩
def dNil:TDA:=λ_ R=>R []
def yf(ta:TD)(tr:TDA):TDA:=λz R=>ta z λx=>tr z λxs=>R (x::xs)
def ae[Jx]:WDA X [] dNil:=⟨pa_nil.anti λs H Q h=>by
 obtain⟨B,F,z,kf,rs,R,h1,h2⟩:=h;have fh:=kf.fh;exact h2 [] [] F H (Grow.refl fh) h1 (reps_nil.mpr rfl)⟩
variable{es:List RP}{t:TDA}
def ac[Jx]{te:TD}(ha:WDE X e te)(hr:WDA X es t)(hs:autoParam (zSE X e es) zA0):WDA X (e::es) (yf te t):=⟨have ha:=ha.out;have hr:=hr.out;(bx ha hr hs).anti λs H Q h=>by
 obtain⟨B,F,z,kf,rs,R,h1,h2⟩:=h;have fh:=kf.fh;refine⟨B,F,z,kf,rs,_,h1,λx u F1 H1 g1 hx rx=>?_⟩;refine⟨B,F1,z,kf.grow g1,rs.grow g1,_,hx,λxs us F2 H2 g2 hy ry=>?_⟩;exact h2 _ _ F2 H2 (g1.trans g2) hy (reps_cons.mpr ⟨_,_,rfl,rx.mono g2.ff,ry⟩)⟩
def dTup(t:TDA):TD:=λz R=>t z λxs=>xs.length<=1000/\R (.tup xs)
def dLst(t:TDA):TD:=λz R=>t z λxs=>xs.length<=1000/\R (.lst xs)
def av[Jx]{x1}(h:WDA X es t):WDE X (.Tuple es x1 pos) (dTup t):=⟨have h:=h.out;(qv h).anti λs H Q q=>by
 obtain⟨B,F,z,kf,rs,R,h1,h2⟩:=q;have fh:=kf.fh;refine⟨B,F,z,kf,rs,_,h1,λds vs F1 H1 g1 hx rx=>?_⟩;have hl:=rx.length;refine⟨sz (by rw[hl];exact hx.1),λp hp=>?_⟩;exact h2 _ _ _ _ (g1.trans (Grow.new g1.fh hp _)) hx.2 (rep_tupS.mpr ⟨p,vs,rfl,aC,rx.mono (aU (g1.fh.free hp) _)⟩)⟩
def aL[Jx](h:WDA X es t):WDE X (.List es pos) (dLst t):=⟨have h:=h.out;(jB h).anti λs H Q q=>by
 obtain⟨B,F,z,kf,rs,R,h1,h2⟩:=q;have fh:=kf.fh;refine⟨B,F,z,kf,rs,_,h1,λds vs F1 H1 g1 hx rx=>?_⟩;have hl:=rx.length;refine⟨sz (by rw[hl];exact hx.1),λp hp=>?_⟩;exact h2 _ _ _ _ (g1.trans (Grow.new g1.fh hp _)) hx.2 (rep_lst.mpr ⟨p,vs,rfl,aC,rx.mono (aU (g1.fh.free hp) _)⟩)⟩
abbrev SpD:=List D->(D->Prop)->Prop
def lSp(K:Ex)(S:SpD):Sp:=λvs H Q _=>∃ F ds,Same F H/\Reps K F ds vs/\∃ R:D->Prop,S ds R/\∀ d v F' H',Grow F H F' H'->R d->Rep K F' d v->Q v H'
def yg(S:SpD)(t:TDA):TD:=λz R=>t z λds=>S ds R
abbrev CalD(P:P3)(w:RT)(K:Ex)(mg:D'->Option KB)(base:Heap)(n:Nat)(x:D')(ps:List D')(S:SpD):Prop:=Cal P w K mg base n x ps (lSp K S)
variable{p:R5}
def aq[Jx]{n m:Nat}{ps:List D'}{S:SpD}(C:CalD X.prog X.w X.K X.mg X.base n x ps S)(hr:Room m X.A)(ha:WDA X (e::es) t)(hg:autoParam (Gl X x) zA0)(hn:autoParam (n<=m) zA1)(d7:autoParam (zND x) zA1)
  (he:autoParam (zSE X e es) zA0) (c7:autoParam (zPL X pos es) zA0):WDE X (.Call (.Name x p) (e::es) [] pos) (yg S t):=⟨have ha:=ha.out;(xQ C hr ha hg hn d7 he c7).anti λs H Q h=>by
 obtain⟨B,F,z,kf,rs,R,h1,h2⟩:=h;have fh:=kf.fh;refine⟨B,F,z,kf,rs,_,h1,λds vs F1 H1 g1 hx rx=>?_⟩;exact⟨F1,ds,g1.fh,by rw[F7];exact rx,R,hx,λd v F' H' g=>h2 d v F' H' (g1.trans g)⟩⟩
abbrev RDn:=List D->(D->Prop)->Prop
def cu(K:Ex)(r:List V->Hp->VK->Prop)(rd:RDn):Prop:=∀ ds vs F H R Q,Same F H->rd ds R->Reps K F ds vs->(∀ d w F' H',Grow F H F' H'->R d->Rep K F' d w->Q w H')->r vs H Q
def dCB(r:RDn)(t:TDA):TD:=λz R=>t z λds=>r ds R
def gE[Jx]{id:String}{r:List V->Hp->VK->Prop}{rd:RDn}(hc:bE X (.builtin id) r)(L:cu X.K r rd)(hm:X.mg x=m9)(hv:R_ x=be (.builtin id))(ha:DA X (e::es) t)(hg:autoParam (Gl X x) zA0)(hn:autoParam (x≠"__name__") zA1)(d7:autoParam (zND x) zA1)
  (he:autoParam (zSE X e es) zA0) (c7:autoParam (zPL X pos es) zA0):DE X (.Call (.Name x p) (e::es) [] pos) (dCB rd t):=(gy hc hg hm hv ha hn d7 he c7).anti λs H Q h=>by
 obtain⟨B,F,z,kf,rs,R,h1,h2⟩:=h;have fh:=kf.fh;refine⟨B,F,z,kf,rs,_,h1,λds vs F1 H1 g1 hx rx=>?_⟩;exact L ds vs F1 H1 R Q g1.fh hx rx λd w F' H' g=>h2 d w F' H' (g1.trans g)
def rdLen:RDn:=λds R=>match ds with
 |[.tup xs]=>R (.int xs.length)
 |[.lst xs]=>R (.int xs.length)
 |[.rol xs]=>R (.int xs.length)
 |[.str x]=>x.length<=1000000/\R (.int x.length)
 |_=>False
def rA:cu K (λxs H Q=>∃ x n,xs=[x]/\LenV K x H n/\Q (.int n) H) rdLen:=by
 intro ds vs F H R Q fh h rx q;unfold rdLen at h;split at h
 .obtain⟨v,r,rfl,h1,h2⟩:=reps_cons.mp rx;rw[reps_nil.mp h2];obtain⟨a,us,rfl,hq,rs⟩:=rep_tup_mp h1;exact⟨.ref a,us.length,rfl,.inr ⟨us,fh.tup hq,rfl⟩,q _ _ F H (Grow.refl fh) h (rep_int.mpr (by rw[rs.length]))⟩
 .obtain⟨v,r,rfl,h1,h2⟩:=reps_cons.mp rx;rw[reps_nil.mp h2];obtain⟨a,us,rfl,hq,rs⟩:=rep_lst.mp h1;exact⟨.ref a,us.length,rfl,.inl ⟨us,fh.seq (SqL.of hq),rfl⟩,q _ _ F H (Grow.refl fh) h (rep_int.mpr (by rw[rs.length]))⟩
 .obtain⟨v,r,rfl,h1,h2⟩:=reps_cons.mp rx;rw[reps_nil.mp h2];obtain⟨a,us,rfl,hq,rs⟩:=rep_rol.mp h1;exact⟨.ref a,us.length,rfl,.inl ⟨us,fh.seq hq,rfl⟩,q _ _ F H (Grow.refl fh) h (rep_int.mpr (by rw[rs.length]))⟩
 .obtain⟨v,r,rfl,h1,h2⟩:=reps_cons.mp rx;rw[reps_nil.mp h2,rep_str.mp h1];exact⟨.str _,_,rfl,⟨FA h.1 (by decide),rfl⟩,q _ _ F H (Grow.refl fh) h.2 (rep_int.mpr rfl)⟩
 .exact h.elim
def cC[Jx](hm:X.mg "len"=m9)(ha:WDA X [e] t)(hg:autoParam (Gl X "len") zA0)(he:autoParam (zSE X e []) zA0):WDE X (.Call (.Name "len" p) [e] [] pos) (dCB rdLen t):=⟨have ha:=ha.out;gE jz rA hm PySem.boot_len ha hg (by decide) (by decide) he⟩
def rdAbs:RDn:=λds R=>match ds with
 |[.int i]=>R (.int (if i<0 then -i else i))
 |_=>False
def yi:cu K (λxs H Q=>∃ i,xs=[.int i]/\Q (.int (if i<0 then -i else i)) H) rdAbs:=by
 intro ds vs F H R Q fh h rx q;unfold rdAbs at h;split at h
 .obtain⟨v,r,rfl,h1,h2⟩:=reps_cons.mp rx;rw[reps_nil.mp h2,rep_int.mp h1];exact⟨_,rfl,q _ _ F H (Grow.refl fh) h (rep_int.mpr rfl)⟩
 .exact h.elim
def eA[Jx](hm:X.mg "abs"=m9)(ha:WDA X [e] t)(hg:autoParam (Gl X "abs") zA0)(he:autoParam (zSE X e []) zA0):WDE X (.Call (.Name "abs" p) [e] [] pos) (dCB rdAbs t):=⟨have ha:=ha.out;gE wE yi hm PyProof.Rows.boot_abs ha hg (by decide) (by decide) he⟩
end
section
variable {X:Cx}{a b c e:RP}{ta tb tc te:TD}{pos:R5}
def dTst(t:TD):TDT:=λz R=>t z λx=>match x with| .bl k=>R k|_=>False
def cV[Jx]{op:TX}{r:R2}{rd:RD2}(ho:OpR X (R9 op) r)(L:bc X.K r rd)(ha:DE X a ta)(hb:DE X b tb)(hm:Sg op b=false):DT X (.Compare a [op] [b] pos) (dTst (dOp rd ta tb)):=(qo ho ha hb hm).anti λs H Q q=>by
 obtain⟨B,F,z,kf,rs,R,h1,h2⟩:=q;have fh:=kf.fh;refine⟨B,F,z,kf,rs,_,h1,λx u F1 H1 g1 hx rx=>?_⟩;refine⟨B,F1,z,kf.grow g1,rs.grow g1,_,hx,λy v F2 H2 g2 hy ry=>?_⟩;refine L x y u v F2 H2 _ _ g2.fh hy (rx.mono g2.ff) ry λd w F' H' g3 hd rd=>?_;split at hd
 .exact⟨_,rep_bl.mp rd,h2 _ F' H' (g1.trans (g2.trans g3)) hd⟩
 .exact hd.elim
def fH[Jx](ha:WDE X a ta)(hb:WDE X b tb):WDT X (.Compare a [.Lt] [b] pos) (dTst (dOp rdLt ta tb)):=⟨have ha:=ha.out;have hb:=hb.out;cV qm rk ha hb (nomark _)⟩
def jL[Jx](ha:WDE X a ta)(hb:WDE X b tb):WDT X (.Compare a [.LtE] [b] pos) (dTst (dOp rdLe ta tb)):=⟨have ha:=ha.out;have hb:=hb.out;cV wt xZ ha hb (nomark _)⟩
def fJ[Jx](ha:WDE X a ta)(hb:WDE X b tb):WDT X (.Compare a [.Gt] [b] pos) (dTst (dOp rdGt ta tb)):=⟨have ha:=ha.out;have hb:=hb.out;cV wu ya ha hb (nomark _)⟩
def rB[Jx](ha:WDE X a ta)(hb:WDE X b tb):WDT X (.Compare a [.GtE] [b] pos) (dTst (dOp rdGe ta tb)):=⟨have ha:=ha.out;have hb:=hb.out;cV wv yb ha hb (nomark _)⟩
def aY[Jx](ha:WDE X a ta)(hb:WDE X b tb):WDT X (.Compare a [.Eq] [b] pos) (dTst (dOp rdEq ta tb)):=⟨have ha:=ha.out;have hb:=hb.out;cV jx jJ ha hb (nomark _)⟩
def ce[Jx](ha:WDE X a ta)(hb:WDE X b tb):WDT X (.Compare a [.NotEq] [b] pos) (dTst (dOp rdNe ta tb)):=⟨have ha:=ha.out;have hb:=hb.out;cV wo yc ha hb (nomark _)⟩
def jM[Jx](ha:WDE X a ta)(hb:WDE X b tb):WDT X (.Compare a [.Is] [b] pos) (dTst (dOp (rdIs id) ta tb)):=⟨have ha:=ha.out;have hb:=hb.out;cV jy jK ha hb (nomark _)⟩
def gG[Jx](ha:WDE X a ta)(hb:WDE X b tb):WDT X (.Compare a [.IsNot] [b] pos) (dTst (dOp (rdIs not) ta tb)):=⟨have ha:=ha.out;have hb:=hb.out;cV ww yd ha hb (nomark _)⟩
def dTru(t:TD):TDT:=λz R=>t z λx=>match x with
 | .non=>R false
 | .bl k=>R k
 | .int i=>R (i !=0)
 | .str y=>y.length<=1000/\R ((y.length:Int) !=0)
 | .tup xs=>R (!xs.isEmpty)
 | .lst xs=>R (!xs.isEmpty)
 | .rol xs=>R (!xs.isEmpty)
 |_=>False
variable{K:Ex}
def Reps.isEmpty{H:Hp}{ds:List D}{vs:List V}(r:Reps K H ds vs):vs.isEmpty=ds.isEmpty:=by
 cases ds with
 |nil=>rw[reps_nil.mp r];rfl
 |cons d ds=>obtain⟨v,r',rfl,_⟩:=reps_cons.mp r;rfl
def cv[Jx](ha:WDE X a ta)(he:autoParam (∀ g7,isTrue a X.env g7=(do let v <- g7;SM a.pos;Sz [v] (truthy v))) zA2):WDT X a (dTru ta):=⟨have ha:=ha.out;(wB ha he).anti λs H Q q=>by
 obtain⟨B,F,z,kf,rs,R,h1,h2⟩:=q;have fh:=kf.fh;refine⟨B,F,z,kf,rs,_,h1,λx u F1 H1 g1 hx rx=>?_⟩;split at hx
 .rw[rep_non.mp rx];exact⟨false,rfl,h2 _ F1 H1 g1 hx⟩
 .rw[rep_bl.mp rx];exact⟨_,rfl,h2 _ F1 H1 g1 hx⟩
 .rw[rep_int.mp rx];exact⟨_,rfl,h2 _ F1 H1 g1 hx⟩
 .rw[rep_str.mp rx];exact⟨_,⟨sz hx.1,rfl⟩,h2 _ F1 H1 g1 hx.2⟩
 .obtain⟨p,vs,rfl,hq,rr⟩:=rep_tup_mp rx;exact⟨_,.inr (.inl ⟨vs,g1.fh.tup hq,by rw[rr.isEmpty]⟩),h2 _ F1 H1 g1 hx⟩
 .obtain⟨p,vs,rfl,hq,rr⟩:=rep_lst.mp rx;exact⟨_,.inl ⟨vs,g1.fh.seq (SqL.of hq),by rw[rr.isEmpty]⟩,h2 _ F1 H1 g1 hx⟩
 .obtain⟨p,vs,rfl,hq,rr⟩:=rep_rol.mp rx;exact⟨_,.inl ⟨vs,g1.fh.seq hq,by rw[rr.isEmpty]⟩,h2 _ F1 H1 g1 hx⟩
 .exact hx.elim⟩
variable {tA C_:TDT}{rest:List RP}
def dAnd(t u:TDT):TDT:=λz R=>t z λc=>if c=true then u z R else R false
def dOr(t u:TDT):TDT:=λz R=>t z λc=>if c=true then R true else u z R
def dNot(t:TDT):TDT:=λz R=>t z λc=>R (!c)
def fK[Jx](ha:WDT X a tA):WDW X (.BoolOp .And [a] pos) tA:=⟨have ha:=ha.out;pQ ha⟩
def gH[Jx](ha:WDT X a tA):WDW X (.BoolOp .Or [a] pos) tA:=⟨have ha:=ha.out;pR ha⟩
def fL[Jx](ha:WDT X a tA)(hb:WDW X (.BoolOp .And (b::rest) pos) C_):WDW X (.BoolOp .And (a::b::rest) pos) (dAnd tA C_):=⟨have ha:=ha.out;have hb:=hb.out;(pS ha hb).anti λs H Q q=>by
 obtain⟨B,F,z,kf,rs,R,h1,h2⟩:=q;have fh:=kf.fh;refine⟨B,F,z,kf,rs,_,h1,λk F1 H1 g1 hx=>?_⟩;cases k with
 |true=>exact⟨B,F1,z,kf.grow g1,rs.grow g1,R,hx,λb F' H' g=>h2 b F' H' (g1.trans g)⟩
 |false=>exact h2 _ F1 H1 g1 hx⟩
def gI[Jx](ha:WDT X a tA)(hb:WDW X (.BoolOp .Or (b::rest) pos) C_):WDW X (.BoolOp .Or (a::b::rest) pos) (dOr tA C_):=⟨have ha:=ha.out;have hb:=hb.out;(pT ha hb).anti λs H Q q=>by
 obtain⟨B,F,z,kf,rs,R,h1,h2⟩:=q;have fh:=kf.fh;refine⟨B,F,z,kf,rs,_,h1,λk F1 H1 g1 hx=>?_⟩;cases k with
 |false=>exact⟨B,F1,z,kf.grow g1,rs.grow g1,R,hx,λb F' H' g=>h2 b F' H' (g1.trans g)⟩
 |true=>exact h2 _ F1 H1 g1 hx⟩
def cK[Jx](h:WDW X a tA):WDT X a tA:=⟨have h:=h.out;PW.pt h⟩
def eB[Jx](ha:WDT X a tA):WDT X (.UnaryOp .Not a pos) (dNot tA):=⟨have ha:=ha.out;(vI ha).anti λs H Q q=>by
 obtain⟨B,F,z,kf,rs,R,h1,h2⟩:=q;have fh:=kf.fh;exact⟨B,F,z,kf,rs,_,h1,λk F1 H1 g1 hx=>h2 _ F1 H1 g1 hx⟩⟩
def yj(ta tb:TD):TD:=λz R=>ta z λx=>match x with| .bl k=>if k=true then tb z R else R (.bl false)|_=>False
def yk(ta:TD):TD:=λz R=>ta z λx=>match x with| .bl k=>R (.bl (!k))|_=>False
def gJ[Jx]{op}(h:WDE X a ta):WDE X (.BoolOp op [a] pos) ta:=⟨have h:=h.out;vL h⟩
def gK[Jx](ha:WDE X a ta)(hb:WDE X (.BoolOp .And (b::rest) pos) tb):WDE X (.BoolOp .And (a::b::rest) pos) (yj ta tb):=⟨have ha:=ha.out;have hb:=hb.out;(vM ha hb).anti λs H Q q=>by
 obtain⟨B,F,z,kf,rs,R,h1,h2⟩:=q;have fh:=kf.fh;refine⟨B,F,z,kf,rs,_,h1,λx u F1 H1 g1 hx rx=>?_⟩;split at hx
 .rename_i k;refine⟨k,rep_bl.mp rx,?_⟩;cases k with
  |true=>exact⟨B,F1,z,kf.grow g1,rs.grow g1,R,hx,λd v F' H' g=>h2 d v F' H' (g1.trans g)⟩
  |false=>exact h2 _ _ F1 H1 g1 hx (rep_bl.mpr rfl)
 .exact hx.elim⟩
def ym[Jx](ha:WDE X a ta):WDE X (.UnaryOp .Not a pos) (yk ta):=⟨have ha:=ha.out;(vN ha).anti λs H Q q=>by
 obtain⟨B,F,z,kf,rs,R,h1,h2⟩:=q;have fh:=kf.fh;refine⟨B,F,z,kf,rs,_,h1,λx u F1 H1 g1 hx rx=>?_⟩;split at hx
 .exact⟨_,rep_bl.mp rx,h2 _ _ F1 H1 g1 hx (rep_bl.mpr rfl)⟩
 .exact hx.elim⟩
def tyD:D->String
 | .non=>"NoneType"| .bl _=>"bool"| .int _=>"int"| .str _=>"str"| .tup _=>"tuple"| .lst _=>"list"| .rol _=>"list"| .obj _ _=>"object"| .exc _ _=>"object"| .own _=>"list"| .ptr _=>"object"| .dti _=>"dict"
def eE(t:String)(x:D):Bool:=tyD x==t||(tyD x=="bool" && t=="int")
def TyQ(K:Ex)(H:Hp)(x:V)(t:String):Prop:=TyOf K H x (.type t)\/(t="tuple"/\∃ a xs,x= .ref a/\SqT K H a xs)\/(t="list"/\∃ a xs,x= .ref a/\SqL K H a xs)
def yn:bE X (.builtin "isinstance") (λxs H Q=>∃ x t c k,xs=[x,.ty c]/\TyQ X.K H x t/\kitOne X.K (.type t) (.type c)=be k/\Q (.bl k) H):=by
 intro pins s σ H xs us Q I r h;obtain⟨x,t,c,k,rfl,ty,e,q⟩:=h;obtain⟨u,u',rfl,rx,rc⟩:=gv r;cases(show u'=Value.type c from rc);rcases ty with ty|⟨rfl,a,ys,rfl,hq⟩|⟨rfl,a,ys,rfl,hq⟩
 .exact wQ I rx ty e λtk=>⟨.bl k,H,I.tok _,rfl,q⟩
 .cases(show u=Value.ref a from rx);obtain⟨its,_,⟨o,h1,h2,_⟩,_⟩:=I.tuple hq;exact kia_one kitx_tuple I.kIn ⟨o,h1,h2⟩ e (λz=>nomatch z) λtk=>⟨.bl k,H,I.tok _,rfl,q⟩
 .cases(show u=Value.ref a from rx);obtain⟨its,_,pl,_⟩:=I.list hq;obtain⟨o,n,h1,h2,_⟩:=pl;exact kia_one kitx_list I.kIn ⟨o,h1,h2⟩ e (λz=>nomatch z) λtk=>⟨.bl k,H,I.tok _,rfl,q⟩
def eF:D->Bool| .obj _ _=>false| .exc _ _=>false| .ptr _=>false| .dti _=>false|_=>true
def yo{F H:Hp}{x:D}{u:V}(fh:Same F H)(r:Rep K F x u)(no:eF x=true):TyQ K H u (tyD x):=by
 cases x with
 |non=>rw[rep_non.mp r];exact .inl .non
 |bl b=>rw[rep_bl.mp r];exact .inl (.bl b)
 |int b=>rw[rep_int.mp r];exact .inl (.int b)
 |str b=>rw[rep_str.mp r];exact .inl (.str b)
 |tup b=>obtain⟨a,vs,rfl,hq,_⟩:=rep_tup_mp r;exact .inr (.inl ⟨rfl,a,vs,rfl,fh.tup hq⟩)
 |lst b=>obtain⟨a,vs,rfl,hq,_⟩:=rep_lst.mp r;exact .inr (.inr ⟨rfl,a,vs,rfl,fh.seq (SqL.of hq)⟩)
 |rol b=>obtain⟨a,vs,rfl,hq,_⟩:=rep_rol.mp r;exact .inr (.inr ⟨rfl,a,vs,rfl,fh.seq hq⟩)
 |obj C b=>cases no
 |exc C b=>cases no
 |ptr b=>cases no
 |dti b=>cases no
 |own b=>exact absurd r rep_own
def yp(t:String):D->(D->Prop)->Prop:=λx R=>match x with| .obj _ _=>False| .exc _ _=>False| .ptr _=>False| .dti _=>False|x=>R (.bl (eE t x))
def jN[Jx]{p p2:R5}{y:D'}{t:String}(hm:X.mg "isinstance"=m9)(Qb:X.mg y=m9)(ha:WDE X a ta)(hv:R_ y=be (.type t))
  (hk:∀ x:D,eF x=true->kitOne X.K (.type (tyD x)) (.type t)=be (eE t x)) (hg:autoParam (Gl X "isinstance") zA0) (Qc:autoParam (Gl X y) zA0) (hn:autoParam (y≠"__name__") zA1) (d7:autoParam (zND y) zA1)
  (m6:autoParam (RV [a,.Name y p2] X.env=(false,R1 a X.env)::RV [.Name y p2] X.env) zA0) (k9:autoParam (RV [.Name y p2] X.env=(false,R1 (.Name y p2) X.env)::RV [] X.env) zA0) (c7:autoParam ((Sw pos (RV [.Name y p2] X.env)).any (·.1)=false) zA0):WDE X (.Call (.Name "isinstance" p) [a,.Name y p2] [] pos) (dUn (yp t) ta):=⟨have ha:=ha.out;(gy yn hg hm PyProof.Rows.boot_isinstance (bx ha (bx (vH (v:= .ty t) Qc Qb hv rfl hn d7) pa_nil k9) m6) (by decide) (by decide) m6 c7).anti λs H Q q=>by
 obtain⟨B,F,z,kf,rs,R,h1,h2⟩:=q;have fh:=kf.fh;refine⟨B,F,z,kf,rs,_,h1,λx u F1 H1 g1 hx rx=>?_⟩;have no:eF x=true:=by
  cases x with
  |obj C b=>exact False.elim hx
  |exc C b=>exact False.elim hx
  |ptr b=>exact False.elim hx
  |dti b=>exact False.elim hx
  |_=>rfl
 have gV:R (.bl (eE t x)):=by
  cases x with
  |obj C b=>exact False.elim hx
  |exc C b=>exact False.elim hx
  |ptr b=>exact False.elim hx
  |dti b=>exact False.elim hx
  |_=>exact hx
 exact⟨u,tyD x,t,_,rfl,yo g1.fh rx no,hk x no,h2 _ _ F1 H1 g1 gV (rep_bl.mpr rfl)⟩⟩
def yq:∀ x:D,eF x=true->kitOne K (.type (tyD x)) (.type "int")=be (eE "int" x):=by intro x no;cases x<;>first|rfl|cases no
def kit_bool:∀ x:D,eF x=true->kitOne K (.type (tyD x)) (.type "bool")=be (eE "bool" x):=by intro x no;cases x<;>first|rfl|cases no
def kit_tuple:∀ x:D,eF x=true->kitOne K (.type (tyD x)) (.type "tuple")=be (eE "tuple" x):=by intro x no;cases x<;>first|rfl|cases no
def toV:D->Option V
 | .non=>be .non| .bl b=>be (.bl b)| .int i=>be (.int i)| .str x=>be (.str x)|_=>m9
def br(d:D):Bool:=(toV d).isSome
def eqF:D->D->Bool
 | .non,.non=>true
 | .bl a,.bl b=>a==b
 | .bl a,.int b=>(if a then 1 else 0)==b
 | .int a,.bl b=>a==(if b then 1 else 0)
 | .int a,.int b=>a==b
 | .str a,.str b=>a==b
 |_,_=>false
def eqFs:List D->List D->Bool
 |[],[]=>true
 |x::xs,y::ys=>eqF x y && eqFs xs ys
 |_,_=>false
end
section
variable {X:Cx}{a b:RP}{ta tb:TD}{pos:R5}
def eqVs:List V->List V->Bool
 |[],[]=>true
 |x::xs,y::ys=>eqV x y && eqVs xs ys
 |_,_=>false
def Vals.getD{xs:List V}{us:List KB}{j:Nat}(r:Vals xs us)(h:j<us.length):RelV (xs.getD j .non) us[j]:=by
 have hl:=L2.Vals.length r;obtain⟨u,q1,q2⟩:=L2.Vals.get (i:=j) (x:=xs.getD j .non) r (by rw[FJ (by lia)];simp[Gk,FJ (show j<xs.length by lia)]);rw[FJ h] at q1;cases q1;exact q2
def eqV_of{K:Ex}{H:Hp}{x y:D}{u v:V}(rx:Rep K H x u)(ry:Rep K H y v)(fx:br x=true)(fy:br y=true):eqV u v=eqF x y:=by
 cases x with
 |tup _=>cases fx
 |lst _=>cases fx
 |rol _=>cases fx
 |obj _ _=>cases fx
 |exc _ _=>cases fx
 |ptr _=>cases fx
 |dti _=>cases fx
 |own _=>cases fx
 |non=>rw[rep_non.mp rx];cases y with
  |tup _=>cases fy
  |lst _=>cases fy
  |rol _=>cases fy
  |obj _ _=>cases fy
  |exc _ _=>cases fy
  |ptr _=>cases fy
  |dti _=>cases fy
  |own _=>cases fy
  |non=>rw[rep_non.mp ry];rfl
  |bl _=>rw[rep_bl.mp ry];rfl
  |int _=>rw[rep_int.mp ry];rfl
  |str _=>rw[rep_str.mp ry];rfl
 |bl _=>rw[rep_bl.mp rx];cases y with
  |tup _=>cases fy
  |lst _=>cases fy
  |rol _=>cases fy
  |obj _ _=>cases fy
  |exc _ _=>cases fy
  |ptr _=>cases fy
  |dti _=>cases fy
  |own _=>cases fy
  |non=>rw[rep_non.mp ry];rfl
  |bl _=>rw[rep_bl.mp ry];rfl
  |int _=>rw[rep_int.mp ry];rfl
  |str _=>rw[rep_str.mp ry];rfl
 |int _=>rw[rep_int.mp rx];cases y with
  |tup _=>cases fy
  |lst _=>cases fy
  |rol _=>cases fy
  |obj _ _=>cases fy
  |exc _ _=>cases fy
  |ptr _=>cases fy
  |dti _=>cases fy
  |own _=>cases fy
  |non=>rw[rep_non.mp ry];rfl
  |bl _=>rw[rep_bl.mp ry];rfl
  |int _=>rw[rep_int.mp ry];rfl
  |str _=>rw[rep_str.mp ry];rfl
 |str _=>rw[rep_str.mp rx];cases y with
  |tup _=>cases fy
  |lst _=>cases fy
  |rol _=>cases fy
  |obj _ _=>cases fy
  |exc _ _=>cases fy
  |ptr _=>cases fy
  |dti _=>cases fy
  |own _=>cases fy
  |non=>rw[rep_non.mp ry];rfl
  |bl _=>rw[rep_bl.mp ry];rfl
  |int _=>rw[rep_int.mp ry];rfl
  |str _=>rw[rep_str.mp ry];rfl
def eI{K:Ex}{H:Hp}{x:D}{u:V}(rx:Rep K H x u)(fx:br x=true):bR u=true:=by
 cases x with
 |tup _=>cases fx
 |lst _=>cases fx
 |rol _=>cases fx
 |obj _ _=>cases fx
 |exc _ _=>cases fx
 |ptr _=>cases fx
 |dti _=>cases fx
 |own _=>cases fx
 |non=>rw[rep_non.mp rx];rfl
 |bl _=>rw[rep_bl.mp rx];rfl
 |int _=>rw[rep_int.mp rx];rfl
 |str _=>rw[rep_str.mp rx];rfl
def cX{K:Ex}{H:Hp}:∀ {xs:List D} {us:List V},Reps K H xs us->xs.all br=true->us.all bR=true
 |[],us,r,_=>by rw[reps_nil.mp r];rfl
 |x::xs,us,r,f=>by
  obtain⟨v,vr,rfl,r1,r2⟩:=reps_cons.mp r;rw[GK,FS] at f ⊢;exact⟨eI r1 f.1,cX r2 f.2⟩
def jO{K:Ex}{H:Hp}:∀ {xs ys:List D} {us vs:List V},Reps K H xs us->Reps K H ys vs->xs.all br=true->ys.all br=true->eqVs us vs=eqFs xs ys
 |[],[],us,vs,r1,r2,_,_=>by rw[reps_nil.mp r1,reps_nil.mp r2];rfl
 |[],y::ys,us,vs,r1,r2,_,_=>by
  obtain⟨v,vr,rfl,_,_⟩:=reps_cons.mp r2;rw[reps_nil.mp r1];rfl
 |x::xs,[],us,vs,r1,r2,_,_=>by
  obtain⟨v,vr,rfl,_,_⟩:=reps_cons.mp r1;rw[reps_nil.mp r2];rfl
 |x::xs,y::ys,us,vs,r1,r2,f1,f2=>by
  obtain⟨u,ur,rfl,a1,a2⟩:=reps_cons.mp r1;obtain⟨v,vr,rfl,b1,b2⟩:=reps_cons.mp r2;rw[GK,FS] at f1 f2;rw[eqVs,eqFs,eqV_of a1 b1 f1.1 f2.1,jO a2 b2 f1.2 f2.2]
end
section
variable {X:Cx}{a b c e:RP}{ta tb tc te:TD}{pos:R5}{st:RO}{rest:List RO}{t u:TSD}
def yr:TSD:=λE z=>E.nx z
def dSeq(t u:TSD):TSD:=λE z=>t {E with nx:=u E} z
def aG[Jx]:WDSs X [] yr:=⟨pss_nil.anti λE s H q=>by
 obtain⟨B,F0,F,z,k,rs,ED,h,e⟩:=q;exact e.nx z s F H k h rs⟩
def ah[Jx](h1:WDS X st t)(h2:WDSs X rest u):WDSs X (st::rest) (dSeq t u):=⟨have h1:=h1.out;have h2:=h2.out;(fC h1 h2).anti λE s H q=>by
 obtain⟨B,F0,F,z,k,rs,ED,h,e⟩:=q;exact⟨B,F0,F,z,k,rs,{ED with nx:=u ED},h,⟨λz' s' F' H' k' hz r'=>⟨B,F0,F',z',k',r',ED,hz,e⟩,e.rt,e.bk,e.ct⟩⟩⟩
def aj[Jx](h1:WDS X st t):WDSs X [st] t:=⟨have h1:=h1.out;pU h1⟩
def dFrz(i:Nat)(t:TSD):TSD:=λE z=>match z[i]? with|some (be (.own ds))=>t E (z.set i (be (.lst ds)))|_=>False
def eJ[Jx](i:Nat){KI:List RO}(h:WDSs X KI t):WDSs X KI (dFrz i t):=⟨have h:=h.out;PSs.anti h λE s H q=>by
 obtain⟨B,F0,F,z,k,rs,ED,h,e⟩:=q;unfold dFrz at h;split at h
 .rename_i ds ez;obtain⟨F',k',r'⟩:=rs.freeze k ez;exact⟨B,F0,F',_,k',r',ED,h,e⟩
 .exact h.elim⟩
def dRet(te:TD):TSD:=λE z=>te z E.rt
def ar[Jx](he:WDE X e te):WDS X (.Return (be e) pos) (dRet te):=⟨have he:=he.out;(pW he).anti λE s H q=>by
 obtain⟨B,F0,F,z,k,rs,ED,h,e⟩:=q;exact⟨B,F,z,k.kf,rs,_,h,λd v F' H' g hd rd=>e.rt d v F' H' (k.grow g) hd rd⟩⟩
def dIfS(c:TDT)(t u:TSD):TSD:=λE z=>c z λb=>if b=true then t E z else u E z
variable{l r:List RO}
def rC[Jx]{c:RP}{tc:TDT}(hc:DT X c tc)(ha:DSs X l t)(hb:DSs X r u):DS X (.If c l r pos) (dIfS tc t u):=(pX hc ha hb).anti λE s H q=>by
 obtain⟨B,F0,F,z,k,rs,ED,h,e⟩:=q;refine⟨B,F,z,k.kf,rs,_,h,λb F1 H1 g hk=>?_⟩;cases b with
 |true=>exact⟨B,F0,F1,z,k.grow g,rs.grow g,ED,hk,e⟩
 |false=>exact⟨B,F0,F1,z,k.grow g,rs.grow g,ED,hk,e⟩
def dIfJ(c:TDT)(t u:TSD):TSD:=λE z=>∃ J:SD->Prop,(c z λb=>if b=true then t {E with nx:=J} z else u {E with nx:=J} z)/\∀ z',J z'->E.nx z'
def cY[Jx]{c:RP}{tc:TDT}(hc:WDT X c tc)(ha:WDSs X l t)(hb:WDSs X r u):WDS X (.If c l r pos) (dIfJ tc t u):=⟨have hc:=hc.out;have ha:=ha.out;have hb:=hb.out;(rC hc ha hb).anti λE s H q=>by
 obtain⟨B,F0,F,z,k,rs,ED,⟨J,h,j⟩,e⟩:=q;exact⟨B,F0,F,z,k,rs,{ED with nx:=J},h,⟨λz' s' F' H' k' hz r'=>e.nx z' s' F' H' k' (j z' hz) r',e.rt,e.bk,e.ct⟩⟩⟩
def dSet(i:Nat)(te:TD):TSD:=λE z=>∃ P:D->Prop,te z P/\∀ d,P d->E.nx (z.set i (be d))
variable{x:D'}
def ai[Jx](i:Nat){c8:R5}(hN:X.N.Nodup)(he:WDE X e te)(hi:autoParam (X.N[i]?=be x) zA0)(hx:autoParam (Loc X.env.scope x) zA4)(hs:autoParam (Sa e (be (.Name x c8)) pos.line X.env=pure false) zA0)
  (hf:autoParam (zFN X x) zA3):WDS X (.Assign [.Name x c8] e pos) (dSet i te):=⟨have he:=he.out;(gp hN hi hx he hs hf).anti λE s H q=>by
 obtain⟨B,F0,F,z,k,rs,ED,⟨P,h,j⟩,e⟩:=q;exact⟨B,F,z,k.kf,rs,P,h,λd v F' H' g hd rd=>e.nx _ _ F' H' (k.grow g) (j d hd) ((rs.grow g).set rd)⟩⟩
def dNew(i:Nat)(ta:TDA):TSD:=λE z=>ta z λds=>ds.length<=1000/\E.nx (z.set i (be (.own ds)))
variable{es:List RP}
def eK[Jx](i:Nat){c8 p2:R5}{ta:TDA}(hN:X.N.Nodup)(he:WDA X es ta)(hi:autoParam (X.N[i]?=be x) zA0)(hx:autoParam (Loc X.env.scope x) zA4)(hs:autoParam (Sa (.List es p2) (be (.Name x c8)) pos.line X.env=pure false) zA0)
  (hf:autoParam (zFN X x) zA3):WDS X (.Assign [.Name x c8] (.List es p2) pos) (dNew i ta):=⟨have he:=he.out;(gp hN hi hx (jB he) hs hf).anti λE s H q=>by
 obtain⟨B,F0,F,z,k,rs,ED,h,e⟩:=q;refine⟨B,F,z,k.kf,rs,_,h,λds vs F1 H1 g hd rd=>?_⟩;have hl:=rd.length;refine⟨sz (by rw[hl];exact hd.1),λp hp=>?_⟩;have k1:=k.grow g;have r1:=rs.grow g;have hB:B p=none:=k1.bh.free hp;have hF:F1 p=none:=k1.fh.free hp;refine e.nx _ _ F1 _ ⟨k1.bh.trans (aU hp _),k1.fh.trans (aU hp _),k1.f0,k1.out,k1.eb,k1.jf,k1.jo⟩ hd.2 (r1.setOwn hB hF rd λj dj hj e1 e2=>?_);obtain⟨a,us,q1,q2,_⟩:=r1.own j dj e1;rw[e2] at q1;cases q1;rw[hp] at q2;cases q2⟩
def dApp(i:Nat)(te:TD):TSD:=λE z=>match z[i]? with|some (be (.own ds))=>(te z λd=>ds.length<=100000/\E.nx (z.set i (be (.own (ds++[d])))))|_=>False
def eL{K:Ex}{F:Hp}{d:D}{v:V}(r:Rep K F d v):Reps K F [d] [v]:=reps_cons.mpr ⟨v,[],rfl,r,reps_nil.mpr rfl⟩
def dF[Jx](i:Nat){p1 apos cpos:R5}(he:WDE X e te)(hN:autoParam (X.N[i]?=be x) zA0)(hv:autoParam (Vis X.env.scope x) zA5)(hd:autoParam (zND x) zA1)
  (gt:autoParam (zNC x) zA1) (m6:autoParam (zSE X e []) zA0)
  (b9:autoParam (RZ (.Name x p1) "append" X.env (R1 (.Name x p1) X.env)=R1 (.Name x p1) X.env) zA0)
  (d_:autoParam (zHF X cpos [e]) zA0)
  (c9:autoParam ((apos.endLine==cpos.line)=true) zA0) (JI:autoParam (Sa (.Call (.Attribute (.Name x p1) "append" apos) [e] [] cpos) m9 pos.line X.env=pure false) zA0):WDS X (.Expr (.Call (.Attribute (.Name x p1) "append" apos) [e] [] cpos) pos) (dApp i te):=⟨have he:=he.out;(pV (dZ PySem.F.plainAttrs_list PySem.F.slot_list_append PySem.F.type_list_append gz (dz hN hv hd gt) (bx he pa_nil m6) b9 d_ c9 m6) JI).anti λE s H q=>by
 obtain⟨B,F0,F,z,k,rs,ED,h,e⟩:=q;unfold dApp at h;split at h
 .rename_i ds ez;obtain⟨a,vs,q1,q2,q3,q4,q5⟩:=rs.own i ds ez;refine⟨.ref a,q1,.inl ⟨rfl,vs,SqL.of q2⟩,?_⟩;refine⟨B,F,z,k.kf,rs,_,h,λd v F1 H1 g hd rd=>?_⟩;have k1:=k.grow g;have r1:=rs.grow g;have a1:H1 a=be (.lst vs):=g.hh a _ q2;have f1:F1 a=none:=g.out a q4 (by rw[q2];exact λz=>nomatch z);have hl:vs.length=ds.length:=q5.length;have hz:vs.length<sizeLine:=by
   have h1:ds.length<=100000:=hd.1;have h2:(100000:Nat)<sizeLine:=by decide
   lia
  refine⟨a,vs,v,rfl,rfl,a1,hz,?_⟩;have same:∀ {G:Hp},G a=m9->Same G H1->Same G (upd H1 a (.lst (vs++[v]))):=λ{G} ga gs b o eb=>by
   have ne:b≠a:=λz=>by rw[z,ga] at eb;cases eb
   rw[au ne];exact gs b o eb
  have r2:=r1.setOwn (i:=i) (a:=a) (vs:=vs++[v]) (ds:=ds++[d]) q3 f1 ((q5.mono g.ff).append (eL rd)) (λj dj hj e1 e2=>hj (rs.apart j i dj ds a e1 ez e2 q1));have es:s.set i (be (.ref a))=s:=by
   apply G6;intro n;by_cases hn:i=n
   .subst hn;rw[Ga (FG.mp q1).1,q1]
   .rw[FM hn]
  rw[es] at r2;exact e.nx _ s F1 _ ⟨same q3 k1.bh,same f1 k1.fh,k1.f0,k1.out,k1.eb,k1.jf,k1.jo⟩ hd.2 r2
 .exact h.elim⟩
def aV:List Nat->List D->SD->SD
 |i::is,d::ds,z=>aV is ds (z.set i (be d))
 |_,_,z=>z
def DGs(X:Cx)(ts:List RP)(is:List Nat):Prop:=∃ u:TGs,PGs X ts u/\∀ (ds:List D) (vs:List V) (z:SD) (s:L2.St) (B F H:Hp) (Q:L2.St->Hp->Prop),ds.length=is.length->Reps X.K F ds vs->RepS X.K B F H z s->(∀ s',RepS X.K B F H (aV is ds z) s'->Q s' H)->u vs s H Q
def cL[Jx]:DGs X [] []:=⟨_,vS,λds vs z s B F H Q hl r rs q=>by
 cases ds with
 |nil=>exact⟨reps_nil.mp r,q s rs⟩
 |cons _ _=>cases hl⟩
variable{p:R5}{is:List Nat}
def dg_cons[Jx](i:Nat)(hN:X.N.Nodup)(h2:DGs X es is)(hi:autoParam (X.N[i]?=be x) zA0)(hx:autoParam (Loc X.env.scope x) zA4)(hf:autoParam (zFN X x) zA3)
  (hs:autoParam ((RW (.Name x p::es) X.env).map (·.2)=Sx (.Name x p) X.env::(RW es X.env).map (·.2)) zA0):DGs X (.Name x p::es) (i::is):=by
 obtain⟨u,hu,k⟩:=h2;refine⟨_,vT (gm hN hi hx hf) hu hs,λds vs z s B F H Q hl r rs q=>?_⟩;cases ds with
 |nil=>cases hl
 |cons d ds=>
  obtain⟨v,vr,rfl,r1,r2⟩:=reps_cons.mp r;exact⟨v,vr,rfl,k ds vr _ _ B F H Q (Nat.succ.inj hl) r2 (rs.set r1) q⟩
def yt(is:List Nat)(te:TD):TSD:=λE z=>te z λx=>match x with| .tup ds=>ds.length=is.length/\E.nx (aV is ds z)|_=>False
def jP[Jx]{k:Nat}(hc:X.calm=true)(he:WDE X e te)(hg:DGs X es is)(hn:autoParam ((RW es X.env).length=is.length) zA0)(l_:autoParam ((RW es X.env).findIdx? (·.1)=none) zA0)
  (hs:autoParam (Sn [.Tuple es k p] e pos.line X.env=pure false) zA0) (hw:autoParam (So [.Tuple es k p] e X.env=pure none) zA0) (h1:autoParam ((RW [.Tuple es k p] X.env).map (·.2)=[Sx (.Tuple es k p) X.env]) zA0):WDS X (.Assign [.Tuple es k p] e pos) (yt is te):=⟨by
 have he:=he.out;obtain⟨u,hu,kk⟩:=hg;refine(ju he (fD hc hu hn l_) hs hw h1).anti λE s H q=>?_;obtain⟨B,F0,F,z,k,rs,ED,h,e⟩:=q;refine⟨B,F,z,k.kf,rs,_,h,λd v F' H' g hd rd=>?_⟩;split at hd
 .obtain⟨p,vs,rfl,hq,rr⟩:=rep_tup_mp rd;exact⟨p,vs,rfl,g.fh.tup hq,by rw[rr.length];exact hd.1,kk _ vs z s B F' H' _ hd.1 rr (rs.grow g) λs' r'=>e.nx _ _ F' H' (k.grow g) hd.2 r'⟩
 .exact hd.elim⟩
def dPar(i j:Nat)(ta:TDA):TSD:=λE z=>ta z λds=>match ds with|[x,y]=>E.nx ((z.set i (be x)).set j (be y))|_=>False
def yu[Jx](i j:Nat){y:D'}{t:TDA}{px py pt:R5}{kt k2 JB}(hc:X.calm=true)(hN:X.N.Nodup)(ha:WDA X [a,b] t)(hi:autoParam (X.N[i]?=be x) zA0)(hj:autoParam (X.N[j]?=be y) zA0)(Mc:autoParam (i≠j) zA1)
  (hx:autoParam (X.env.scope.names.lookup x=be .local) zA0) (hy:autoParam (X.env.scope.names.lookup y=be .local) zA0)
  (hw:autoParam (So [.Tuple [.Name x px,.Name y py] kt pt] (.Tuple [a,b] k2 JB) X.env=pure (be [x,y])) zA0)
  (hs:autoParam (Sn [.Tuple [.Name x px,.Name y py] kt pt] (.Tuple [a,b] k2 JB) pos.line X.env=pure false) zA0):WDS X (.Assign [.Tuple [.Name x px,.Name y py] kt pt] (.Tuple [a,b] k2 JB) pos) (dPar i j t):=⟨have ha:=ha.out;(vV hc hN hi hj Mc hx hy ha hw hs).anti λE s H q=>by
 obtain⟨B,F0,F,z,k,rs,ED,h,e⟩:=q;refine⟨B,F,z,k.kf,rs,_,h,λds vs F' H' g hd rd=>?_⟩;split at hd
 .obtain⟨v,r,rfl,r1,r2⟩:=reps_cons.mp rd;obtain⟨w,r,rfl,r3,r4⟩:=reps_cons.mp r2;rw[reps_nil.mp r4];exact⟨v,w,rfl,e.nx _ _ F' H' (k.grow g) hd (((rs.grow g).set r1).set r3)⟩
 .exact hd.elim⟩
def yw(c:TDT)(tb:TSD):TSD:=λE z=>∃ W:Nat->SD->Prop,(∃ m,W m z)/\∀ m z,W m z->
 c z λb=>if b=true then tb {E with nx:=λz'=>∃ m',m'<m/\W m' z',ct:=λz'=>∃ m',m'<m/\W m' z',bk:=E.nx} z else E.nx z
variable{body:List RO}
def dG[Jx]{c:RP}{tc:TDT}{tb:TSD}(hp:Se (RR X.prog X.w) X.A X.env X.xe)(hc:WDT X c tc)(hb:WDSs X body tb):WDS X (.While c body [] pos) (yw tc tb):=⟨have hc:=hc.out;have hb:=hb.out;(pY hp hc hb).anti λE s H q=>by
 obtain⟨B,F0,F,z,k,rs,ED,⟨W,⟨m0,w0⟩,c5⟩,e⟩:=q;refine⟨λm s' H'=>∃ F' z',Kept B F0 F' H'/\RepS X.K B F' H' z' s'/\W m z',⟨m0,F,z,k,rs,w0⟩,?_⟩;rintro m s1 H1 ⟨F1,z1,k1,r1,w1⟩;refine⟨B,F1,z1,k1.kf,r1,_,c5 m z1 w1,λb F2 H2 g2 hk=>?_⟩;cases b with
 |true=>
  refine⟨λs3 H3=>∃ F3 z3,Kept B F0 F3 H3/\RepS X.K B F3 H3 z3 s3/\∃ m',m'<m/\W m' z3,λs3 H3 ⟨F3,z3,k3,r3,m',l,w3⟩=>⟨m',l,F3,z3,k3,r3,w3⟩,?_⟩;exact⟨B,F0,F2,z1,k1.grow g2,r1.grow g2,_,hk,⟨λz3 s3 F3 H3 k3 h3 r3=>⟨F3,z3,k3,r3,h3⟩,e.rt,e.nx,λz3 s3 F3 H3 k3 h3 r3=>⟨F3,z3,k3,r3,h3⟩⟩⟩
 |false=>exact e.nx z1 s1 F2 H2 (k1.grow g2) hk (r1.grow g2)⟩
abbrev TDI:=SD->(List D->Prop)->Prop
def dItL(t:TD):TDI:=λz R=>t z λx=>match x with| .lst ds=>R ds| .rol ds=>R ds|_=>False
def dItR(t:TD):TDI:=λz R=>t z λx=>match x with| .int n=>(0<=n/\n<2 ^ 62)/\R ((Ft n.toNat).map λk=>D.int ((k:Nat):Int))|_=>False
def dFor(i:Nat)(ti:TDI)(tb:TSD):TSD:=λE z=>ti z λds=>∃ W:Nat->SD->Prop,W 0 z/\(∀ k x z,ds[k]?=be x->W k z->tb {E with nx:=W (k+1),ct:=W (k+1),bk:=E.nx} (z.set i (be x)))/\∀ z,W ds.length z->E.nx z
def Reps.get'{K:Ex}{H:Hp}{ds:List D}{vs:List V}{k:Nat}{v:V}(r:Reps K H ds vs)(e:vs[k]?=be v):∃ d,ds[k]?=be d/\Rep K H d v:=by
 have hk:k<ds.length:=by rw[<- r.length];exact(FG.mp e).1
 obtain⟨u,q1,q2⟩:=r.get (FJ hk);rw[e] at q1;cases q1;exact⟨_,FJ hk,q2⟩
def fM[Jx](i:Nat){tb:TSD}(hp:Se (RR X.prog X.w) X.A X.env X.xe)(hc:X.calm=true)(hN:X.N.Nodup)(he:WDE X e te)(hb:WDSs X body tb)(hi:autoParam (X.N[i]?=be x) zA0)(hx:autoParam (Loc X.env.scope x) zA4)
  (hf:autoParam (zFN X x) zA3) (hs:autoParam (∀ y,zFS X e y) zA2):WDS X (.For (.Name x p) e body [] pos) (dFor i (dItL te) tb):=⟨have he:=he.out;have hb:=hb.out;(dB hp hc (gq he) (gm hN hi hx hf) hb hs).anti λE s H q=>by
 obtain⟨B,F0,F,z,kp,rs,ED,h,e⟩:=q;refine⟨B,F,z,kp.kf,rs,_,h,λd v F1 H1 g1 hd rd=>?_⟩;split at hd
 .obtain⟨p,vs,rfl,hq,rr⟩:=rep_lst.mp rd;obtain⟨W,w0,c5,out⟩:=hd;refine⟨p,rfl,⟨vs,g1.fh.seq (SqL.of hq)⟩,jw (K:=X.K) (a:=p) (xs:=vs) (λk s' H'=>∃ F' z',Kept B F0 F' H'/\Same F1 F'/\RepS X.K B F' H' z' s'/\W k z') ⟨F1,z,kp.grow g1,Same.refl F1,rs.grow g1,w0⟩ (λk s' H' _ ⟨F',z',k',g',r',w'⟩=>k'.fh.seq (g'.seq (SqL.of hq))) ?_ ?_⟩
  .rintro k y s' H' hk ⟨F',z',k',g',r',w'⟩;obtain⟨d,hd,ry⟩:=rr.get' hk;refine⟨B,F',F',_,⟨k'.bh,k'.fh,Same.refl F',λb h1 _=>h1,k'.eb,k'.jf.trans k'.f0,λb h1 h2=>k'.out b (k'.jo b h1 h2) h2⟩,r'.set (ry.mono g'),_,c5 k d z' hd w',?_⟩;have up:∀ {F2 H2:Hp},Kept B F' F2 H2->Kept B F0 F2 H2:=λk2=>⟨k2.bh,k2.fh,k'.f0.trans k2.f0,λb h1 h2=>k2.out b (k'.out b h1 h2) h2,k'.eb,k'.jf,k'.jo⟩;exact⟨λz3 s3 F3 H3 k3 h3 r3=>⟨F3,z3,up k3,g'.trans k3.f0,r3,h3⟩,λd v F3 H3 k3=>e.rt d v F3 H3 (up k3),λz3 s3 F3 H3 k3=>e.nx z3 s3 F3 H3 (up k3),λz3 s3 F3 H3 k3 h3 r3=>⟨F3,z3,up k3,g'.trans k3.f0,r3,h3⟩⟩
  .rintro s' H' ⟨F',z',k',g',r',w'⟩;exact e.nx z' s' F' H' k' (out z' (by rw[<- rr.length];exact w')) r'
 .obtain⟨p,vs,rfl,hq,rr⟩:=rep_rol.mp rd;obtain⟨W,w0,c5,out⟩:=hd;refine⟨p,rfl,⟨vs,g1.fh.seq hq⟩,jw (K:=X.K) (a:=p) (xs:=vs) (λk s' H'=>∃ F' z',Kept B F0 F' H'/\Same F1 F'/\RepS X.K B F' H' z' s'/\W k z') ⟨F1,z,kp.grow g1,Same.refl F1,rs.grow g1,w0⟩ (λk s' H' _ ⟨F',z',k',g',r',w'⟩=>k'.fh.seq (g'.seq hq)) ?_ ?_⟩
  .rintro k y s' H' hk ⟨F',z',k',g',r',w'⟩;obtain⟨d,hd,ry⟩:=rr.get' hk;refine⟨B,F',F',_,⟨k'.bh,k'.fh,Same.refl F',λb h1 _=>h1,k'.eb,k'.jf.trans k'.f0,λb h1 h2=>k'.out b (k'.jo b h1 h2) h2⟩,r'.set (ry.mono g'),_,c5 k d z' hd w',?_⟩;have up:∀ {F2 H2:Hp},Kept B F' F2 H2->Kept B F0 F2 H2:=λk2=>⟨k2.bh,k2.fh,k'.f0.trans k2.f0,λb h1 h2=>k2.out b (k'.out b h1 h2) h2,k'.eb,k'.jf,k'.jo⟩;exact⟨λz3 s3 F3 H3 k3 h3 r3=>⟨F3,z3,up k3,g'.trans k3.f0,r3,h3⟩,λd v F3 H3 k3=>e.rt d v F3 H3 (up k3),λz3 s3 F3 H3 k3=>e.nx z3 s3 F3 H3 (up k3),λz3 s3 F3 H3 k3 h3 r3=>⟨F3,z3,up k3,g'.trans k3.f0,r3,h3⟩⟩
  .rintro s' H' ⟨F',z',k',g',r',w'⟩;exact e.nx z' s' F' H' k' (out z' (by rw[<- rr.length];exact w')) r'
 .exact hd.elim⟩
def bG[Jx](i:Nat){p1 p2:R5}{tb:TSD}(hp:Se (RR X.prog X.w) X.A X.env X.xe)(hc:X.calm=true)(hN:X.N.Nodup)(hm:X.mg "range"=m9)(he:WDE X e te)(hb:WDSs X body tb)(hg:autoParam (Gl X "range") zA0)(hi:autoParam (X.N[i]?=be x) zA0)(hx:autoParam (Loc X.env.scope x) zA4)
  (hf:autoParam (zFN X x) zA3) (hs:autoParam (∀ y,zFS X (.Call (.Name "range" p1) [e] [] p2) y) zA2) (t6:autoParam (zSE X e []) zA0) (f_:autoParam (RV [e] X.env=[(false,R1 e X.env)]) zA0):WDS X (.For (.Name x p) (.Call (.Name "range" p1) [e] [] p2) body [] pos) (dFor i (dItR te) tb):=⟨have he:=he.out;have hb:=hb.out;(dB hp hc (jv hg hm (bx he pa_nil t6) f_) (gm hN hi hx hf) hb hs).anti λE s H q=>by
 obtain⟨B,F0,F,z,kp,rs,ED,h,e⟩:=q;refine⟨B,F,z,kp.kf,rs,_,h,λd v F1 H1 g1 hd rd=>?_⟩;split at hd
 .rename_i n;obtain⟨⟨b1,b2⟩,W,w0,c5,out⟩:=hd;have hl:((Ft n.toNat).map λk=>D.int ((k:Nat):Int)).length=n.toNat:=by simp
  refine⟨n,by rw[rep_int.mp rd],by lia,b2,qf (lo:=0) (n:=n.toNat) (λk s' H'=>∃ F' z',Kept B F0 F' H'/\RepS X.K B F' H' z' s'/\W k z') ⟨F1,z,kp.grow g1,rs.grow g1,w0⟩ ?_ ?_⟩
  .rintro k s' H' hk ⟨F',z',k',r',w'⟩;have e1:(0:Int)+(k:Int)=(k:Int):=by lia
   exact⟨B,F0,F',_,k',r'.set (d:= .int (k:Int)) (rep_int.mpr (by rw[e1])),_,c5 k (.int (k:Int)) z' (by simp[hk]) w',⟨λz3 s3 F3 H3 k3 h3 r3=>⟨F3,z3,k3,r3,h3⟩,e.rt,e.nx,λz3 s3 F3 H3 k3 h3 r3=>⟨F3,z3,k3,r3,h3⟩⟩⟩
  .rintro s' H' ⟨F',z',k',r',w'⟩;exact e.nx z' s' F' H' k' (out z' (by rw[hl];exact w')) r'
 .exact hd.elim⟩
end
section
variable {P:P3}{w:RT}{K:Ex}{mg:D'->Option KB}{base:Heap}
variable{N ps:List D'}
def _root_.L2.Fun.okD{x:D'}{st:RO}{f:KF}{fd:RY}{k:Nat}{S:SpD}(T:Fun K x x st f fd)(F:FnScope N ps (ag st))(len:∀ ds R,S ds R->ds.length=ps.length)
  (a9:∀ (cdv:KB) (A:RU) (outer:List SE) (s:KM) (H:Hp) (E:XK) (J:Jx),Room k (A.deeper (R7 x (ag st) s.heap.objs.size f cdv))->
   ∃ t,DSs (cxOf (Exc.CX1 P w) P w K mg base N x (ag st) f cdv A outer s H E).nox (aK st) t/\∀ ds R,S ds R->t {nx:=λ_=>R .non,rt:=R} (startD N ds)):FnOk P w K mg base (Exc.CX1 P w) (k+1) f fd ps (lSp K S):=by
 refine Fun.okC T F (λvs H Q E h=>?_) (λcdv A outer s H vs Q E hr h=>?_)
 .obtain⟨F,ds,fh,rs,R,h,_⟩:=h;rw[rs.length];exact len ds R h
 .obtain⟨F,ds,fh,rs,R,h,q⟩:=h
  letI:Jx:=⟨H,F,λ_ _ _=>False⟩
  obtain⟨t,ht,hq⟩:=a9 cdv A outer s H E inferInstance hr;refine⟨_,ht.nox,H,F,F,startD N ds,⟨Same.refl H,fh,Same.refl F,λ_ h _=>h,rfl,Same.refl F,λ_ h _=>h⟩,eg rs,_,hq ds R h,⟨λz' s' F' H' k hn _=>q _ _ F' H' ⟨k.f0,k.fh,k.bh,k.out⟩ hn (rep_non.mpr rfl),λd v F' H' k hd rd=>q d v F' H' ⟨k.f0,k.fh,k.bh,k.out⟩ hd rd,λ_ _ _ _ _ h _=>h.elim,λ_ _ _ _ _ h _=>h.elim⟩⟩
def Tx.okD{x:D'}{st:RO}{k:Nat}{S:SpD}(T:Tx K mg x st ps)(F:FnScope N ps (ag st))(len:∀ ds R,S ds R->ds.length=ps.length)
  (a9:∀ (f:KF) (cdv:KB) (A:RU) (outer:List SE) (s:KM) (H:Hp) (E:XK) (J:Jx),Room k (A.deeper (R7 x (ag st) s.heap.objs.size f cdv))->
   ∃ t,DSs (cxOf (Exc.CX1 P w) P w K mg base N x (ag st) f cdv A outer s H E).nox (aK st) t/\∀ ds R,S ds R->t {nx:=λ_=>R .non,rt:=R} (startD N ds)):CalD P w K mg base (k+1) x ps S:=by
 obtain⟨f,fd,T,hb,hm⟩:=T;exact⟨f,fd,T.okD F len λcdv A outer s H E J hr=>a9 f cdv A outer s H E J hr,hb,T.kp,hm⟩
end
def eM:SpD:=λds R=>∃ ns:List Int,ds=[.rol (ns.map D.int)]/\ns.length<=63/\R (.bl true)
def yx{a:KF}{ns:List Int}(hl:ns.length<=63)(hS:SqL K H a (ns.map V.int)){E:XK}:lSp K eM [.ref a] H (λv _=>v= .bl true) E:=
 ⟨H,[.rol (ns.map D.int)],Same.refl H,reps_cons.mpr ⟨_,_,rfl,rep_rol.mpr ⟨a,_,rfl,hS,Reps.ints.mpr rfl⟩,reps_nil.mpr rfl⟩,λd=>d= .bl true,⟨ns,rfl,hl,rfl⟩,λd v F' H' _ hd rd=>by subst hd;exact rep_bl.mp rd⟩
section
variable {X:Cx}{a b c e:RP}{ta tb tc te:TD}{pos:R5}
variable{p:R5}{es:List RP}{t:TDA}
def jQ[Jx]{x:D'}{T:String}{r:List V->Hp->VK->Prop}{rd:RDn}(hc:bE X (.type T) r)(L:cu X.K r rd)(hm:X.mg x=m9)(hv:R_ x=be (.type T))(ha:DA X (e::es) t)(hg:autoParam (Gl X x) zA0)(hn:autoParam (x≠"__name__") zA1)(d7:autoParam (zND x) zA1)
  (he:autoParam (zSE X e es) zA0) (c7:autoParam (zPL X pos es) zA0):DE X (.Call (.Name x p) (e::es) [] pos) (dCB rd t):=(jD hc hg hm hv ha hn d7 he c7).anti λs H Q h=>by
 obtain⟨B,F,z,kf,rs,R,h1,h2⟩:=h;have fh:=kf.fh;refine⟨B,F,z,kf,rs,_,h1,λds vs F1 H1 g1 hx rx=>?_⟩;exact L ds vs F1 H1 R Q g1.fh hx rx λd w F' H' g=>h2 d w F' H' (g1.trans g)
def rdStr:RDn:=λds R=>match ds with|[.int i]=>i.natAbs<18446744073709551616/\R (.str (toString i))|_=>False
variable{K:Ex}
def yy:cu K (λxs H Q=>∃ i,xs=[.int i]/\i.natAbs.log2<1920/\Q (.str (toString i)) H) rdStr:=by
 intro ds vs F H R Q fh h rx q;unfold rdStr at h;split at h
 .obtain⟨v,r,rfl,h1,h2⟩:=reps_cons.mp rx;rw[reps_nil.mp h2,rep_int.mp h1];refine⟨_,rfl,?_,q _ _ F H (Grow.refl fh) h.2 (rep_str.mpr rfl)⟩;rename_i i;by_cases h0:i.natAbs=0
  .rw[h0];decide
  .have:=(HW h0).mpr (show i.natAbs<2 ^ 64 from h.1);lia
 .exact h.elim
def cD[Jx](hm:X.mg "str"=m9)(ha:WDA X [e] t)(hg:autoParam (Gl X "str") zA0)(he:autoParam (zSE X e []) zA0):WDE X (.Call (.Name "str" p) [e] [] pos) (dCB rdStr t):=⟨have ha:=ha.out;jQ wH yy hm PyProof.Rows.boot_str ha hg (by decide) (by decide) he⟩
def rdInt:RDn:=λds R=>match ds with
 |[.int i]=>R (.int i)
 |[.bl k]=>R (.int (if k then 1 else 0))
 |[.str x]=>∃ n,(PySem.intText? x=be n/\x.length<=640)/\R (.int n)
 |_=>False
def rD:bE X (.type "int") (λxs H Q=>((∃ i,xs=[.int i]/\Q (.int i) H)\/∃ k,xs=[.bl k]/\Q (.int (if k then 1 else 0)) H)\/∃ x n,xs=[.str x]/\PySem.intText? x=be n/\x.length<=640/\Q (.int n) H):=by
 intro pins s σ H xs us Q I r h;rcases h with h|⟨x,n,rfl,h1,h2,q⟩
 .exact wG pins s σ H xs us Q I r h
 .obtain⟨u,rfl,t,rfl⟩:=bY r;exact PySem.W.KIN.call_text h1 h2 ⟨.int n,H,I.tok _,⟨_,rfl⟩,q⟩
def rE:cu K (λxs H Q=>((∃ i,xs=[.int i]/\Q (.int i) H)\/∃ k,xs=[.bl k]/\Q (.int (if k then 1 else 0)) H)\/∃ x n,xs=[.str x]/\PySem.intText? x=be n/\x.length<=640/\Q (.int n) H) rdInt:=by
 intro ds vs F H R Q fh h rx q;unfold rdInt at h;split at h
 .obtain⟨v,r,rfl,h1,h2⟩:=reps_cons.mp rx;rw[reps_nil.mp h2,rep_int.mp h1];exact .inl (.inl ⟨_,rfl,q _ _ F H (Grow.refl fh) h (rep_int.mpr rfl)⟩)
 .obtain⟨v,r,rfl,h1,h2⟩:=reps_cons.mp rx;rw[reps_nil.mp h2,rep_bl.mp h1];exact .inl (.inr ⟨_,rfl,q _ _ F H (Grow.refl fh) h (rep_int.mpr rfl)⟩)
 .obtain⟨v,r,rfl,h1,h2⟩:=reps_cons.mp rx;rw[reps_nil.mp h2,rep_str.mp h1];obtain⟨n,⟨e1,e2⟩,h⟩:=h;exact .inr ⟨_,n,rfl,e1,e2,q _ _ F H (Grow.refl fh) h (rep_int.mpr rfl)⟩
 .exact h.elim
def gL[Jx](hm:X.mg "int"=m9)(ha:WDA X [e] t)(hg:autoParam (Gl X "int") zA0)(he:autoParam (zSE X e []) zA0):WDE X (.Call (.Name "int" p) [e] [] pos) (dCB rdInt t):=⟨have ha:=ha.out;jQ rD rE hm PyProof.Rows.boot_int ha hg (by decide) (by decide) he⟩
def rdList:RDn:=λds R=>match ds with|[.lst xs]=>R (.lst xs)|[.tup xs]=>R (.lst xs)|[.rol xs]=>R (.lst xs)|_=>False
def yz:cu K (λxs H Q=>∃ p ys,xs=[.ref p]/\(SqL K H p ys\/SqT K H p ys)/\∀ l,H l=m9->Q (.ref l) (upd H l (.lst ys))) rdList:=by
 intro ds vs F H R Q fh h rx q;unfold rdList at h;split at h
 .obtain⟨v,r,rfl,h1,h2⟩:=reps_cons.mp rx;rw[reps_nil.mp h2];obtain⟨a,us,rfl,hq,rs⟩:=rep_lst.mp h1;exact⟨a,us,rfl,.inl (fh.seq (SqL.of hq)),λl hl=>q _ _ _ _ (Grow.new fh hl _) h (rep_lst.mpr ⟨l,us,rfl,aC,rs.mono (aU (fh.free hl) _)⟩)⟩
 .obtain⟨v,r,rfl,h1,h2⟩:=reps_cons.mp rx;rw[reps_nil.mp h2];obtain⟨a,us,rfl,hq,rs⟩:=rep_tup_mp h1;exact⟨a,us,rfl,.inr (fh.tup hq),λl hl=>q _ _ _ _ (Grow.new fh hl _) h (rep_lst.mpr ⟨l,us,rfl,aC,rs.mono (aU (fh.free hl) _)⟩)⟩
 .obtain⟨v,r,rfl,h1,h2⟩:=reps_cons.mp rx;rw[reps_nil.mp h2];obtain⟨a,us,rfl,hq,rs⟩:=rep_rol.mp h1;exact⟨a,us,rfl,.inl (fh.seq hq),λl hl=>q _ _ _ _ (Grow.new fh hl _) h (rep_lst.mpr ⟨l,us,rfl,aC,rs.mono (aU (fh.free hl) _)⟩)⟩
 .exact h.elim
def yB[Jx](hm:X.mg "list"=m9)(ha:WDA X [e] t)(hg:autoParam (Gl X "list") zA0)(he:autoParam (zSE X e []) zA0):WDE X (.Call (.Name "list" p) [e] [] pos) (dCB rdList t):=⟨have ha:=ha.out;jQ qM yz hm PyProof.Rows.boot_list ha hg (by decide) (by decide) he⟩
def rdMax:RDn:=λds R=>match ds with|[.int i,.int j]=>R (.int (if j>i then j else i))|_=>False
def yD:cu K (λxs H Q=>∃ i j,xs=[.int i,.int j]/\Q (.int (if j>i then j else i)) H) rdMax:=by
 intro ds vs F H R Q fh h rx q;unfold rdMax at h;split at h
 .obtain⟨v,r,rfl,h1,h2⟩:=reps_cons.mp rx;obtain⟨v',r',rfl,h3,h4⟩:=reps_cons.mp h2;rw[reps_nil.mp h4,rep_int.mp h1,rep_int.mp h3];exact⟨_,_,rfl,q _ _ F H (Grow.refl fh) h (rep_int.mpr rfl)⟩
 .exact h.elim
def jR[Jx](hc:X.calm=true)(hm:X.mg "max"=m9)(ha:WDA X [e,a] t)(hg:autoParam (Gl X "max") zA0)(he:autoParam (zSE X e [a]) zA0)(c7:autoParam (zPL X pos [a]) zA0):WDE X (.Call (.Name "max" p) [e,a] [] pos) (dCB rdMax t):=⟨have ha:=ha.out;gE (wF hc) yD hm PyProof.Rows.boot_max ha hg (by decide) (by decide) he c7⟩
def cZ:List D->Option (List D')
 |[]=>be []
 | .str x::r=>(cZ r).map (x::·)
 |_=>m9
def rF{K:Ex}{F:Hp}:∀ {ds:List D} {xs:List D'} {vs:List V} {us:List KB},cZ ds=be xs->Reps K F ds vs->Vals vs us->StrsAre us xs
 |[],xs,vs,us,e,r,q=>by
  cases e;rw[reps_nil.mp r] at q;cases q;exact .nil
 | .str x::ds,xs,vs,us,e,r,q=>by
  obtain⟨v,r',rfl,h1,h2⟩:=reps_cons.mp r;rw[rep_str.mp h1] at q;cases q with
  |cons q1 q2=>
   obtain⟨t,rfl⟩:=q1;cases e2:cZ ds with
   |none=>simp[cZ,e2] at e
   |some ys=>
    simp[cZ,e2] at e;subst e;exact .cons x t (rF e2 h2 q2)
def yF:V->List V->Hp->VK->Prop:=λx vs H Q=>∃ q8 l xs ys,x= .str q8/\vs=[.ref l]/\H l=be (.lst xs)/\(∀ us,Vals xs us->StrsAre us ys)/\(ys.map (·.length)).sum+ys.length*q8.length<=16777216/\Q (.str (Txt.join q8 ys)) H
def yG:MtR X "str.join" yF:=by
 intro pins s σ H x vs v us Q I rx rv h;obtain⟨q8,l,xs,ys,rfl,rfl,hl,hs,hz,q⟩:=h;obtain⟨t,rfl⟩:=rx;obtain⟨u,rfl,ru⟩:=bY rv;cases ru;obtain⟨its,r,pl,_⟩:=I.list (SqL.of hl);exact PyProof.Rows.join_list pl.isList (by simpa using hs its r) hz λt' k=>⟨.str _,H,I.tok _,⟨_,rfl⟩,q⟩
def yH(q8:D')(te:TD):TD:=λz R=>te z λx=>match x with
 | .lst ds=>∃ ys,cZ ds=be ys/\(ys.map (·.length)).sum+ys.length*q8.length<=1000000/\R (.str (Txt.join q8 ys))
 |_=>False
variable{k:Nat}
def jS[Jx]{q8:D'}{p1 apos cpos:R5}(he:WDE X e te)(m6:autoParam (zSE X e []) zA0)
  (b9:autoParam (RZ (.Constant (.str q8) k p1) "join" X.env (R1 (.Constant (.str q8) k p1) X.env)=R1 (.Constant (.str q8) k p1) X.env) zA0)
  (d_:autoParam (zHF X cpos [e]) zA0)
  (c9:autoParam ((apos.endLine==cpos.line)=true) zA0):WDE X (.Call (.Attribute (.Constant (.str q8) k p1) "join" apos) [e] [] cpos) (yH q8 te):=⟨have he:=he.out;(dZ PySem.F.plainAttrs_str PySem.F.slot_str_join PySem.F.type_str_join yG pP (bx he pa_nil m6) b9 d_ c9 m6).anti λs H Q q=>by
 obtain⟨B,F,z,kf,rs,R,h1,h2⟩:=q;have fh:=kf.fh;refine⟨rfl,?_⟩;refine⟨B,F,z,kf,rs,_,h1,λx u F1 H1 g1 hx rx=>?_⟩;split at hx
 .obtain⟨ys,e1,e2,hx⟩:=hx;obtain⟨l,vs,rfl,hq,rr⟩:=rep_lst.mp rx;exact⟨q8,l,vs,ys,rfl,rfl,g1.fh _ _ hq,λus q=>rF e1 rr q,FA e2 (by decide),h2 _ _ F1 H1 g1 hx (rep_str.mpr rfl)⟩
 .exact hx.elim⟩
def dOix(i:Nat)(tb:TD):TD:=λz R=>match z[i]? with
 |some (be (.own ds))=>tb z λy=>match y with| .int k=>∃ d,atI ds k=be d/\R d|_=>False
 |_=>False
def eN[Jx](i:Nat){x:D'}(hb:WDE X b tb)(hN:autoParam (X.N[i]?=be x) zA0)(hv:autoParam (Vis X.env.scope x) zA5)(hd:autoParam (zND x) zA1)
  (gt:autoParam (zNC x) zA1) (hs:autoParam (dY b) zA6):WDE X (.Subscript (.Name x p) b pos) (dOix i tb):=⟨have hb:=hb.out;(pe_ix ix_list (dz hN hv hd gt) hb hs).anti λs H Q q=>by
 obtain⟨B,F,z,kf,rs,R,h1,h2⟩:=q;have fh:=kf.fh;unfold dOix at h1;split at h1
 .rename_i ds ez;obtain⟨a,vs,q1,q2,q3,q4,q5⟩:=rs.own i ds ez;refine⟨.ref a,q1,B,F,z,kf,rs,_,h1,λy v F1 H1 g1 hy ry=>?_⟩;split at hy
  .obtain⟨d,e1,hR⟩:=hy;obtain⟨w,e2,i9⟩:=(q5.mono g1.ff).at e1;exact⟨a,vs,_,w,rfl,rep_int.mp ry,SqL.of (g1.hh _ _ q2),e2,h2 d w F1 H1 g1 hR i9⟩
  .exact hy.elim
 .exact h1.elim⟩
def cutD(xs:List D)(lo hi:Option Int):List D:=(xs.drop (HT.sIx xs.length 0 lo)).take (HT.sIx xs.length xs.length hi - HT.sIx xs.length 0 lo)
def Reps.drop{K:Ex}{F:Hp}:∀ (n:Nat) {xs:List D} {us:List V},Reps K F xs us->Reps K F (xs.drop n) (us.drop n)
 |0,_,_,r=>r
 |n+1,[],us,r=>by rw[reps_nil.mp r];exact reps_nil.mpr rfl
 |n+1,x::xs,us,r=>by
  obtain⟨u,ur,rfl,_,a2⟩:=reps_cons.mp r;exact Reps.drop n a2
def Reps.take{K:Ex}{F:Hp}:∀ (n:Nat) {xs:List D} {us:List V},Reps K F xs us->Reps K F (xs.take n) (us.take n)
 |0,_,_,_=>reps_nil.mpr rfl
 |n+1,[],us,r=>by rw[reps_nil.mp r];exact reps_nil.mpr rfl
 |n+1,x::xs,us,r=>by
  obtain⟨u,ur,rfl,a1,a2⟩:=reps_cons.mp r;exact reps_cons.mpr ⟨u,_,rfl,a1,Reps.take n a2⟩
def Reps.cut{F:Hp}{xs:List D}{us:List V}(r:Reps K F xs us)(lo hi:Option Int):Reps K F (cutD xs lo hi) (cutV us lo hi):=by
 unfold cutD cutV;rw[r.length];exact(r.drop _).take _
def yI(ta tb:TD):TD:=λz R=>ta z λx=>tb z λy=>match x,y with| .lst xs,.int i=>R (.lst (cutD xs (be i) m9))|_,_=>False
def yJ[Jx]{p2:R5}(ha:WDE X a ta)(hb:WDE X b tb):WDE X (.Subscript a (.Slice (be b) m9 m9 p2) pos) (yI ta tb):=⟨have ha:=ha.out;have hb:=hb.out;(qF qK ha (qE hb) qD).anti λs H Q q=>by
 obtain⟨B,F,z,kf,rs,R,h1,h2⟩:=q;have fh:=kf.fh;refine⟨B,F,z,kf,rs,_,h1,λx u F1 H1 g1 hx rx=>?_⟩;refine⟨B,F1,z,kf.grow g1,rs.grow g1,_,hx,λy v F2 H2 g2 hy ry=>?_⟩;split at hy
 .refine⟨_,rep_int.mp ry,?_⟩;obtain⟨l,vs,rfl,hq,rr⟩:=rep_lst.mp (rx.mono g2.ff);refine⟨l,vs,rfl,SqL.of (g2.fh _ _ hq),λp hp=>?_⟩;exact h2 _ _ _ _ (g1.trans (g2.trans (Grow.new g2.fh hp _))) hy (rep_lst.mpr ⟨p,_,rfl,aC,(rr.cut _ _).mono (aU (g2.fh.free hp) _)⟩)
 .exact hy.elim⟩
def yL{t:TGs}{n:Nat}(hc:X.calm=true)(h:PGs X es t)(hn:autoParam ((RW es X.env).length=n) zA0)(l_:autoParam ((RW es X.env).findIdx? (·.1)=none) zA0):
  PG X (.Tuple es k pos) (λv σ H Q=>∃ a xs,v= .ref a/\SqL X.K H a xs/\xs.length=n/\t xs σ H Q):=by
 intro pins s σ H v u Q I r hw;obtain⟨a,xs,e1,hq,hl,hw⟩:=hw;subst e1;cases r;obtain⟨its,rv,pl,hz⟩:=I.list hq;have e2:(RW es X.env).length=its.toArray.size:=by simp[hn,<- hl,rv.length]
 rw[PyProof.Rows.assign_Tuple];refine Os (Si ?_);unfold unpack;rw[e2,l_];refine Os (Sj (kun_itemsOf (I.ok.hd hc) pl.isList λh' hx=>?_));have I1:Inv X pins σ H {s with heap:=h'}:=I.kept (t':=s.toks) λb o e=>hx b o (Fy (Heap.lt_size e)) e;exact h pins _ σ H xs _ Q I1 (by simpa using rv) hw
def yM(is:List Nat)(te:TD):TSD:=λE z=>te z λx=>match x with| .lst ds=>ds.length=is.length/\E.nx (aV is ds z)|_=>False
def rG[Jx]{is:List Nat}(hc:X.calm=true)(he:WDE X e te)(hg:DGs X es is)(hn:autoParam ((RW es X.env).length=is.length) zA0)(l_:autoParam ((RW es X.env).findIdx? (·.1)=none) zA0)
  (hs:autoParam (Sn [.Tuple es k p] e pos.line X.env=pure false) zA0) (hw:autoParam (So [.Tuple es k p] e X.env=pure none) zA0) (h1:autoParam ((RW [.Tuple es k p] X.env).map (·.2)=[Sx (.Tuple es k p) X.env]) zA0):WDS X (.Assign [.Tuple es k p] e pos) (yM is te):=⟨by
 have he:=he.out;obtain⟨u,hu,kk⟩:=hg;refine(ju he (yL hc hu hn l_) hs hw h1).anti λE s H q=>?_;obtain⟨B,F0,F,z,k,rs,ED,h,e⟩:=q;refine⟨B,F,z,k.kf,rs,_,h,λd v F' H' g hd rd=>?_⟩;split at hd
 .obtain⟨p,vs,rfl,hq,rr⟩:=rep_lst.mp rd;exact⟨p,vs,rfl,SqL.of (g.fh _ _ hq),by rw[rr.length];exact hd.1,kk _ vs z s B F' H' _ hd.1 rr (rs.grow g) λs' r'=>e.nx _ _ F' H' (k.grow g) hd.2 r'⟩
 .exact hd.elim⟩
end
end My
namespace L2
def jT{env:SE}:∀ (names:List (D' × Su)) (u8:List (D' × KF)),(∀ n,(n,NameKind.free)∈names->∃ c,env.cells.lookup n=be c)->
  ∃ cl,(forIn (m:=Tq) names u8 λx r=>match x with
     |(name,kind)=>if(kind==NameKind.free)=true then(do let a <- cellOf env name;pure (ForInStep.yield ((name,a)::r))) else pure (ForInStep.yield r))=(pure cl:Tq (List (D' × KF)))/\
   (∀ n c,cl.lookup n=be c->env.cells.lookup n=be c\/u8.lookup n=be c)/\(∀ n,(n,NameKind.free)∈names->∃ c,cl.lookup n=be c)/\∀ n c,u8.lookup n=be c->∃ c',cl.lookup n=be c'
 |[],u8,_=>⟨u8,rfl,(λ_ _ h=> .inr h),(λ_ h=>by cases h),(λ_ c h=>⟨c,h⟩)⟩
 |(name,kind)::r,u8,h=>by
  by_cases hk:(kind==NameKind.free)=true
  .have ek:kind= .free:=by simpa using hk
   subst ek;obtain⟨c,hc⟩:=h name Fv;obtain⟨cl,e,p1,p2,p3⟩:=jT r ((name,c)::u8) λn q=>h n (Fu _ q);refine⟨cl,?_,λn c' q=>?_,λn q=>?_,λn c' q=>?_⟩
   .rw[HY];have ec:cellOf env name=pure c:=by unfold cellOf;rw[hc]
    simp only[hk,if_true,ec];exact e
   .rcases p1 n c' q with z|z
    .exact .inl z
    .rw[FI] at z;split at z
     .rename_i q2;have en:n=name:=by simpa using q2
      cases z;exact .inl (en ▸ hc)
     .exact .inr z
   .rcases Fp.mp q with z|z
    .cases z;exact p3 _ c (by rw[FI];simp)
    .exact p2 n z
   .by_cases hn:n=name
    .subst hn;exact p3 n c (by rw[FI];simp)
    .exact p3 n c' (by rw[FI,beq_eq_false_iff_ne.mpr hn];exact q)
  .obtain⟨cl,e,p1,p2,p3⟩:=jT r u8 λn q=>h n (Fu _ q);refine⟨cl,?_,p1,λn q=>?_,p3⟩
   .rw[HY];simp only[hk];exact e
   .rcases Fp.mp q with z|z
    .cases z;exact absurd rfl hk
    .exact p2 n z
def closure_is{env:SE}{scope:Sk}(h:∀ n,(n,NameKind.free)∈scope.names->∃ c,env.cells.lookup n=be c):
  ∃ cl,closureFor scope env=pure cl/\(∀ n c,cl.lookup n=be c->env.cells.lookup n=be c)/\∀ n,(n,NameKind.free)∈scope.names->∃ c,cl.lookup n=be c:=by
 obtain⟨cl,e,p1,p2,_⟩:=jT scope.names [] h;refine⟨cl,?_,λn c q=>(p1 n c q).elim id (λz=>nomatch z),p2⟩;unfold closureFor;show(forIn (m:=Tq) scope.names [] _>>=λs=>pure s)=pure cl;rw[e];rfl
def gM{env:SE}:∀ {names:List (D' × Su)} {n:D'} {k:Su},(∀ y∈names,y.2≠.cell)->k= .cell\/k= .free->
  (names.map λ(n,k)=>if(k==NameKind.free && env.scope.kind== .function && env.kindOf n==be .cell) then(n,NameKind.cell) else(n,k)).lookup n=be k->(n,NameKind.free)∈names
 |[],_,_,_,_,h=>by simp at h
 |(a,b)::r,n,k,hc,hk,h=>by
  rw[FB] at h;by_cases hb:(b==NameKind.free && env.scope.kind== .function && env.kindOf a==be .cell)=true
  .have eb:b= .free:=by
    have:=(FS _ _ ▸ ((FS _ _ ▸ hb).1)).1;simpa using this
   simp only[hb,if_true] at h;rw[FI] at h;split at h
   .rename_i q;have en:n=a:=by simpa using q
    subst en eb;exact Fv
   .exact Fu _ (gM (λy q=>hc y (Fu _ q)) hk h)
  .simp only[hb] at h;rw[if_neg (by simp),FI] at h;split at h
   .rename_i q;have en:n=a:=by simpa using q
    cases h;subst en;rcases hk with z|z
    .exact absurd z (hc _ Fv)
    .rw[z];exact Fv
   .exact Fu _ (gM (λy q=>hc y (Fu _ q)) hk h)
section
variable {prog:P3}{w:RT}{A:RU}{R:Result->KM->Prop}{s:KM}
abbrev rH(h_:List RP)(env:SE):Tq Bool:=forIn h_ true λc r=>if r=true then do let ok <- isTrue c env (R1 c env);pure (ForInStep.yield ok) else pure (ForInStep.yield r)
def rJ{ge f9 iter:RP}{h_:List RP}{scope:Sk}{pos:R5}{it u8:KB}{env:SE}(I:Nat->KM->Prop)
  (c5:∀ n s,I n s->RS (RR prog w) A (pyNext it) (λr s₁=>match r with
   |none=>R (.ok .next) s₁
   |some v=>RS (RR prog w) A (SR f9 it v) (λ_ s₁'=>RS (RR prog w) A (Sx f9 env v) (λ_ s₂=>RS (RR prog w) A (rH h_ env) (λok s₂'=>if ok=true then RS (RR prog w) A (R1 ge env) (λx s₃=>
     RS (RR prog w) A (call (.builtin "list.append") [u8,x]) (λ_ s₄=>∃ m,m<n/\I m s₄) (λ_ _=>False) s₃)
     (λ_ _=>False) s₂' else ∃ m,m<n/\I m s₂') (λ_ _=>False) s₂) (λ_ _=>False) s₁') (λ_ _=>False) s₁) (λ_ _=>False) s)
  (n:Nat) (h:I n s):
  SO (RR prog w) A (.compLoop (.ListComp ge [⟨f9,iter,h_,0⟩] scope pos) 0 it u8 env) R s:=by
 refine codeAny_loop rfl I (λn s hI=>?_) n h;show RS _ _ ((compTurn (.ListComp ge [⟨f9,iter,h_,0⟩] scope pos) 0 it u8 env).onRaise (λx=>do SW x env;theTreesLotGoes x)) _ _ s;refine wpAny_noted ?_;rw[compTurn_list];refine Os (Si (Os (R3 (c5 n s hI) (λr s₁ h₁=>?_) λ_ _ h'=>h'.elim)));cases r with
 |none=>exact RQ h₁
 |some v=>
  refine Os (R3 h₁ (λ_ s₁' h₁'=>Os (R3 h₁' (λ_ s₂ h₂=>Os (R3 h₂ (λok s₃ h₃=>?_) λ_ _ h'=>h'.elim)) λ_ _ h'=>h'.elim)) λ_ _ h'=>h'.elim);cases ok with
  |false=>exact RQ ⟨rfl,h₃⟩
  |true=>
   exact Os (Os (R3 h₃ (λx s₄ h₄=>Os (R3 h₄ (λ_ s₅ h₅=>RQ (RQ ⟨rfl,h₅⟩)) λ_ _ h'=>h'.elim)) λ_ _ h'=>h'.elim))
end
def bS(X:Cx)(scope:Sk)(cl:List (D' × KF))(x:D')(s₀:KM)(H₀:Hp)(fp:List KF):Cx where
 prog:=X.prog
 w:=X.w
 K:=X.K
 mg:=X.mg
 base:=X.base
 A:=X.A
 N:=X.N.map (λn=>if n=x then("":D') else n)++[x]
 s₀:=s₀
 H₀:=H₀
 env:=S' scope cl s₀.heap.objs.size X.env
 outer:=X.stack
 stack:=X.stack
 ex:=fp
 fn:=λ_=>false
 calm:=X.calm
 pn:=[]
 xe:=λ_ _=>False
structure CompScope(X:Cx)(scope:Sk)(x:Str):Prop where
 kind:scope.kind= .function
 nocell:∀ y∈scope.names,y.2≠.cell
 names:∀ y∈scope.names,y.2= .local->scope.names.lookup y.1=be .local
 own:scope.names.lookup x=be .local
 free:∀ n,(n,NameKind.free)∈scope.names->X.env.kindOf n=be .cell
 vis:∀ n∈X.N,n≠x->Vis (TQ scope X.env) n->(n,NameKind.free)∈scope.names
 empty:¬ Vis (TQ scope X.env) ("":D')
 cells:∀ n,(n,NameKind.free)∈scope.names->(TQ scope X.env).names.lookup n=be .cell
 nd:(X.N.map (λn=>if n=x then("":D') else n)++[x]).Nodup
section
variable {X:Cx}{pins:List (KF × R')}{σ:St}{H:Hp}{s:KM}{scope:Sk}{cl:List (D' × KF)}{x:D'}{fp:List KF}
def jU(I:Inv X pins σ H s)(S:CompScope X scope x)(c1:∀ n c,cl.lookup n=be c->X.env.cells.lookup n=be c)(c2:∀ n,(n,NameKind.free)∈scope.names->∃ c,cl.lookup n=be c)
  (hf:∀ b∈fp,FpOk X pins H b) (hl:∀ b∈fp,b<s.heap.objs.size):(bS X scope cl x s H fp).Ok where
 mod:=I.ok.mod
 kind:=S.kind
 glob:=I.ok.glob
 blt:=I.ok.blt
 above:=Fo _
 inj:=λy z c h1 h2=>I.ok.inj y z c (c1 y c h1) (c1 z c h2)
 has:=λn hn=>by
  rcases hn with hn|hn
  .exact c2 n (gM S.nocell (.inl rfl) hn)
  .exact c2 n (gM S.nocell (.inr rfl) hn)
 cab:=λ_ _ h=>nomatch h
 hd:=I.ok.hd
 frames:=I.ok.frames
 stk:= .inl rfl
 exf:=λb hb=>⟨Fy (hl b hb),λy c h=>(hf b hb).2.2.2.2.1 y c (c1 y c h)⟩
 bs:=I.bs
 bsz:=FA I.ok.bsz I.sz
 noex:=λb o e hb=>by
  have h1:=I.ok.noex b o e;rcases(hf b hb).2.2.2.1 with z|z
  .exact h1 z
  .exact absurd (FQ (Heap.lt_size e) (FA I.ok.bsz z)) (Gz _)
 exfs:=λb hb hs=>by
  rcases Fp.mp (I.stkSub b hs) with z|z
  .exact(hf b hb).2.1 z
  .exact(hf b hb).2.2.1 z
 funs:=I.stack
 frf:=I.stkFree
def rK{h':Heap}{t':Nat}(I:Inv X pins σ H s)(S:CompScope X scope x)(c1:∀ n c,cl.lookup n=be c->X.env.cells.lookup n=be c)(c2:∀ n,(n,NameKind.free)∈scope.names->∃ c,cl.lookup n=be c)
  (hf:∀ b∈fp,FpOk X pins H b) (hl:∀ b∈fp,b<s.heap.objs.size) {m:D'->Option KB} (hn:h'.Ns s.heap.objs.size m) (k:∀ b o,s.heap.get? b=be o->h'.get? b=be o):
  Inv (bS X scope cl x s H fp) [] (σ++[m9]) H {s with heap:=h',toks:=t'}:=by
 refine⟨jU I S c1 c2 hf hl,rfl,I.bare,Un.kept k,⟨m,hn,λi n v e1 e2 e3=>?_⟩,λn c e=>?_,I.hok.fresh (Fo _),λn c e=>I.freeC n c (c1 n c e),λp hp=>absurd (show p∈([]:List (KF × R')) from hp) (by simp),I.hok.kept k,?_⟩
 .have hi:i<σ.length:=by
   rcases GE i σ.length with q|q
   .exact q
   .rw[Gh q] at e2;cases hz:i - σ.length with
    |zero=>rw[hz] at e2;simp at e2
    |succ z=>rw[hz] at e2;simp at e2
  rw[F8 hi] at e2;have LJ:i<X.N.length:=by rw[<- I.len];exact hi
  have J2:(X.N.map (λn=>if n=x then("":D') else n)++[x])[i]?=be n:=e1;rw[F8 (by simpa using LJ),FF,FJ LJ] at J2;simp only[Option.map_some,Option.some.injEq] at J2;by_cases hx:X.N[i]=x
  .rw[if_pos hx] at J2;subst J2;exact absurd e3 S.empty
  .rw[if_neg hx] at J2;subst J2;have j6:=S.vis _ (FT LJ) hx e3;have l9:=S.free _ j6;obtain⟨c,hc⟩:=c2 _ j6;obtain⟨mX,Rl,Qd⟩:=I.loc;obtain⟨u,ru,lk⟩:=Qd i X.N[i] v (FJ LJ) e2 (.inr (.inl l9));refine⟨u,ru,.inr ⟨?_,c,hc,?_⟩⟩
   .exact .inl (S.cells _ j6)
   .rcases lk with⟨kl,_⟩|⟨_,c',Je,j8⟩
    .rw[l9] at kl;cases kl
    .have:c=c':=by
      have:=c1 _ c hc;rw[Je] at this;exact(Option.some.inj this).symm
     subst this;obtain⟨o,ho,hd⟩:=j8;exact⟨o,k _ _ ho,hd⟩
 .obtain⟨v,o,ho,hd⟩:=I.cell n c (c1 n c e);exact⟨v,o,k _ _ ho,hd⟩
 .show(σ++[m9]).length=(X.N.map _++[x]).length;rw[Fx,Fx,Fs,I.len];rfl
end
def gN(wi:TI)(tt:TT)(i_:TE):TE:=λσ H Q=>wi σ H λJ H1=>∀ D,H1 D=m9->∃ W:Nat->Nat->Hp->Prop,(∃ m,W 0 m (upd H1 D (.lst [])))/\∀ i m H,W i m H->
 (J.stop i H/\Q (.ref D) H)\/(J.go i H/\∀ x H',J.yld i H x H'->tt (σ++[be x]) H' λb H1=>if b=true then i_ (σ++[be x]) H1 λy H''=>∃ vs,H'' D=be (.lst vs)/\vs.length<sizeLine/\∃ m',m'<m/\W (i+1) m' (upd H'' D (.lst (vs++[y]))) else ∃ m',m'<m/\W (i+1) m' H1)
def PIf(X:Cx)(h_:List RP)(t:TT):Prop:=
 ∀ (pins:List (KF × R')) (s:KM) (σ:St) (H:Hp) (Q:Bool->Hp->Prop),Inv X pins σ H s->t σ H Q->RS (RR X.prog X.w) X.A (rH h_ X.env) (TP X pins σ Q) X.xe s
variable{X:Cx}
def pif_nil:PIf X [] (λ_ H Q=>Q true H):=λpins s σ H Q I q=>wpAny_tests_nil ⟨H,I,q⟩
def yO{c:RP}{t:TT}(h:PT X c t):PIf X [c] t:=λpins s σ H Q I q=>wpAny_tests_one (h pins s σ H Q I q)
def PIf.anti{e:List RP}{t t':TT}(h:PIf X e t)(a:∀ s H Q,t' s H Q->t s H Q):PIf X e t':=λpins s σ H Q I q=>h pins s σ H Q I (a _ _ _ q)
section
variable {X:Cx}
def yQ{P:P3}{w:RT}{H:Hp}{h h':Heap}{a:KF}(x:HOk P w H h)(hn:H a=m9)(hs:Heap.SameBut a h h'):HOk P w H h':=λb ob e=>by
 refine(x b ob e).stay (λc w' hc q=>(hs.2 c ?_).trans q) (λ_ q=>q) λ_ _ q=>q;rintro rfl;rcases hc with rfl|hc
 .rw[hn] at e;cases e
 .rw[hn] at hc;cases hc
variable{h_:List RP}{scope:Sk}
def pe_comp{ge iter:RP}{x:D'}{px:R5}{pos:R5}{wi:TI}{tt:TT}{i_:TE}(hc:X.calm=true)(S:CompScope X scope x)(hi:PI X (.Name x px) iter wi)
  (hq:∀ cl s₀ H₀ fp,PIf (bS X scope cl x s₀ H₀ fp) h_ tt) (he:∀ cl s₀ H₀ fp,PE (bS X scope cl x s₀ H₀ fp) ge i_) (hs:autoParam (∀ y,zFS X iter y) zA2):
  PE X (.ListComp ge [⟨.Name x px,iter,h_,0⟩] scope pos) (gN wi tt i_):=by
 intro pins s σ H Q I h;obtain⟨cl,j8,c1,c2⟩:=closure_is (env:=X.env) (scope:=scope) (λn q=>I.ok.has n (.inl (S.free n q)));rw[eval_ListComp];refine S_ (use:=m9) rfl hs j8 S.kind S.names (thn (hi pins s σ H _ I h) λv s1 h1=>thn h1 λLz s2 h2=>?_);obtain⟨it,fp,tn,J,H1,e,I1,T,st,f1,hr⟩:=h2;subst e;have g5:∀ b∈fp,b<s2.heap.objs.size:=λb hb=>by
  obtain⟨o,ho,_⟩:=T.obj _ _ st b hb;exact Heap.lt_size ho
 have hD:H1 s2.heap.objs.size=none:=I1.hok.fresh (Fo _);obtain⟨W,⟨m0,w0⟩,step⟩:=hr _ hD;refine R6 (Tr S.nocell (by intro y hy;simp at hy) (λh₁ hns₁ hsb₁=>?_) S.kind);have I3:Inv X pins σ (upd H1 s2.heap.objs.size (.lst [])) {s2 with heap:=s2.heap.push {cls:= .type "list",data:= .seq ([]:List KB).toArray},toks:=s2.toks}:=I1.lnew (its:=[]) (ys:=[]) .nil (FR _);have g6:∀ b∈fp,b<(s2.heap.push {cls:= .type "list",data:= .seq ([]:List KB).toArray}).objs.size:=λb hb=>by
  rw[Heap.size_push];exact HZ (g5 b hb)
 have n9:∀ b∈fp,FpOk X pins (upd H1 s2.heap.objs.size (.lst [])) b:=λb hb=>⟨by rw[au (Fy (g5 b hb))];exact(f1 b hb).1,(f1 b hb).2⟩;have kp:∀ b o,(s2.heap.push {cls:= .type "list",data:= .seq ([]:List KB).toArray}).get? b=be o->h₁.get? b=be o:=λb o e=>
  (hsb₁.2 b (Fy (Heap.lt_size e))).trans (Heap.get?_push_of_some _ e)
 have I4:=rK (x:=x) (fp:=fp) (t':=s2.toks+([]:List (D' × KB)).length) I3 S c1 c2 n9 g6 hns₁ kp;have G_:=jU (x:=x) (fp:=fp) I3 S c1 c2 n9 g6;generalize hY:bS X scope cl x {s2 with heap:=s2.heap.push {cls:= .type "list",data:= .seq ([]:List KB).toArray},toks:=s2.toks} (upd H1 s2.heap.objs.size (.lst [])) fp=Y at I4 G_;have yP:Y.prog=X.prog:=by rw[<- hY];rfl
 have yW:Y.w=X.w:=by rw[<- hY];rfl
 have yK:Y.K=X.K:=by rw[<- hY];rfl
 have yA:Y.A=X.A:=by rw[<- hY];rfl
 have yN:Y.N=X.N.map (λn=>if n=x then("":D') else n)++[x]:=by rw[<- hY];rfl
 have yE:Y.env=S' scope cl (s2.heap.push {cls:= .type "list",data:= .seq ([]:List KB).toArray}).objs.size X.env:=by rw[<- hY];rfl
 have yX:Y.xe=λ_ _=>False:=by rw[<- hY];rfl
 have yC:Y.calm=true:=by rw[<- hY];exact hc
 have KL:Y.ex=fp:=by rw[<- hY];rfl
 have Mu:Y.pn=[]:=by rw[<- hY];rfl
 have Mw:Y.fs=frs X.stack:=by rw[<- hY];rfl
 have Mx:Y.H₀=upd H1 s2.heap.objs.size (.lst []):=by rw[<- hY];rfl
 have KN:Y.s₀={s2 with heap:=s2.heap.push {cls:= .type "list",data:= .seq ([]:List KB).toArray},toks:=s2.toks}:=by rw[<- hY];rfl
 have Mz:PE Y ge i_:=by rw[<- hY];exact he _ _ _ _
 have MB:PIf Y h_ tt:=by rw[<- hY];exact hq _ _ _ _
 have g8:∀ {H':Hp},(∀ b∈fp,H' b=m9)->∀ b∈fp,FpOk Y [] H' b:=λ{H'} hn b hb=>by
  have i6:b∈Y.ex:=by rw[KL];exact hb
  exact⟨hn b hb,(G_.exf b i6).1,G_.exfs b i6,.inl i6,λn c e=>(G_.exf b i6).2 n c e,by rw[Mu];simp⟩
 have v7:Y.env.scope.names.lookup x=be .local:=by rw[yE];exact Tt S.own
 have KO:Y.N[X.N.length]?=be x:=by rw[yN];simp
 have MC:Y.N.Nodup:=by rw[yN];exact S.nd
 have c_:∀ (o:Option V) (H':Hp) (s':KM),Inv Y [] (σ++[o]) H' s'->Q (.ref s2.heap.objs.size) H'->∀ h',Heap.SameBut Y.env.locals s'.heap h'->EP X pins σ Q (.ref s2.heap.objs.size) {s' with heap:=h'}:=λo H' s' I' q h' hsb=>by
  have t8:Y.env.locals=(s2.heap.push {cls:= .type "list",data:= .seq ([]:List KB).toArray}).objs.size:=by rw[yE];rfl
  have ne:∀ b ob,(s2.heap.push {cls:= .type "list",data:= .seq ([]:List KB).toArray}).get? b=be ob->b≠Y.env.locals:=λb ob e=>by rw[t8];exact Fy (Heap.lt_size e)
  have bs:=I'.base;rw[Mw,KL,Mx,KN] at bs;refine⟨.ref s2.heap.objs.size,H',I3.call' (ch:=fp) ?_ ⟨λb ob e n h1 h2=>?_,λb ob e n h1 h2=>?_,bs.free,λb ob e h2=>?_,bs.tups,bs.frzs,bs.tbls⟩ ?_ I'.bare ?_,rfl,q⟩
  .have:=I'.os;rw[KN] at this;exact this
  .exact(hsb.2 b (ne b ob e)).trans (bs.keep b ob e n h1 h2)
  .obtain⟨sl,q⟩:=bs.slot b ob e n h1 h2;exact⟨sl,(hsb.2 b (ne b ob e)).trans q⟩
  .obtain⟨o',q⟩:=bs.there b ob e h2;exact⟨o',(hsb.2 b (ne b ob e)).trans q⟩
  .have:=yQ I'.hok I'.free hsb;rw[yP,yW] at this;exact this
  .exact λb hb=>⟨(n9 b hb).2.2.2.1,(n9 b hb).2.1,(n9 b hb).2.2.2.2.1,(n9 b hb).2.2.2.2.2⟩
 have s_:SO (RR X.prog X.w) X.A (.compLoop (.ListComp ge [⟨.Name x px,iter,h_,0⟩] scope pos) 0 (.ref it) (.ref s2.heap.objs.size) (S' scope cl (s2.heap.push {cls:= .type "list",data:= .seq ([]:List KB).toArray}).objs.size X.env))
   (compPost (RR X.prog X.w) X.A X.xe m9 (EP X pins σ Q) (.ref s2.heap.objs.size) (s2.heap.push {cls:= .type "list",data:= .seq ([]:List KB).toArray}).objs.size)
   {s2 with heap:=h₁,toks:=s2.toks+([]:List (D' × KB)).length}:=by
  refine rJ (λn s'=>∃ i o H',Inv Y [] (σ++[o]) H' s'/\tn i s'.heap/\(∀ b∈fp,H' b=m9)/\W i n H') ?_ m0 ⟨0,m9,_,I4,T.keep _ _ _ st (λb hb ob e=>kp b ob (Heap.get?_push_of_some _ e)),λb hb=>(n9 b hb).1,w0⟩;rintro n s3 ⟨i,o,H3,I5,t3,f3,w3⟩;rcases step i n H3 w3 with⟨stop,q⟩|⟨go,q⟩
  .have dn:=T.done Y yP yW yK yC i [] s3 _ H3 (λ_ _=>False) I5 (g8 f3) t3 stop;rw[yA] at dn;refine thn dn λr s4 b8=>?_;obtain⟨hr,I6⟩:=b8;subst hr;obtain⟨m,hn,_⟩:=I6.loc;have t8:Y.env.locals=(s2.heap.push {cls:= .type "list",data:= .seq ([]:List KB).toArray}).objs.size:=by rw[yE];rfl
   rw[t8] at hn;exact⟨m,hn,λh' hsb=>c_ o H3 s4 I6 q h' (by rw[t8];exact hsb)⟩
  .have KQ:=T.item Y yP yW yK yC i [] s3 _ H3 (λ_ _=>False) I5 (g8 f3) t3 go;rw[yA] at KQ;refine thn KQ λr s4 b8=>?_;obtain⟨u,hr,h4⟩:=b8;subst hr;refine thn h4 λ_ s5 b8=>?_;obtain⟨xv,H5,I6,r5,y5,m_,Ku⟩:=b8;have MD:=I6.pinned (g8 Ku) (T.obj _ _ m_);rw[<- yE];refine SI (dX MD MC KO (.inl v7) r5 (λs6 I7=>?_) (.inr v7));have JL:(σ++[o]).set X.N.length (be xv)=σ++[be xv]:=by
    rw[<- I.len];simp
   rw[JL] at I7;have tv:=MB _ s6 _ H5 _ I7 (q xv H5 y5);rw[yP,yW,yA,yX] at tv;refine thn tv λb MF b8=>?_;obtain⟨MG,H_,qb⟩:=b8;cases b with
   |false=>
    obtain⟨m',hm,w7⟩:=qb;refine⟨m',hm,i+1,be xv,_,H_.unpinned,T.keep _ _ _ m_ λb hb ob e=>(H_.pin (b,ob) (FC _ (FC _ (cB hb e)))).1,λb hb=>?_,w7⟩;obtain⟨ob,e,d⟩:=T.obj _ _ m_ b hb;exact(H_.pin (b,ob) (FC _ (FC _ (cB hb e)))).2.1
   |true=>
   have ev:=Mz _ MF _ MG _ H_ qb;rw[yP,yW,yA,yX] at ev;refine thn ev λyv s7 b8=>?_;obtain⟨y,H6,I8,ry,vs,MH,a_,m',hm,w7⟩:=b8;have ap:=gz (X:=Y) _ s7 _ H6 (.ref s2.heap.objs.size) [y] (.ref s2.heap.objs.size) [yv] (λ_ H7=>H7=upd H6 s2.heap.objs.size (.lst (vs++[y]))) I8 rfl (.cons ry .nil) ⟨_,vs,y,rfl,rfl,MH,a_,rfl⟩;rw[yP,yW,yA,yX] at ap;refine thn ap λ_ s8 b8=>?_;obtain⟨_,H7,I9,_,e7⟩:=b8;subst e7;refine⟨m',hm,i+1,be xv,_,I9.unpinned,T.keep _ _ _ m_ λb hb ob e=>(I9.pin (b,ob) (FC _ (FC _ (cB hb e)))).1,λb hb=>?_,w7⟩;obtain⟨ob,e,d⟩:=T.obj _ _ m_ b hb;exact(I9.pin (b,ob) (FC _ (FC _ (cB hb e)))).2.1
 exact To s_ (T.self _ _ _ _ _ (T.keep _ _ _ st (λb hb ob e=>kp b ob (Heap.get?_push_of_some _ e))) s_)
def yR{ge iter:RP}{x y:D'}{px py v8:R5}{pos:R5}{wi:TI}{tt:TT}{i_:TE}{ix:Nat}(hc:X.calm=true)(S:CompScope X scope x)(hi:PI X (.Name x px) iter wi)
  (hq:∀ cl s₀ H₀ fp,PIf (bS X scope cl x s₀ H₀ fp) h_ tt) (he:∀ cl s₀ H₀ fp,PE (bS X scope cl x s₀ H₀ fp) ge i_) (hN:X.N.Nodup) (MI:X.N[ix]?=be y) (hy:Loc X.env.scope y) (hf:zFN X y)
  (JI:Sa (.ListComp ge [⟨.Name x px,iter,h_,0⟩] scope pos) (be (.Name y py)) v8.line X.env=pure true) (hs:autoParam (∀ y,zFS X iter y) zA2):
  PS X (.Assign [.Name y py] (.ListComp ge [⟨.Name x px,iter,h_,0⟩] scope pos) v8) (tAsg (gN wi tt i_) (gl ix)):=by
 intro pins s σ H DE I h;have h:wi σ H λJ H1=>∀ D,H1 D=m9->∃ W:Nat->Nat->Hp->Prop,(∃ m,W 0 m (upd H1 D (.lst [])))/\∀ i m H,W i m H->
  (J.stop i H/\DE.nx (σ.set ix (be (.ref D))) H)\/(J.go i H/\∀ x H',J.yld i H x H'->tt (σ++[be x]) H' λb H1=>if b=true then i_ (σ++[be x]) H1 λy H''=>∃ vs,H'' D=be (.lst vs)/\vs.length<sizeLine/\∃ m',m'<m/\W (i+1) m' (upd H'' D (.lst (vs++[y]))) else ∃ m',m'<m/\W (i+1) m' H1):=h
 obtain⟨cl,j8,c1,c2⟩:=closure_is (env:=X.env) (scope:=scope) (λn q=>I.ok.has n (.inl (S.free n q)));rw[exec_Assign_Name_used _ _ _ _ JI];refine Os (Si (Os ?_));show RS _ X.A (do let _ <- comprehension (.ListComp ge [⟨.Name x px,iter,h_,0⟩] scope pos) scope X.env _ (newList []) false (R1 iter X.env) (be (Sx (.Name y py) X.env))) _ _ s;refine Os (R3 (S_ (use:=be (Sx (.Name y py) X.env)) (Q:=λ_ s'=>SP X pins DE .next s') rfl hs j8 S.kind S.names
  (thn (hi pins s σ H _ I h) λv s1 h1=>thn h1 λLz s2 h2=>?_)) (λ_ s' hq=>RQ (RQ hq)) λ_ _ e=>e)
 obtain⟨it,fp,tn,J,H1,e,I1,T,st,f1,hr⟩:=h2;subst e;have g5:∀ b∈fp,b<s2.heap.objs.size:=λb hb=>by
  obtain⟨o,ho,_⟩:=T.obj _ _ st b hb;exact Heap.lt_size ho
 have hD:H1 s2.heap.objs.size=none:=I1.hok.fresh (Fo _);obtain⟨W,⟨m0,w0⟩,step⟩:=hr _ hD;refine R6 (Tr S.nocell (by intro y hy;simp at hy) (λh₁ hns₁ hsb₁=>?_) S.kind);have I3:Inv X pins σ (upd H1 s2.heap.objs.size (.lst [])) {s2 with heap:=s2.heap.push {cls:= .type "list",data:= .seq ([]:List KB).toArray},toks:=s2.toks}:=I1.lnew (its:=[]) (ys:=[]) .nil (FR _);have g6:∀ b∈fp,b<(s2.heap.push {cls:= .type "list",data:= .seq ([]:List KB).toArray}).objs.size:=λb hb=>by
  rw[Heap.size_push];exact HZ (g5 b hb)
 have n9:∀ b∈fp,FpOk X pins (upd H1 s2.heap.objs.size (.lst [])) b:=λb hb=>⟨by rw[au (Fy (g5 b hb))];exact(f1 b hb).1,(f1 b hb).2⟩;have kp:∀ b o,(s2.heap.push {cls:= .type "list",data:= .seq ([]:List KB).toArray}).get? b=be o->h₁.get? b=be o:=λb o e=>
  (hsb₁.2 b (Fy (Heap.lt_size e))).trans (Heap.get?_push_of_some _ e)
 have I4:=rK (x:=x) (fp:=fp) (t':=s2.toks+([]:List (D' × KB)).length) I3 S c1 c2 n9 g6 hns₁ kp;have G_:=jU (x:=x) (fp:=fp) I3 S c1 c2 n9 g6;generalize hY:bS X scope cl x {s2 with heap:=s2.heap.push {cls:= .type "list",data:= .seq ([]:List KB).toArray},toks:=s2.toks} (upd H1 s2.heap.objs.size (.lst [])) fp=Y at I4 G_;have yP:Y.prog=X.prog:=by rw[<- hY];rfl
 have yW:Y.w=X.w:=by rw[<- hY];rfl
 have yK:Y.K=X.K:=by rw[<- hY];rfl
 have yA:Y.A=X.A:=by rw[<- hY];rfl
 have yN:Y.N=X.N.map (λn=>if n=x then("":D') else n)++[x]:=by rw[<- hY];rfl
 have yE:Y.env=S' scope cl (s2.heap.push {cls:= .type "list",data:= .seq ([]:List KB).toArray}).objs.size X.env:=by rw[<- hY];rfl
 have yX:Y.xe=λ_ _=>False:=by rw[<- hY];rfl
 have yC:Y.calm=true:=by rw[<- hY];exact hc
 have KL:Y.ex=fp:=by rw[<- hY];rfl
 have Mu:Y.pn=[]:=by rw[<- hY];rfl
 have Mw:Y.fs=frs X.stack:=by rw[<- hY];rfl
 have Mx:Y.H₀=upd H1 s2.heap.objs.size (.lst []):=by rw[<- hY];rfl
 have KN:Y.s₀={s2 with heap:=s2.heap.push {cls:= .type "list",data:= .seq ([]:List KB).toArray},toks:=s2.toks}:=by rw[<- hY];rfl
 have Mz:PE Y ge i_:=by rw[<- hY];exact he _ _ _ _
 have MB:PIf Y h_ tt:=by rw[<- hY];exact hq _ _ _ _
 have g8:∀ {H':Hp},(∀ b∈fp,H' b=m9)->∀ b∈fp,FpOk Y [] H' b:=λ{H'} hn b hb=>by
  have i6:b∈Y.ex:=by rw[KL];exact hb
  exact⟨hn b hb,(G_.exf b i6).1,G_.exfs b i6,.inl i6,λn c e=>(G_.exf b i6).2 n c e,by rw[Mu];simp⟩
 have v7:Y.env.scope.names.lookup x=be .local:=by rw[yE];exact Tt S.own
 have KO:Y.N[X.N.length]?=be x:=by rw[yN];simp
 have MC:Y.N.Nodup:=by rw[yN];exact S.nd
 have t8:Y.env.locals=(s2.heap.push {cls:= .type "list",data:= .seq ([]:List KB).toArray}).objs.size:=by rw[yE];rfl
 have c_:∀ (o:Option V) (H':Hp) (s':KM),Inv Y [] (σ++[o]) H' s'->Inv X pins σ H' s':=λo H' s' I'=>by
  have bs:=I'.base;rw[Mw,KL,Mx,KN] at bs;refine I3.call' (ch:=fp) ?_ bs ?_ I'.bare ?_
  .have:=I'.os;rw[KN] at this;exact this
  .have:=I'.hok;rw[yP,yW] at this;exact this
  .exact λb hb=>⟨(n9 b hb).2.2.2.1,(n9 b hb).2.1,(n9 b hb).2.2.2.2.1,(n9 b hb).2.2.2.2.2⟩
 have s_:SO (RR X.prog X.w) X.A (.compLoop (.ListComp ge [⟨.Name x px,iter,h_,0⟩] scope pos) 0 (.ref it) (.ref s2.heap.objs.size) (S' scope cl (s2.heap.push {cls:= .type "list",data:= .seq ([]:List KB).toArray}).objs.size X.env))
   (compPost (RR X.prog X.w) X.A X.xe (be (Sx (.Name y py) X.env)) (λ_ s'=>SP X pins DE .next s') (.ref s2.heap.objs.size) (s2.heap.push {cls:= .type "list",data:= .seq ([]:List KB).toArray}).objs.size)
   {s2 with heap:=h₁,toks:=s2.toks+([]:List (D' × KB)).length}:=by
  refine rJ (λn s'=>∃ i o H',Inv Y [] (σ++[o]) H' s'/\tn i s'.heap/\(∀ b∈fp,H' b=m9)/\W i n H') ?_ m0 ⟨0,m9,_,I4,T.keep _ _ _ st (λb hb ob e=>kp b ob (Heap.get?_push_of_some _ e)),λb hb=>(n9 b hb).1,w0⟩;rintro n s3 ⟨i,o,H3,I5,t3,f3,w3⟩;rcases step i n H3 w3 with⟨stop,q⟩|⟨go,q⟩
  .have dn:=T.done Y yP yW yK yC i [] s3 _ H3 (λ_ _=>False) I5 (g8 f3) t3 stop;rw[yA] at dn;refine thn dn λr s4 b8=>?_;obtain⟨hr,I6⟩:=b8;subst hr;obtain⟨m,hn,_⟩:=I6.loc;have hfr:=I6.free;rw[t8] at hn hfr;have IX:=c_ o H3 s4 I6;show RS _ X.A (Sx (.Name y py) X.env (.ref s2.heap.objs.size)) _ _ s4;refine SI (pO IX hN MI hy (v:= .ref s2.heap.objs.size) rfl (λs5 I7 ⟨a,hsb,ha⟩=>?_) hf);have KR:(s2.heap.push {cls:= .type "list",data:= .seq ([]:List KB).toArray}).objs.size≠X.env.locals:=Gq I3.lt;have KS:∀ z c,X.env.cells.lookup z=be c->c≠(s2.heap.push {cls:= .type "list",data:= .seq ([]:List KB).toArray}).objs.size:=λz c e=>by
    obtain⟨vv,oo,ho,_⟩:=I3.cell z c e;exact Fy (Heap.lt_size ho)
   have MJ:(s2.heap.push {cls:= .type "list",data:= .seq ([]:List KB).toArray}).objs.size≠a:=by
    rcases ha with e|e
    .rw[e];exact KR
    .exact λz=>KS y a e z.symm
   refine⟨m,hn.sameBut hsb MJ,λh' A_=>⟨_,H3,I7.turned (t':=s5.toks) (it:=(s2.heap.push {cls:= .type "list",data:= .seq ([]:List KB).toArray}).objs.size) (λb ob hb e=>(A_.2 b hb).trans e) hfr KR (.inr I3.sz) KS (λp hp=>?_),q⟩⟩;exact Fy (Heap.lt_size (I3.pin p hp).1)
  .have KQ:=T.item Y yP yW yK yC i [] s3 _ H3 (λ_ _=>False) I5 (g8 f3) t3 go;rw[yA] at KQ;refine thn KQ λr s4 b8=>?_;obtain⟨u,hr,h4⟩:=b8;subst hr;refine thn h4 λ_ s5 b8=>?_;obtain⟨xv,H5,I6,r5,y5,m_,Ku⟩:=b8;have MD:=I6.pinned (g8 Ku) (T.obj _ _ m_);rw[<- yE];refine SI (dX MD MC KO (.inl v7) r5 (λs6 I7=>?_) (.inr v7));have JL:(σ++[o]).set X.N.length (be xv)=σ++[be xv]:=by
    rw[<- I.len];simp
   rw[JL] at I7;have tv:=MB _ s6 _ H5 _ I7 (q xv H5 y5);rw[yP,yW,yA,yX] at tv;refine thn tv λb MF b8=>?_;obtain⟨MG,H_,qb⟩:=b8;cases b with
   |false=>
    obtain⟨m',hm,w7⟩:=qb;refine⟨m',hm,i+1,be xv,_,H_.unpinned,T.keep _ _ _ m_ λb hb ob e=>(H_.pin (b,ob) (FC _ (FC _ (cB hb e)))).1,λb hb=>?_,w7⟩;obtain⟨ob,e,d⟩:=T.obj _ _ m_ b hb;exact(H_.pin (b,ob) (FC _ (FC _ (cB hb e)))).2.1
   |true=>
   have ev:=Mz _ MF _ MG _ H_ qb;rw[yP,yW,yA,yX] at ev;refine thn ev λyv s7 b8=>?_;obtain⟨y,H6,I8,ry,vs,MH,a_,m',hm,w7⟩:=b8;have ap:=gz (X:=Y) _ s7 _ H6 (.ref s2.heap.objs.size) [y] (.ref s2.heap.objs.size) [yv] (λ_ H7=>H7=upd H6 s2.heap.objs.size (.lst (vs++[y]))) I8 rfl (.cons ry .nil) ⟨_,vs,y,rfl,rfl,MH,a_,rfl⟩;rw[yP,yW,yA,yX] at ap;refine thn ap λ_ s8 b8=>?_;obtain⟨_,H7,I9,_,e7⟩:=b8;subst e7;refine⟨m',hm,i+1,be xv,_,I9.unpinned,T.keep _ _ _ m_ λb hb ob e=>(I9.pin (b,ob) (FC _ (FC _ (cB hb e)))).1,λb hb=>?_,w7⟩;obtain⟨ob,e,d⟩:=T.obj _ _ m_ b hb;exact(I9.pin (b,ob) (FC _ (FC _ (cB hb e)))).2.1
 exact To s_ (T.self _ _ _ _ _ (T.keep _ _ _ st (λb hb ob e=>kp b ob (Heap.get?_push_of_some _ e))) s_)
end
end L2
namespace My
def RepS.snoc{K:Ex}{B F H:Hp}{z:SD}{s:L2.St}{d:D}{v:V}(h:RepS K B F H z s)(r:Rep K F d v):RepS K B F H (z++[be d]) (s++[be v]):=by
 have no:=r.noown;have get:∀ {j:Nat} {x:D},(z++[be d])[j]?=be (be x)->(j<z.length/\z[j]?=be (be x))\/(j=z.length/\x=d):=λ{j x} e=>by
  rcases GE j z.length with q|q
  .rw[F8 q] at e;exact .inl ⟨q,e⟩
  .rw[Gh q] at e;cases hz:j - z.length with
   |zero=>rw[hz] at e;simp at e;exact .inr ⟨by lia,e.symm⟩
   |succ n=>rw[hz] at e;simp at e
 have lt:∀ {j:Nat},j<z.length->(s++[be v])[j]?=s[j]?:=λ{j} q=>F8 (by rw[h.len];exact q);refine⟨by rw[Fx,Fx,h.len];rfl,λj x e nx=>?_,λj ds e=>?_,λj k dj dk a e1 e2 e3 e4=>?_⟩
 .rcases get e with⟨q,e⟩|⟨q,rfl⟩
  .rw[lt q];exact h.val j x e nx
  .exact⟨v,by rw[q,Gh (by rw[h.len];exact Fo _),h.len];simp,r⟩
 .rcases get e with⟨q,e⟩|⟨q,e⟩
  .rw[lt q];exact h.own j ds e
  .rw[<- e] at no;cases no
 .rcases get e1 with⟨q,e1⟩|⟨q,e1⟩
  .rcases get e2 with⟨q2,e2⟩|⟨q2,e2⟩
   .rw[lt q] at e3;rw[lt q2] at e4;exact h.apart j k dj dk a e1 e2 e3 e4
   .rw[<- e2] at no;cases no
  .rw[<- e1] at no;cases no
def okB:Bool->Bool->Prop->Prop->Prop
 |_,true,A,_=>A
 |false,false,_,B=>B
 |true,false,_,_=>False
def okF{b:Bool}{A B:Prop}(h1:b=true->A)(h2:b=false->B):okB false b A B:=by
 cases b
 .exact h2 rfl
 .exact h1 rfl
def cmpG(nf:Bool)(tt:TDT)(te:TD)(z:SD)(R:D->Prop)(items:List D):Prop:=items.length<=100000/\∃ W:Nat->List D->Prop,W 0 []/\(∀ k x ys,items[k]?=be x->(nf=true->ys.length=k)->W k ys->tt (z++[be x]) λb=>okB nf b (te (z++[be x]) λy=>W (k+1) (ys++[y])) (W (k+1) ys))/\∀ ys,(nf=true->ys.length=items.length)->W items.length ys->R (.lst ys)
def cmpF(tt:TDT)(te:TD)(z:SD)(R:D->Prop)(items:List D):Prop:=items.length<=100000/\∃ W:Nat->List D->Prop,W 0 []/\(∀ k x ys,items[k]?=be x->W k ys->tt (z++[be x]) λb=>okB false b (te (z++[be x]) λy=>W (k+1) (ys++[y])) (W (k+1) ys))/\∀ ys,W items.length ys->R (.lst ys)
def cmpP(te:TD)(z:SD)(R:D->Prop)(items:List D):Prop:=items.length<=100000/\∃ W:Nat->List D->Prop,W 0 []/\(∀ k x ys,items[k]?=be x->ys.length=k->W k ys->te (z++[be x]) λy=>W (k+1) (ys++[y]))/\∀ ys,ys.length=items.length->W items.length ys->R (.lst ys)
def jV(ti:TDI)(te:TD):TD:=λz R=>ti z (cmpP te z R)
def rL(ti:TDI)(tt:TDT)(te:TD):TD:=λz R=>ti z (cmpF tt te z R)
def dT1:TDT:=λ_ R=>R true
abbrev DIf(X:Cx)[Jx](h_:List RP)(t:TDT):Prop:=PIf X h_ (lT X.K t)
variable{X:Cx}
def rM[Jx]:DIf X [] dT1:=pif_nil.anti λs H Q q=>by
 obtain⟨B,F,z,kf,rs,R,h1,h2⟩:=q;exact h2 true F H (Grow.refl kf.fh) h1
def rN[Jx]{c:RP}{t:TDT}(h:DT X c t):DIf X [c] t:=yO h
structure ItIs(K:Ex)(J:It)(F1 H1:Hp)(items:List D):Prop where
 go:∀ k F' H',Grow F1 H1 F' H'->k<items.length->J.go k H'
 yld:∀ k F' H' x H'',Grow F1 H1 F' H'->k<items.length->J.yld k H' x H''->H''=H'/\∃ d,items[k]?=be d/\Rep K F' d x
 stop:∀ F' H',Grow F1 H1 F' H'->J.stop items.length H'
def ItOk[Jx](K:Ex)(wi:TI)(ti:TDI):Prop:=∀ {s:L2.St} {H B F:Hp} {z:SD} {P:List D->Prop} {Q:It->Hp->Prop},Kept B Jx.F0 F H->RepS K B F H z s->ti z P->(∀ items J F1 H1,Grow F H F1 H1->P items->ItIs K J F1 H1 items->Q J H1)->wi s H Q
section
variable {X:Cx}
variable{K:Ex}{H:Hp}{z:SD}{s:L2.St}{R:D->Prop}{items:List D}
def yT[Jx]{B F F1 H1:Hp}{Q:VK}{nf:Bool}{tt:TDT}{te:TD}{J:It}(kf:Kept B Jx.F0 F H)(g1:Grow F H F1 H1)(rs:RepS K B F H z s)(h2:∀ D ys us F' H',H D=m9->F' D=m9->Grow F H F' H'->H' D=be (.lst us)->Reps K F' ys us->R (.lst ys)->Q (.ref D) H')
    (it:ItIs K J F1 H1 items) (hd:cmpG nf tt te z R items):
    ∀ D,H1 D=m9->∃ W:Nat->Nat->Hp->Prop,(∃ m,W 0 m (upd H1 D (.lst [])))/\∀ i m H,W i m H->
      (J.stop i H/\Q (.ref D) H)\/(J.go i H/\∀ x H',J.yld i H x H'->lT K tt (s++[be x]) H' λb H1=>if b=true then lE K te (s++[be x]) H1 λy H''=>∃ vs,H'' D=be (.lst vs)/\vs.length<sizeLine/\∃ m',m'<m/\W (i+1) m' (upd H'' D (.lst (vs++[y]))) else ∃ m',m'<m/\W (i+1) m' H1):=by
  intro D hD;obtain⟨hz,W,w0,c5,out⟩:=hd;have Qe:F1 D=none:=g1.fh.free hD;have hH:H D=none:=g1.hh.free hD;refine⟨λk m H'=>m=items.length - k/\k<=items.length/\∃ F' ys us,Grow F1 H1 F' H'/\H' D=be (.lst us)/\F' D=m9/\Reps K F' ys us/\(ys.length<=k/\(nf=true->ys.length=k))/\W k ys,
    ⟨items.length,by simp,FR _,F1,[],[],⟨Same.refl F1,g1.fh.trans (aU hD _),aU hD _,λb h _=>h⟩,aC,Qe,reps_nil.mpr rfl,⟨Fo _,λ_=>rfl⟩,w0⟩,?_⟩
  rintro k m H' ⟨rfl,hk,F',ys,us,G,hu,hF,ry,hl,w⟩;by_cases g5:k<items.length
  . refine .inr ⟨it.go k F' H' G g5,λx H'' hy=>?_⟩;obtain⟨e,d,hd,rd⟩:=it.yld k F' H' x H'' G g5 hy;subst e;refine⟨B,F',z++[be d],kf.grow (g1.trans G),(rs.grow (g1.trans G)).snoc rd,_,c5 k d ys hd hl.2 w,λb F3 H3 g3 hb=>?_⟩;have MK:H3 D=be (.lst us):=g3.hh D _ hu;have OH:F3 D=none:=g3.out D hF (by rw[hu];exact λq=>nomatch q);cases b with
    |false=>
      cases nf with
      |true=>exact hb.elim
      |false=>exact⟨items.length - (k+1),by lia,rfl,by lia,F3,ys,us,G.trans g3,MK,OH,ry.mono g3.ff,⟨by lia,λz=>nomatch z⟩,hb⟩
    |true=>
    refine⟨B,F3,z++[be d],(kf.grow (g1.trans G)).grow g3,((rs.grow (g1.trans G)).snoc rd).grow g3,_,(show te _ _ from by cases nf<;>exact hb),λy yv F2 H2 g2 hw rv=>?_⟩;have Qf:H2 D=be (.lst us):=g2.hh D _ MK;have JM:F2 D=none:=g2.out D OH (by rw[MK];exact λq=>nomatch q);have Rm:us.length<=k:=by rw[ry.length];exact hl.1
    refine⟨us, Qf, by   have:(100000:Nat)<sizeLine:=by decide
                        lia,items.length - (k+1),by lia,rfl,by lia,F2,ys++[y],us++[yv],?_,aC,JM,((ry.mono g3.ff).mono g2.ff).append (eL rv),⟨by simp;lia,λz=>by simp[hl.2 z]⟩,hw⟩
    have GG:=(G.trans g3).trans g2;refine⟨GG.ff,λb o e=>?_,λb o e=>?_,GG.out⟩
    . have ne:b≠D:=λq=>by rw[q,JM] at e;cases e
      rw[au ne];exact GG.fh b o e
    . have ne:b≠D:=λq=>by rw[q,hD] at e;cases e
      rw[au ne];exact GG.hh b o e
  . have ek:k=items.length:=by lia
    subst ek;exact .inl ⟨it.stop F' H' G,h2 D ys us F' H' hH hF (g1.trans G) hu ry (out ys hl.2 w)⟩
def yU{F F' H':Hp}{D:KF}{us:List V}(GG:Grow F H F' H')(hu:H' D=be (.lst us))(hF:F' D=m9)(hH:H D=m9):Grow F H (upd F' D (.lst us)) H':=by
 refine⟨GG.ff.trans (aU hF _),λb o e=>?_,GG.hh,λb h1 h3=>?_⟩
 .by_cases hb:b=D
  .subst hb;rw[aC] at e;cases e;exact hu
  .rw[au hb] at e;exact GG.fh b o e
 .have ne:b≠D:=λq=>h3 (q ▸ hH);rw[au ne];exact GG.out b h1 h3
variable {ge iter:RP}{h_:List RP}{x:D'}{px pos:R5}{scope:Sk}{ti te:TD}{tt:TDT}{wi:TI}{J3:TDI}
def gO[Jx]{nf:Bool}{G:SD->(D->Prop)->List D->Prop}(hG:∀ z R items,G z R items->cmpG nf tt te z R items)(hI:ItOk K wi J3){Q:VK}(q:lE K (λz R=>J3 z (G z R)) s H Q):gN wi (lT K tt) (lE K te) s H Q:=by
 obtain⟨B,F,z,kf,rs,R,h1,h2⟩:=q;exact hI kf rs h1 λitems J F1 H1 g1 hg it=>yT kf g1 rs (λD ys us F' H' hH hF GG hu ry hR=>h2 (.lst ys) (.ref D) _ H' (yU GG hu hF hH) hR (rep_lst.mpr ⟨D,us,rfl,aC,ry.mono (aU hF _)⟩)) it (hG _ _ _ hg)
def cmpP.g(h:cmpP te z R items):cmpG true dT1 te z R items:=
 let ⟨hz,W,w0,c5,out⟩:=h
 ⟨hz,W,w0,λk x ys e l w=>c5 k x ys e (l rfl) w,λys l w=>out ys (l rfl) w⟩
def cmpF.g(h:cmpF tt te z R items):cmpG false tt te z R items:=
 let ⟨hz,W,w0,c5,out⟩:=h
 ⟨hz,W,w0,λk x ys e _ w=>c5 k x ys e w,λys _ w=>out ys w⟩
def itL[Jx]:ItOk K (qa K (lE K ti)) (dItL ti):=λ{s H B F z P Q} kf rs h1 h2=>by
 refine⟨B,F,z,kf,rs,_,h1,λd v F1 H1 g1 hd rd=>?_⟩;have key:∀ (items:List D) (p:KF) (vs:List V),SqL K F1 p vs->Reps K F1 items vs->P items->∃ a,V.ref p= .ref a/\(∃ xs,SqL K H1 a xs)/\Q (Itl K a) H1:=λitems p vs hq rr hd=>by
  refine⟨p,rfl,⟨vs,g1.fh.seq hq⟩,h2 items _ F1 H1 g1 hd ⟨λk F' H' G hk=>?_,λk F' H' x H'' G hk hy=>?_,λF' H' G=>?_⟩⟩
  .have n_:k<vs.length:=by rw[rr.length];exact hk
   exact⟨vs,vs[k],G.hh.seq (g1.fh.seq hq),by simp[n_]⟩
  .obtain⟨e,hy⟩:=hy;obtain⟨d,e2,r2⟩:=rr.get' (hy vs (G.hh.seq (g1.fh.seq hq)));exact⟨e,d,e2,r2.mono G.ff⟩
  .exact⟨vs,G.hh.seq (g1.fh.seq hq),by rw[rr.length];exact Fo _⟩
 split at hd
 .obtain⟨p,vs,rfl,hq,rr⟩:=rep_lst.mp rd;exact key _ p vs (SqL.of hq) rr hd
 .obtain⟨p,vs,rfl,hq,rr⟩:=rep_rol.mp rd;exact key _ p vs hq rr hd
 .exact hd.elim
def itR[Jx]:ItOk K (qd (gx (lE K ti) tNil)) (dItR ti):=λ{s H B F z P Q} kf rs h1 h2=>by
 refine⟨B,F,z,kf,rs,_,h1,λd v F1 H1 g1 hd rd=>?_⟩;split at hd
 .rename_i n;obtain⟨⟨b1,b2⟩,hd⟩:=hd;have hl:((Ft n.toNat).map λk=>D.int ((k:Nat):Int)).length=n.toNat:=by simp
  refine⟨n,by rw[rep_int.mp rd],by lia,b2,h2 _ _ F1 H1 g1 hd ⟨λk F' H' G hk=>by rw[hl] at hk;exact hk,λk F' H' x H'' G hk hy=>?_,λF' H' G=>by show n.toNat<=_;rw[hl];exact Fo _⟩⟩;rw[hl] at hk;obtain⟨e,rfl⟩:=hy;exact⟨e,.int (k:Int),by simp[hk],rep_int.mpr (by congr 1;lia)⟩
 .exact hd.elim
def jW[Jx]{p1 p2:R5}(hc:X.calm=true)(S:CompScope X scope x)(hm:X.mg "range"=m9)(hi:WDE X iter ti)(he:∀ cl s₀ H₀ fp,WDE (bS X scope cl x s₀ H₀ fp) ge te)(hg:autoParam (Gl X "range") zA0)
  (hs:autoParam (∀ y,zFS X (.Call (.Name "range" p1) [iter] [] p2) y) zA2) (t6:autoParam (zSE X iter []) zA0) (f_:autoParam (RV [iter] X.env=[(false,R1 iter X.env)]) zA0):WDE X (.ListComp ge [⟨.Name x px,.Call (.Name "range" p1) [iter] [] p2,[],0⟩] scope pos) (jV (dItR ti) te):=⟨have hi:=hi.out;have he:=λcl s₀ H₀ fp=>(he cl s₀ H₀ fp).out;(pe_comp hc S (jv hg hm (bx hi pa_nil t6) f_) (λ_ _ _ _=>rM) he hs).anti λs H Q q=>gO (λ_ _ _=>cmpP.g) itR q⟩
def yV[Jx]{E:Ends}{ix:Nat}(hI:ItOk K wi J3)(q:lS K (dSet ix (jV J3 te)) E s H):tAsg (gN wi (lT K dT1) (lE K te)) (gl ix) E s H:=by
 obtain⟨B,F0,F,z,k,rs,ED,⟨P,h,j⟩,e⟩:=q;exact gO (λ_ _ _=>cmpP.g) hI ⟨B,F,z,k.kf,rs,P,h,λd v F' H' g hd rd=>e.nx _ _ F' H' (k.grow g) (j d hd) ((rs.grow g).set rd)⟩
def yY[Jx](ix:Nat){y:D'}{py v8:R5}(hc:X.calm=true)(S:CompScope X scope x)(hN:X.N.Nodup)(hi:WDE X iter ti)(he:∀ cl s₀ H₀ fp,WDE (bS X scope cl x s₀ H₀ fp) ge te)(MI:autoParam (X.N[ix]?=be y) zA0)(hy:autoParam (Loc X.env.scope y) zA4)
  (hf:autoParam (zFN X y) zA3) (JI:autoParam (Sa (.ListComp ge [⟨.Name x px,iter,[],0⟩] scope pos) (be (.Name y py)) v8.line X.env=pure true) zA0) (hs:autoParam (∀ y,zFS X iter y) zA2):WDS X (.Assign [.Name y py] (.ListComp ge [⟨.Name x px,iter,[],0⟩] scope pos) v8) (dSet ix (jV (dItL ti) te)):=⟨have hi:=hi.out;have he:=λcl s₀ H₀ fp=>(he cl s₀ H₀ fp).out;(yR hc S (gq hi) (λ_ _ _ _=>rM) he hN MI hy hf JI hs).anti λE s H q=>yV itL q⟩
end
def eO(scope fsc:Sk):List (D' × Su):=scope.names.map λ(n,k)=>if(k==NameKind.free && fsc.kind== .function && fsc.names.lookup n==be .cell) then(n,NameKind.cell) else(n,k)
def visB(l:List (D' × Su))(n:D'):Bool:=l.lookup n==be .local||l.lookup n==be .cell||l.lookup n==be .free
def cM(scope fsc:Sk)(N:List D')(x:D'):Bool:=
 scope.kind== .function && scope.names.all (λy=>!(y.2== .cell)) && scope.names.all (λy=>!(y.2== .local)||scope.names.lookup y.1==be .local) && scope.names.lookup x==be .local &&
 scope.names.all (λy=>!(y.2== .free)||fsc.names.lookup y.1==be .cell) && N.all (λn=>decide (n=x)||!visB (eO scope fsc) n||scope.names.any (λy=>decide (y=(n,NameKind.free)))) && !visB (eO scope fsc) "" &&
 scope.names.all (λy=>!(y.2== .free)||(eO scope fsc).lookup y.1==be .cell) && decide (N.map (λn=>if n=x then("":D') else n)++[x]).Nodup
def rO{l:List (D' × Su)}{n:D'}(h:l.lookup n=be .local\/l.lookup n=be .cell\/l.lookup n=be .free):visB l n=true:=by
 unfold visB;rcases h with h|h|h<;>rw[h]<;>rfl
def compScope{scope:Sk}{x:D'}(h:cM scope X.env.scope X.N x=true):CompScope X scope x:=by
 unfold cM at h;simp only[FS] at h;obtain⟨⟨⟨⟨⟨⟨⟨⟨h1,h2⟩,h3⟩,h4⟩,h5⟩,h6⟩,h7⟩,h8⟩,h9⟩:=h;have er:(TQ scope X.env).names=eO scope X.env.scope:=rfl;refine⟨by simpa using h1,λy hy=>?_,λy hy e=>?_,by simpa using h4,λn hn=>?_,λn hn ne v=>?_,λv=>?_,λn hn=>?_,of_decide_eq_true h9⟩
 .have:=Gv.mp h2 y hy;simpa using this
 .have:=Gv.mp h3 y hy;rw[e] at this;simpa using this
 .have:=Gv.mp h5 _ hn;show X.env.scope.names.lookup n=be .cell;simpa using this
 .have:=Gv.mp h6 n hn;have v':visB (eO scope X.env.scope) n=true:=rO v;rw[v'] at this;simp[ne] at this;exact this
 .have v':visB (eO scope X.env.scope) ""=true:=rO v;rw[v'] at h7;cases h7
 .have:=Gv.mp h8 _ hn;rw[er];simpa using this
def putD(f:D')(v:D):List (D' × D)->List (D' × D)
 |[]=>[(f,v)]
 |(g,x)::r=>if g=f then(g,v)::r else(g,x)::putD f v r
def RepF.put{K:Ex}{F:Hp}{f:D'}{d:D}{v:V}(r:Rep K F d v):∀ {fs:List (D' × D)} {ws:List (D' × V)},RepF K F fs ws->RepF K F (putD f d fs) (putF f v ws)
 |[],ws,h=>by
  rw[repf_nil.mp h];exact repf_cons.mpr ⟨v,[],rfl,r,repf_nil.mpr rfl⟩
 |(g,x)::fs,ws,h=>by
  obtain⟨w,JN,rfl,h1,h2⟩:=repf_cons.mp h;unfold putD putF;by_cases e:g=f
  .rw[if_pos e,if_pos e];exact repf_cons.mpr ⟨v,JN,rfl,r,h2⟩
  .rw[if_neg e,if_neg e];exact repf_cons.mpr ⟨w,_,rfl,h1,RepF.put r h2⟩
def RepF.length{K:Ex}{F:Hp}:∀ {fs:List (D' × D)} {ws:List (D' × V)},RepF K F fs ws->ws.length=fs.length
 |[],ws,h=>by rw[repf_nil.mp h];rfl
 |(g,x)::fs,ws,h=>by
  obtain⟨w,JN,rfl,h1,h2⟩:=repf_cons.mp h;rw[Fq,Fq,RepF.length h2]
def ClsA(K:Ex)(x f:D'):Prop:=∃ C,nsIn K Pi x=be (be (.ref C))/\Cls K C/\NoAttr K C f
section
variable {X:Cx}{a b c e:RP}{ta tb tc te:TD}{pos:R5}
def dFld(x f:D')(te:TD):TD:=λz R=>te z λd=>match d with| .obj y fs=>y=x/\∃ d,fs.lookup f=be d/\R d|_=>False
variable{x:D'}
def jX[Jx]{f:D'}(h:ClsA X.K x f)(he:WDE X e te)(hb:autoParam (RZ e f X.env (R1 e X.env)=R1 e X.env) zA0):WDE X (.Attribute e f pos) (dFld x f te):=⟨have he:=he.out;(qt he hb).anti λs H Q q=>by
 obtain⟨C,hn,hc,hf⟩:=h;obtain⟨B,F,z,kf,rs,R,h1,h2⟩:=q;have fh:=kf.fh;refine⟨B,F,z,kf,rs,_,h1,λd u F1 H1 g1 hx rx=>?_⟩;split at hx
 .obtain⟨rfl,d,hl,hR⟩:=hx;obtain⟨a,C',dx,vs,rfl,k8,q,r⟩:=rep_obj.mp rx;rw[hn] at k8;cases k8;obtain⟨v,l,rv⟩:=r.look hl;exact⟨a,C,dx,vs,v,rfl,g1.fh _ _ q,hc,hf,l,h2 d v F1 H1 g1 hR rv⟩
 .exact hx.elim⟩
def rP[Jx]{d:D}{v:V}{u:KB}(hm:X.mg x=be u)(r:RelV v u)(rd:∀ H,Rep X.K H d v)(hg:autoParam (Gl X x) zA0)(hd:autoParam (zND x) zA1):DE X (.Name x pos) (dC d):=de_c (vG hg hm r hd) rd
def eQ[Jx]{i:Int}(h:∃ t,X.mg x=be (.int i t))(hg:autoParam (Gl X x) zA0)(hd:autoParam (zND x) zA1):WDE X (.Name x pos) (dC (.int i)):=⟨by
 obtain⟨t,h⟩:=h;exact rP (v:= .int i) h ⟨t,rfl⟩ (λ_=>rep_int.mpr rfl) hg hd⟩
def gP[Jx]{y:D'}(h:∃ t,X.mg x=be (.str y t))(hg:autoParam (Gl X x) zA0)(hd:autoParam (zND x) zA1):WDE X (.Name x pos) (dC (.str y)):=⟨by
 obtain⟨t,h⟩:=h;exact rP (v:= .str y) h ⟨t,rfl⟩ (λ_=>rep_str.mpr rfl) hg hd⟩
structure ClsI(K:Ex)(mg:Str->Option KB)(x:Str)(C:KF):Prop where
 ns:nsIn K Pi x=be (be (.ref C))
 mg:mg x=be (.ref C)
 cl:Cls K C
 ha:Fw K (.ref C) "__class__"=be (be (.builtin "object.__class__"))
 hn:specialIn K (.builtin "object.__class__") "__get__"=be (be (.builtin "getset_descriptor.__get__"))
 htk:takesIn K (.builtin "object.__class__")=be true
 hm:Gb K C (.type "object")=be true
 self:kitOne K (.ref C) (.ref C)=be true
end
abbrev SiD:=List D->(List (D' × D)->Prop)->Prop
def lSi(K:Ex)(C:KF)(S:SiD):Sp:=λvs H Q _=>∃ a dx us H1 F ds,vs= .ref a::us/\H=upd (upd H1 dx (.own a)) a (.ins C dx [])/\H1 a=m9/\H1 dx=m9/\dx≠a/\Same F H1/\Reps K F ds us/\
 ∃ R:List (D' × D)->Prop,S ds R/\∀ fs ws IN F' H',Grow F H1 F' H'->R fs->H' a=be (.ins C IN ws)->F' a=m9->RepF K F' fs ws->Q .non H'
def CalM(P:P3)(w:RT)(K:Ex)(mg:D'->Option KB)(base:Heap)(n:Nat)(x:D')(ps:List D')(S:SiD):Prop:=
 ∃ C f fd,nsIn K Pi x=be (be (.ref C))/\mg x=be (.ref C)/\Mk K C f/\FnOk P w K mg base (Exc.CX1 P w) n f fd ps (lSi K C S)/\Binds K fd ps []
def yZ(x:D')(S:SiD)(t:TDA):TD:=λz R=>t z λds=>S ds λfs=>R (.obj x fs)
def jY[Jx]{pos:R5}{n m:Nat}{ps:List D'}{S:SiD}{x:D'}{p:R5}{e:RP}{es:List RP}{t:TDA}(M:CalM X.prog X.w X.K X.mg X.base n x ps S)(hr:Room m X.A)(ha:WDA X (e::es) t)(hg:autoParam (Gl X x) zA0)(hn:autoParam (n+1<=m) zA1)(d7:autoParam (zND x) zA1)
  (he:autoParam (zSE X e es) zA0) (c7:autoParam (zPL X pos es) zA0):WDE X (.Call (.Name x p) (e::es) [] pos) (yZ x S t):=⟨by
 have ha:=ha.out;obtain⟨C,f,fd,hns,m5,mk,F,hb⟩:=M;refine(jC mk F (hr.mono hn) hg m5 hb .nil fG ha d7 he c7).anti λs H Q q=>?_;obtain⟨B,F,z,kf,rs,R,h1,h2⟩:=q;have fh:=kf.fh;refine⟨B,F,z,kf,rs,_,h1,λds vs F1 H1 g1 hx rx=>?_⟩;intro a dx ha v9 j3;refine⟨a,dx,vs,H1,F1,ds,by rw[F7],rfl,ha,v9,j3,g1.fh,rx,_,hx,λfs ws IN F' H' g hR f7 i7 rf=>⟨rfl,?_⟩⟩;have s1:Same F' (upd F' a (.ins C IN ws)):=aU i7 _;refine h2 (.obj x fs) (.ref a) (upd F' a (.ins C IN ws)) H' ⟨(g1.ff.trans g.ff).trans s1,λb o q=>?_,g1.hh.trans g.hh,λb q1 q2=>?_⟩ hR (rep_obj.mpr ⟨a,C,IN,ws,rfl,hns,aC,RepF.mono s1 fs ws rf⟩)
 .by_cases hb:b=a
  .subst hb;rw[aC] at q;cases q;exact f7
  .rw[au hb] at q;exact g.fh b o q
 .by_cases hb:b=a
  .subst hb;exact absurd (g1.hh.free ha) q2
  .rw[au hb];exact(g1.trans g).out b q1 q2⟩
abbrev TID:=SD->List (D' × D)->(List (D' × D)->Prop)->Prop
def lI(K:Ex)[J:Jx](x:D')(t:TID):TS:=λE σ H=>∃ C a dx ws F z fs,nsIn K Pi x=be (be (.ref C))/\σ[0]?=be (be (.ref a))/\H a=be (.ins C dx ws)/\J.B a=m9/\F a=m9/\Kept J.B J.F0 F H/\RepS K J.B F H z σ/\RepF K F fs ws/\
 ∃ R:List (D' × D)->Prop,t z fs R/\∀ j5 JN F' H',Kept J.B J.F0 F' H'->R j5->H' a=be (.ins C dx JN)->F' a=m9->RepF K F' j5 JN->E.nx σ H'
abbrev DI(X:Cx)[Jx](x:D')(st:List RO)(t:TID):Prop:=PSs X st (lI X.K x t)
structure WDI(X:Cx)[Jx](x:Str)(st:List RO)(t:TID):Prop where
 out:DI X x st t
section
variable {X:Cx}{x f:D'}{e:RP}{te:TD}{pos c8 p:R5}{rest:List RO}{tr:TID}
def rQ:TID:=λ_ fs R=>R fs
def za(f:D')(te:TD)(tr:TID):TID:=λz fs R=>te z λd=>fs.length<1000/\tr z (putD f d fs) R
def dH[Jx]:WDI X x [] rQ:=⟨pss_nil.anti λE s H q=>by
 obtain⟨C,a,dx,ws,F,z,fs,hn,h0,f7,IP,i7,g,rs,rf,R,hR,k⟩:=q;exact k fs ws F H g hR f7 i7 rf⟩
def RepS.other{K:Ex}{B F H:Hp}{z:SD}{σ:L2.St}{a:KF}{o o':HO}(rs:RepS K B F H z σ)(h:H a=be o)(hl:∀ vs,o≠.lst vs):RepS K B F (upd H a o') z σ:=
 ⟨rs.len,rs.val,λi ds e=>by
  obtain⟨b,vs,q1,q2,q⟩:=rs.own i ds e;have ne:b≠a:=by
   rintro rfl;rw[h] at q2;cases q2;exact hl vs rfl
  exact⟨b,vs,q1,by rw[au ne];exact q2,q⟩,rs.apart⟩
def bH[J:Jx]{ps:R5}{sx:D'}(hA:ClsA X.K x f)(he:WDE X e te)(hr:WDI X x rest tr)(hN:autoParam (X.N[0]?=be sx) zA0)(hv:autoParam (Vis X.env.scope sx) zA5)(hd:autoParam (zND sx) zA1)
  (gt:autoParam (zNC sx) zA1) (hs:autoParam (Sa e (be (.Attribute (.Name sx ps) f c8)) pos.line X.env=pure false) zA0):WDI X x (.Assign [.Attribute (.Name sx ps) f c8] e pos::rest) (za f te tr):=⟨have he:=he.out;have hr:=hr.out;(fC (qu (dz (i:=0) hN hv hd gt) he hs) hr).anti λE s H q=>by
 obtain⟨C,a,dx,ws,F,z,fs,hn,h0,f7,IP,i7,g,rs,rf,R,hR,k⟩:=q;obtain⟨C',k8,hc,hf⟩:=hA;rw[hn] at k8;cases k8;refine⟨_,F,z,g,rs,_,hR,λd v F2 H2 g2 hx rv=>?_⟩;have k2:=g.grow g2;have OI:=g2.hh a _ f7;have JM:F2 a=none:=g2.out a i7 (by rw[f7];exact λz=>nomatch z);refine⟨.ref a,h0,a,C,dx,ws,rfl,OI,hc,hf,by rw[rf.length];exact hx.1,?_⟩;have Qg:Same F2 (upd H2 a (.ins C dx (putF f v ws))):=λb o q=>by
  have ne:b≠a:=by rintro rfl;rw[JM] at q;cases q
  rw[au ne];exact g2.fh b o q
 have B_:Same J.B (upd H2 a (.ins C dx (putF f v ws))):=λb o q=>by
  have ne:b≠a:=by rintro rfl;rw[IP] at q;cases q
  rw[au ne];exact k2.bh b o q
 exact⟨C,a,dx,putF f v ws,F2,z,putD f d fs,hn,h0,aC,IP,JM,⟨B_,Qg,k2.f0,k2.out,k2.eb,k2.jf,k2.jo⟩,(rs.grow g2).other OI (λ_ z=>nomatch z),RepF.put rv (RepF.mono g2.ff fs ws rf),R,hx.2,k⟩⟩
end
section
variable {P:P3}{w:RT}{K:Ex}{mg:D'->Option KB}{base:Heap}
def rR{K:Ex}{B F H:Hp}{z:SD}{σ:L2.St}{v:V}(rs:RepS K B F H z σ):RepS K B F H (m9::z) (be v::σ):=
  ⟨by rw[Fq,Fq,rs.len],λi d e no=>by
    cases i with
    |zero=>cases e
    |succ i=>exact rs.val i d e no,λi ds e=>by
    cases i with
    |zero=>cases e
    |succ i=>exact rs.own i ds e,λi j di dj a e1 e2 e3 e4=>by
    cases i with
    |zero=>cases e1
    |succ i=>
      cases j with
      |zero=>cases e2
      |succ j=>rw[rs.apart i j di dj a e1 e2 e3 e4]⟩
def Cls.okI{x qual:D'}{st:RO}{f C:KF}{fd:RY}{N:List D'}{p0:D'}{ps:List D'}{k:Nat}{S:SiD}(T:Fun K "__init__" qual st f fd)(hb:Binds K fd (p0::ps) [])(F:FnScope (p0::N) (p0::ps) (ag st))(len:∀ ds R,S ds R->ds.length=ps.length)
  (hns:nsIn K Pi x=be (be (.ref C))) (m5:mg x=be (.ref C)) (mk:Mk K C f)
  (a9:∀ (cdv:KB) (A:RU) (outer:List SE) (s:KM) (H:Hp) (E:XK) (J:Jx),Room k (A.deeper (R7 qual (ag st) s.heap.objs.size f cdv))->
   ∃ t,DI (cxOf (Exc.CX1 P w) P w K mg base (p0::N) qual (ag st) f cdv A outer s H E).nox x (aK st) t/\∀ ds R,S ds R->t (m9::startD N ds) [] R):CalM P w K mg base (k+1) x (p0::ps) S:=by
 refine⟨C,f,fd,hns,m5,mk,Fun.okC T F (λvs H Q E h=>?_) (λcdv A outer s H vs Q E hr h=>?_),hb⟩
 .obtain⟨a,dx,us,H1,F,ds,rfl,_,_,_,_,_,rs,R,h,_⟩:=h;rw[Fq,Fq,rs.length,len ds R h]
 .obtain⟨a,dx,us,H1,F1,ds,rfl,rfl,ha,v9,j3,fh,rs,R,h,q⟩:=h
  letI:Jx:=⟨H1,F1,λ_ _ _=>False⟩
  obtain⟨t,ht,hq⟩:=a9 cdv A outer s _ E inferInstance hr;have Fa:F1 a=none:=fh.free ha;have hl:L2.start (p0::N) (.ref a::us)=be (.ref a)::L2.start N us:=by
   unfold L2.start;rw[FB,Fq,Fq,H4];rfl
  have s1:Same H1 (upd (upd H1 dx (.own a)) a (.ins C dx [])):=(aU v9 _).trans (aU (by rw[au (Ne.symm j3)];exact ha) _);refine⟨_,ht.nox,C,a,dx,[],F1,m9::startD N ds,[],hns,by rw[hl];rfl,aC,ha,Fa,⟨s1,fh.trans s1,Same.refl F1,λ_ h _=>h,rfl,Same.refl F1,λ_ h _=>h⟩,?_,repf_nil.mpr rfl,R,hq ds R h,λj5 JN F' H' g hR f7 i7 rf=>q j5 JN dx F' H' ⟨g.f0,g.fh,g.bh,g.out⟩ hR f7 i7 rf⟩;rw[hl];exact rR (eg rs)
end
section
variable {X:Cx}{a b c e:RP}{ta tb tc te:TD}{pos:R5}
def rS(t u:TD):TDI:=λz R=>t z λx=>u z λy=>match x,y with| .int i,.int j=>(-(2 ^ 62)<=i/\i<2 ^ 62/\-(2 ^ 62)<=j/\j<2 ^ 62)/\R ((Ft (j - i).toNat).map λk=>D.int (i+((k:Nat):Int)))|_,_=>False
def RepS.change[Jx]{K:Ex}{B F0 F H:Hp}{z:SD}{s:L2.St}{i:Nat}{ds ML:List D}{a:KF}{q9:List V}(rs:RepS K B F H z s)(k:Kept B F0 F H)(ez:z[i]?=be (be (.own ds)))(q1:s[i]?=be (be (.ref a)))(hB:B a=m9)(hF:F a=m9)(r:Reps K F ML q9):
  Kept B F0 F (upd H a (.lst q9))/\RepS K B F (upd H a (.lst q9)) (z.set i (be (.own ML))) s:=by
 have same:∀ {G:Hp},G a=m9->Same G H->Same G (upd H a (.lst q9)):=λ{G} ga gs b o eb=>by
  have ne:b≠a:=λz=>by rw[z,ga] at eb;cases eb
  rw[au ne];exact gs b o eb
 have r2:=rs.setOwn (i:=i) (a:=a) (vs:=q9) (ds:=ML) hB hF r (λj dj hj e1 e2=>hj (rs.apart j i dj ds a e1 ez e2 q1));have es:s.set i (be (.ref a))=s:=by
  apply G6;intro n;by_cases hn:i=n
  .subst hn;rw[Ga (FG.mp q1).1,q1]
  .rw[FM hn]
 rw[es] at r2;exact⟨⟨same hB k.bh,same hF k.fh,k.f0,k.out,k.eb,k.jf,k.jo⟩,r2⟩
def Reps.put{K:Ex}{F:Hp}{d:D}{v:V}(r:Rep K F d v):∀ {ds:List D} {vs:List V} (j:Nat),Reps K F ds vs->Reps K F (ds.set j d) (vs.set j v)
 |[],vs,j,h=>by rw[reps_nil.mp h];exact reps_nil.mpr rfl
 |x::ds,vs,0,h=>by
  obtain⟨u,us,rfl,h1,h2⟩:=reps_cons.mp h;exact reps_cons.mpr ⟨v,us,rfl,r,h2⟩
 |x::ds,vs,j+1,h=>by
  obtain⟨u,us,rfl,h1,h2⟩:=reps_cons.mp h;exact reps_cons.mpr ⟨u,_,rfl,h1,Reps.put r j h2⟩
def rT(i:Nat)(te ti:TD):TSD:=λE z=>match z[i]? with
 |some (be (.own ds))=>te z λd=>ti z λy=>match y with| .int k=>∃ j,ixN ds.length k=be j/\E.nx (z.set i (be (.own (ds.set j d))))|_=>False
 |_=>False
def zb[Jx](i:Nat){x:D'}{p1 p2:R5}(he:WDE X e te)(hb:WDE X b tb)(hN:autoParam (X.N[i]?=be x) zA0)(hv:autoParam (Vis X.env.scope x) zA5)(hd:autoParam (zND x) zA1)
  (gt:autoParam (zNC x) zA1)
  (ha:∀ v,Sx (.Subscript (.Name x p1) b p2) X.env v=(do
   let ov <- Sz [v] (R1 (.Name x p1) X.env)
   let iv <- Sz [v,ov] (R1 b X.env)
   SM p2
   Sz [v,ov,iv] (setItem ov iv v)
   release [v,ov,iv] []):=by intro _;rfl)
  (hs:autoParam (Sn [.Subscript (.Name x p1) b p2] e pos.line X.env=pure false) zA0) (hw:autoParam (So [.Subscript (.Name x p1) b p2] e X.env=pure none) zA0)
  (h1:autoParam ((RW [.Subscript (.Name x p1) b p2] X.env).map (·.2)=[Sx (.Subscript (.Name x p1) b p2) X.env]) zA0):WDS X (.Assign [.Subscript (.Name x p1) b p2] e pos) (rT i te tb):=⟨have he:=he.out;have hb:=hb.out;(ju he (vU (dz hN hv hd gt) hb xn ha) hs hw h1).anti λE s H q=>by
 obtain⟨B,F0,F,z,k,rs,ED,h,e⟩:=q;unfold rT at h;split at h
 .rename_i ds ez;refine⟨B,F,z,k.kf,rs,_,h,λd v F1 H1 g1 hx rv=>?_⟩;obtain⟨a,vs,q1,q2,q3,q4,q5⟩:=(rs.grow g1).own i ds ez;refine⟨.ref a,q1,B,F1,z,k.kf.grow g1,rs.grow g1,_,hx,λy w F2 H2 g2 hy ry=>?_⟩;split at hy
  .obtain⟨j,ej,hn⟩:=hy;have r2:=(rs.grow g1).grow g2;have k2:=(k.grow g1).grow g2;have JM:F2 a=none:=g2.out a q4 (by rw[q2];exact λz=>nomatch z);refine⟨a,vs,_,j,rfl,rep_int.mp ry,g2.hh _ _ q2,by rw[q5.length];exact ej,?_⟩;obtain⟨k3,r3⟩:=r2.change k2 ez q1 q3 JM (Reps.put (rv.mono g2.ff) j (q5.mono g2.ff));exact e.nx _ s F2 _ k3 hn r3
  .exact hy.elim
 .exact h.elim⟩
end
end My
namespace My
open Exc
abbrev XD:=D'->List (D' × D)->Prop
def ErrD(K:Ex)(F:Hp)(x:D')(fs:List (D' × D))(C:KF)(od:Option KF):Prop:=
 nsIn K Pi x=be (be (.ref C))/\∃ vs,RepF K F fs vs/\((od=m9/\vs=[])\/∃ b,od=be b/\F b=be (.xd vs))
abbrev SpX:=List D->(D->Prop)->XD->Prop
def lSpX(K:Ex)(S:SpX):Sp:=λvs H Q E=>∃ F ds,Same F H/\Reps K F ds vs/\∃ (R:D->Prop) (RX:XD),S ds R RX/\(∀ d v F' H',Grow F H F' H'->R d->Rep K F' d v->Q v H')/\
 ∀ x fs C od F' H',Grow F H F' H'->RX x fs->ErrD K F' x fs C od->E (.ref C) od H'
def Exd(X:Cx)(H:Hp)(s:KM)(e C:KF)(od:Option KF):Prop:=
  H e=m9/\X.s₀.heap.get? e=m9/\(∀ p∈X.pn,p.1≠e)/\
  ((∃ sl vs,s.heap.get? e=be ⟨.ref C,od,.fields vs,sl⟩/\vs[1]?=be .none)\/
    ∃ T,ExAt s.heap e C od T .none/\X.s₀.heap.get? T=m9/\H T=m9/\∀ p∈X.pn,p.1≠T)
def XOk(X:Cx)[J:Jx]:Prop:=∀ (σ:L2.St) (z:SD) (F H:Hp) (s:KM) (e C:KF) (od:Option KF) (x:D') (fs:List (D' × D)),Inv X [] σ H s->Kept J.B J.F0 F H->RepS X.K J.B F H z σ->J.RX z x fs->ErrD X.K F x fs C od->Exd X H s e C od->X.xe (.ref e) s
variable{X:Cx}{pins:List (KF × R')}{σ:L2.St}{H:Hp}{s:KM}
def Inv.nopins(I:Inv X pins σ H s):Inv X [] σ H s:=I.pins_of λp hp=>by cases hp
section
variable {X:Cx}{k:Nat}{f:KF}{fd:RY}{ps:List D'}{sp:Sp}{E:XK}
def gQ{pins:List (KF × R')}{σ:L2.St}{H:Hp}{s:KM}{Q:VK}{us:List KB}{vs:List V}(F:FnOk X.prog X.w X.K X.mg X.base (CX1 X.prog X.w) k f fd ps sp)(hr:Room k X.A)(hb:Binds X.K fd ps [])
  (hx:∀ e s',CX1 X.prog X.w X.stack H s E e s'->X.xe e s') (I:Inv X pins σ H s) (r:Vals vs us) (h:sp vs H Q E):RS (RR X.prog X.w) X.A (call (.ref f) us) (EP X pins σ Q) X.xe s:=by
 have hl:us.length=ps.length:=by rw[<- L2.Vals.length r];exact F.len _ _ _ _ h
 have i6:=hb s us I.kIn (by rw[F7];exact hl);rw[F7] at i6;refine SL (SA (F.run X.A X.stack s H ⟨us,[]⟩ us vs Q E hr I.env0 i6 r h) λr s' hq=>?_);cases r with
 |error e=>exact hx e s' hq
 |ok fl=>
  cases fl with
  |ret u=>exact I.after hq
  |next=>exact False.elim hq
  |brk=>exact False.elim hq
  |cont=>exact False.elim hq
end
variable{b:KF}
def cE(I:Inv X pins σ H s)(hex:X.ex=[])(q:s.heap.get? b=m9):X.s₀.heap.get? b=none:=by
 cases z:X.s₀.heap.get? b with
 |none=>rfl
 |some o=>
  obtain⟨o',z'⟩:=I.base.there b o z (by rw[hex];simp);rw[q] at z';cases z'
def pn_free(I:Inv X pins σ H s)(q:s.heap.get? b=m9):∀ p∈X.pn,p.1≠b:=λp hp z=>by
 have:=(I.pin p (Ge _ hp)).1;rw[z,q] at this;cases this
def XOk.out[J:Jx](hx:XOk X)(hex:X.ex=[]){z:SD}{s':KM}{ev:KB}(I:Inv X pins σ H s)
  (h:CX1 X.prog X.w X.stack H s (λCv od H'=>∃ x fs C F',Cv= .ref C/\Kept J.B J.F0 F' H'/\RepS X.K J.B F' H' z σ/\J.RX z x fs/\ErrD X.K F' x fs C od) ev s'):X.xe ev s':=by
 obtain⟨e,C,od,T,H',rfl,D_,hb,un,hok,MN,ne,nT,He,HT,x,fs,C',F',hC,kk,rr,hR,er⟩:=h;cases hC;have I':Inv X pins σ H' s':=I.call' D_ un hok hb (λb z=>absurd z (by simp));exact hx σ z F' H' s' e C od x fs (Inv.nopins I') kk rr hR er ⟨He,cE I hex ne,pn_free I ne,.inr ⟨T,MN,cE I hex nT,HT,pn_free I nT⟩⟩
abbrev CalX(P:P3)(w:RT)(K:Ex)(mg:D'->Option KB)(base:Heap)(n:Nat)(x:D')(ps:List D')(S:SpX):Prop:=Cal P w K mg base n x ps (lSpX K S)
def zc[J:Jx](S:SpX)(t:TDA):TD:=λz R=>t z λds=>S ds R (J.RX z)
variable{ps:List D'}{x:D'}
def rV[J:Jx]{pos:R5}{n m:Nat}{S:SpX}{p:R5}{e:RP}{es:List RP}{t:TDA}(C:CalX X.prog X.w X.K X.mg X.base n x ps S)(hx:XOk X)(hr:Room m X.A)(ha:WDA X (e::es) t)(hex:autoParam (X.ex=[]) zA0)(hg:autoParam (Gl X x) zA0)(hn:autoParam (n<=m) zA1)(d7:autoParam (zND x) zA1)
  (he:autoParam (zSE X e es) zA0) (c7:autoParam (zPL X pos es) zA0):WDE X (.Call (.Name x p) (e::es) [] pos) (zc S t):=⟨by
 have ha:=ha.out;obtain⟨f,fd,F,hb,hk,hm⟩:=C;intro pins s σ H Q I h;obtain⟨B,Fr,z,kf,rs,R,h1,h2⟩:=h;obtain rfl:B=J.B:=kf.eb;refine R4 (cA I hg hm ?_ d7);refine callWith_K (h₀:=X.base) I.ok.mod.kin hk (thn (ha pos pins s σ H (λvs H1=>lSpX X.K S vs H1 Q (λCv od H'=>∃ x fs C F',Cv= .ref C/\Kept J.B J.F0 F' H'/\RepS X.K J.B F' H' z σ/\J.RX z x fs/\ErrD X.K F' x fs C od)) I ⟨_,Fr,z,kf,rs,_,h1,λds vs F1 H1 g1 hx rx=>?_⟩) λus s1 ⟨vs,H1,I1,r,q⟩=>⟨I1.kIn,?_⟩) he c7
 .exact⟨F1,ds,g1.fh,rx,R,J.RX z,hx,λd v F' H' g=>h2 d v F' H' (g1.trans g),λx fs C od F' H' g hR er=>⟨x,fs,C,F',rfl,(kf.grow g1).grow g,(rs.grow g1).grow g,hR,er⟩⟩
 .exact gQ F (hr.mono hn) hb (λe s' hq=>hx.out hex I1 hq) I1 r q⟩
section
variable {P:P3}{w:RT}{K:Ex}{mg:D'->Option KB}{base:Heap}
variable{N:List D'}
def rW{qual:D'}{scope:Sk}{f:KF}{cd:KB}{A:RU}{outer:List SE}{s:KM}{H:Hp}{E':XK}{pins:List (KF × R')}{σ:L2.St}{H':Hp}{s':KM}{e C T:KF}{od:Option KF}
  (I':Inv (cxOf (CX1 P w) P w K mg base N qual scope f cd A outer s H E') pins σ H' s') (hx:ExAt s'.heap e C od T .none) (ne:s.heap.get? e=m9) (nT:s.heap.get? T=m9) (He:H' e=m9) (HT:H' T=m9) (hE:E' (.ref C) od H'):
  (cxOf (CX1 P w) P w K mg base N qual scope f cd A outer s H E').xe (.ref e) s':=by
 show RS _ _ (Tj _ _) _ _ _;unfold Tj;refine Os (qV I'.ok.frames I'.stack rfl hx λh2 T2 u6 v6 s9=>flight_none (s:={s' with heap:=h2}) u6 λh3 KH z_=>?_);have G':s'.heap.get? T2=none:=Heap.get?_none_of_le v6;have f1:∀ b,s'.heap.get? b=m9->s.heap.get? b=none:=λb q=>cE I' rfl q;have hok:HOk P w H' s'.heap:=I'.hok;have Jh:H' T2=none:=hok.fresh v6;have Qh:∀ b∈[T,e],s.heap.get? b=none:=λb hb=>by
  rcases Fp.mp hb with z|z
  .rw[z];exact nT
  .rw[Fl.mp z];exact ne
 have u2:Un (frs outer) [] H H' s.heap h2:=gC (show Un (frs outer) [] H H' s.heap s'.heap from I'.base) s9 Qh λb hb=>qW hb;have u3:Un (frs outer) [] H H' s.heap h3:=gC u2 z_ (λb hb=>by rw[Fl.mp hb];exact f1 T2 G') λb hb=>by cases hb
 have k2:=fF hok s9 (λb hb=>I'.stkFree b hb) (λb hb=>by
  rcases Fp.mp hb with z|z
  .rw[z];exact HT
  .rw[Fl.mp z];exact He)
 have k3:=fF k2 z_ (λb hb=>by cases hb) (λb hb=>by rw[Fl.mp hb];exact Jh);exact⟨e,C,od,T2,H',rfl,I'.os,I'.bare,u3,k3,KH,ne,f1 T2 G',He,Jh,hE⟩
variable{ps:List D'}
def _root_.L2.Fun.okX{x:D'}{st:RO}{f:KF}{fd:RY}{k:Nat}{S:SpX}(T:Fun K x x st f fd)(F:FnScope N ps (ag st))(len:∀ ds R RX,S ds R RX->ds.length=ps.length)
  (a9:∀ (cdv:KB) (A:RU) (outer:List SE) (s:KM) (H:Hp) (E:XK) (J:Jx),Room k (A.deeper (R7 x (ag st) s.heap.objs.size f cdv))->XOk (cxOf (CX1 P w) P w K mg base N x (ag st) f cdv A outer s H E)->
   ∃ t,DSs (cxOf (CX1 P w) P w K mg base N x (ag st) f cdv A outer s H E) (aK st) t/\∀ ds R RX,(∀ z,J.RX z=RX)->S ds R RX->t {nx:=λ_=>R .non,rt:=R} (startD N ds)):FnOk P w K mg base (CX1 P w) (k+1) f fd ps (lSpX K S):=by
 refine Fun.okC T F (λvs H Q E h=>?_) (λcdv A outer s H vs Q E hr h=>?_)
 .obtain⟨F,ds,fh,rs,R,RX,h,_⟩:=h;rw[rs.length];exact len ds R RX h
 .obtain⟨F,ds,fh,rs,R,RX,h,q,qx⟩:=h
  letI:Jx:=⟨H,F,λ_=>RX⟩
  have hx:XOk (cxOf (CX1 P w) P w K mg base N x (ag st) f cdv A outer s H E):=by
   intro σ z F' H' s' e C od y fs I kk rr hR er ⟨He,ne,_,hx⟩;have hE:E (.ref C) od H':=qx y fs C od F' H' ⟨kk.f0,kk.fh,kk.bh,kk.out⟩ hR er;rcases hx with⟨sl,vs,h1,h2⟩|⟨T,h1,h2,h3,_⟩
   .exact qX I h1 h2 He ne hE
   .exact rW I h1 ne h2 He h3 hE
  obtain⟨t,ht,hq⟩:=a9 cdv A outer s H E inferInstance hr hx;refine⟨_,ht,H,F,F,startD N ds,⟨Same.refl H,fh,Same.refl F,λ_ h _=>h,rfl,Same.refl F,λ_ h _=>h⟩,eg rs,_,hq ds R RX (λ_=>rfl) h,⟨λz' s' F' H' k hn _=>q _ _ F' H' ⟨k.f0,k.fh,k.bh,k.out⟩ hn (rep_non.mpr rfl),λd v F' H' k hd rd=>q d v F' H' ⟨k.f0,k.fh,k.bh,k.out⟩ hd rd,λ_ _ _ _ _ h _=>h.elim,λ_ _ _ _ _ h _=>h.elim⟩⟩
def Tx.okX{x:D'}{st:RO}{k:Nat}{S:SpX}(T:Tx K mg x st ps)(F:FnScope N ps (ag st))(len:∀ ds R RX,S ds R RX->ds.length=ps.length)
  (a9:∀ (f:KF) (cdv:KB) (A:RU) (outer:List SE) (s:KM) (H:Hp) (E:XK) (J:Jx),Room k (A.deeper (R7 x (ag st) s.heap.objs.size f cdv))->XOk (cxOf (CX1 P w) P w K mg base N x (ag st) f cdv A outer s H E)->
   ∃ t,DSs (cxOf (CX1 P w) P w K mg base N x (ag st) f cdv A outer s H E) (aK st) t/\∀ ds R RX,(∀ z,J.RX z=RX)->S ds R RX->t {nx:=λ_=>R .non,rt:=R} (startD N ds)):CalX P w K mg base (k+1) x ps S:=by
 obtain⟨f,fd,T,hb,hm⟩:=T;exact⟨f,fd,T.okX F len λcdv A outer s H E J hr hx=>a9 f cdv A outer s H E J hr hx,hb,T.kp,hm⟩
end
variable{P:P3}{w:RT}{h:Heap}
def ObjOk.there{a:KF}{o:HO}(x:ObjOk P w H h a o):∃ u,h.get? a=be u:=by
 cases o with
 |lst xs=>obtain⟨_,_,_,_,e⟩:=x;exact⟨_,e⟩
 |tup xs=>obtain⟨_,_,_,o,e,_⟩:=x;exact⟨_,e⟩
 |dK a8=>obtain⟨_,_,_,_,o,_,_,e,_⟩:=x;exact⟨_,e⟩
 |dT a8=>obtain⟨_,_,_,_,o,_,_,e,_⟩:=x;exact⟨_,e⟩
 |set S n=>obtain⟨o,_,_,_,e,_⟩:=x;exact⟨_,e⟩
 |ins C dx fs=>obtain⟨_,_,_,e,_⟩:=x;exact⟨_,e⟩
 |own y=>exact x
 |xd fs=>obtain⟨_,⟨_,_,_,e,_⟩,_⟩:=x;exact⟨_,e⟩
 |rng lo hi=>obtain⟨_,_,_,e⟩:=x;exact⟨_,e⟩
 |frz ob u=>obtain⟨e,_⟩:=x;exact⟨_,e⟩
 |tbl ps=>exact⟨_,(show h.get? a=be _ from x)⟩
 |met f y=>exact⟨_,(show h.get? a=be _ from x)⟩
 |ext φ=>obtain⟨_,e,_⟩:=x;exact e
def fN{a:KF}(x:HOk P w H h)(e:h.get? a=m9):H a=none:=by
 cases q:H a with
 |none=>rfl
 |some o=>
  obtain⟨u,hu⟩:=ObjOk.there (x a o q);rw[e] at hu;cases hu
def del(H:Hp)(a:KF):Hp:=λb=>if b=a then m9 else H b
def fO{a:KF}:del H a a=none:=by unfold del;rw[if_pos rfl]
def ck{a:KF}(h:b≠a):del H a b=H b:=by unfold del;rw[if_neg h]
section
variable {X:Cx}{pins:List (KF × R')}{σ:L2.St}{H:Hp}{s:KM}{e:KF}
variable{φ:Heap->Prop}
def Inv.drop(I:Inv X pins σ H s)(h:H e=be (.ext φ))(ne:X.s₀.heap.get? e=m9):Inv X pins σ (del H e) s:=by
 have nx:∀ b o,H b=be o->(∀ φ,o≠.ext φ)->b≠e:=λb o q n z=>by rw[z,h] at q;cases q;exact n φ rfl
 refine⟨I.ok,I.os,I.bare,⟨I.base.keep,I.base.slot,λb o q n hx=>?_,I.base.there,λb xs q=>?_,λb o u q=>?_,λb ps q=>?_⟩,I.loc,I.cell,?_,λx c q=>?_,λp hp=>?_,λa o q=>?_,I.len⟩
 .have:b≠e:=λz=>by rw[z,ne] at q;cases q
  rw[ck this];exact I.base.free b o q n hx
 .have:=I.base.tups b xs q;rw[ck (nx b _ this λφ z=>nomatch z)];exact this
 .have:=I.base.frzs b o u q;rw[ck (nx b _ this λφ z=>nomatch z)];exact this
 .obtain⟨m,this⟩:=I.base.tbls b ps q;exact⟨m,by rw[ck (nx b _ this λφ z=>nomatch z)];exact this⟩
 .by_cases z:X.env.locals=e
  .rw[z];exact fO
  .rw[ck z];exact I.free
 .by_cases z:c=e
  .rw[z];exact fO
  .rw[ck z];exact I.freeC x c q
 .obtain⟨h1,h2,h3⟩:=I.pin p hp;refine⟨h1,?_,h3⟩;by_cases z:p.1=e
  .rw[z];exact fO
  .rw[ck z];exact h2
 .by_cases z:a=e
  .rw[z,fO] at q;cases q
  .rw[ck z] at q;exact(I.hok a o q).stay (λb u _ r=>r) (λb r=>by rw[ck (nx b _ r λφ z=>nomatch z)];exact r) λb xs r=>by rw[ck (nx b _ r λφ z=>nomatch z)];exact r
def Inv.adopt(I:Inv X pins σ H s)(He:H e=m9)(ok:ObjOk X.prog X.w H s.heap e (.ext φ))(ne:X.s₀.heap.get? e=m9)(hl:e≠X.env.locals)(hc:∀ x c,X.env.cells.lookup x=be c->c≠e)(hp:∀ p∈X.pn++pins,p.1≠e):Inv X pins σ (upd H e (.ext φ)) s:=by
 refine⟨I.ok,I.os,I.bare,⟨I.base.keep,I.base.slot,λb o q n hx=>?_,I.base.there,λb xs q=>?_,λb o u q=>?_,λb ps q=>?_⟩,I.loc,I.cell,?_,λx c q=>?_,λp J4=>?_,λa o q=>?_,I.len⟩
 .have:b≠e:=λz=>by rw[z,ne] at q;cases q
  rw[au this];exact I.base.free b o q n hx
 .have:=I.base.tups b xs q;rw[au (bQ this He)];exact this
 .have:=I.base.frzs b o u q;rw[au (bQ this He)];exact this
 .obtain⟨m,this⟩:=I.base.tbls b ps q;exact⟨m,by rw[au (bQ this He)];exact this⟩
 .rw[au (Ne.symm hl)];exact I.free
 .rw[au (hc x c q)];exact I.freeC x c q
 .obtain⟨h1,h2,h3⟩:=I.pin p J4;refine⟨h1,?_,h3⟩;rw[au (hp p J4)];exact h2
 .by_cases z:a=e
  .rw[z,aC] at q;cases q;rw[z];exact ok
  .rw[au z] at q;exact(I.hok a o q).stay (λb u _ r=>r) (λb r=>by rw[au (bQ r He)];exact r) λb xs r=>by rw[au (bQ r He)];exact r
end
structure ErrK(K:Ex)(mg:Str->Option KB)(x:Str)(C N:KF)(bm:List KB):Prop where
 ns:nsIn K Pi x=be (be (.ref C))
 mg:mg x=be (.ref C)
 kp:keepIn K (.ref C)=true
 obj:∃ nm q bs sn sub ab col dd k0 k1 k2 k3 k5,K.lookup C=be (Sb nm q C N bs bm true sn sub ab col dd k0 k1 k2 k3 k5 "ValueError.__new__")
 tail:tailIn K veLine bm=true
structure ErrN(K:Ex)(N:KF):Prop where
 ok:nsOkIn K N=true
 no:nsIn K N "__init__"=be m9
def jZ{K:Ex}:∀ {l:List KB},tailIn K veLine l=true->aT l=true
 |[],e=>by simp[tailIn,veLine] at e
 |v::r,e=>by
  unfold tailIn at e;rcases Bool.or_eq_true_iff.mp e with q|q
  .rw[beq_iff_eq.mp q];decide+kernel
  .split at q
   .split at q
    .simp only[FS,beq_iff_eq] at q;unfold aT;exact jZ q.2
    .cases q
   .cases q
variable{K:Ex}{mg:D'->Option KB}{C N:KF}{bm:List KB}
def ErrK.base(k:ErrK K mg x C N bm):bm.contains (.type "BaseException")=true:=gB (by decide+kernel) (jZ k.tail)
section
variable {X:Cx}[J:Jx]{x:D'}{C N:KF}{bm:List KB}{e:RP}{es:List RP}{t:TDA}{p cpos pos:R5}
def zd(x:D')(t:TDA):TSD:=λ_ z=>t z λds=>ds.length<=1000/\J.RX z x []
def rX(h:∃ C N bm,ErrK X.K X.mg x C N bm/\ErrN X.K N)(hx:XOk X)(hc:X.calm=true)(ha:WDA X (e::es) t)(hex:autoParam (X.ex=[]) zA0)(hg:autoParam (Gl X x) zA0)(d7:autoParam (zND x) zA1)
  (he:autoParam (zSE X e es) zA0) (c7:autoParam (zPL X cpos es) zA0):WDS X (.Raise (be (.Call (.Name x p) (e::es) [] cpos)) m9 pos) (zd x t):=⟨by
 have ha:=ha.out;obtain⟨C,N,bm,k,kn⟩:=h;intro pins s σ H D I h;obtain⟨B,F0,F,z,kf,rs,ED,h,ee⟩:=h;obtain rfl:B=J.B:=kf.eb;obtain⟨nm,q,bs,sn,sub,ab,col,dd,k0,k1,k2,k3,k5,lk⟩:=k.obj;refine jH (nm:=nm) (q:=q) (C:=C) (N:=N) (bs:=bs) (bm:=bm) (hdct:=true) (sn:=sn) (sub:=sub) (ab:=ab) (col:=col) (dd:=dd) (k0:=k0) (k1:=k1) (k2:=k2) (k3:=k3) (k5:=k5) (newId:="ValueError.__new__") k.base (I.ok.hd hc) ?_;refine R4 (cA I hg k.mg ?_ d7);refine callWith_K (h₀:=X.base) I.ok.mod.kin k.kp (thn (ha cpos pins s σ H (λvs H1=>∃ F1,vs.length<=1000/\Grow F H F1 H1/\J.RX z x []) I ⟨_,F,z,kf.kf,rs,_,h,λds vs F1 H1 g1 hx rx=>⟨F1,by rw[rx.length];exact hx.1,g1,hx.2⟩⟩) λus s1 hh=>⟨hh.elim λ_ h=>h.elim λ_ h=>h.1.kIn,?_⟩) he c7;obtain⟨vs,H1,I1,r,F1,hl,g1,hR⟩:=hh;have hC:=I1.kIn _ _ lk;obtain⟨hp,gg,dr,tk,os⟩:=s1;refine Tz PySem.F.excBase_ValueError (tail_of_in I1.kIn k.tail) hC (.of_isNs (isNs_of_in I1.kIn kn.ok)) (nsMap_none_of_in I1.kIn kn.ok kn.no) (λh' ea hm=>?_) (by show us.length<=_;rw[<- L2.Vals.length r];exact sz hl);obtain⟨ta,h1,h2,h3⟩:=hm.there;have I2:Inv X pins σ H1 ⟨h',gg,dr,tk,os⟩:=I1.kept (t':=tk) hm.keeps;refine⟨ea,ta,m9,#[],rfl,hm.keeps _ _ hC,h1,?_⟩;exact hx σ z F1 H1 _ ea C m9 x [] (Inv.nopins I2) (kf.kf.grow g1) (rs.grow g1) hR ⟨k.ns,[],repf_nil.mpr rfl,.inl ⟨rfl,rfl⟩⟩ ⟨fN I1.hok hm.new,cE I1 hex hm.new,pn_free I1 hm.new,.inl ⟨#[],_,h1,rfl⟩⟩⟩
end
def XN(e C:KF)(od:Option KF):HO:= .ext λh=>∃ t sl,h.get? e=be ⟨.ref C,od,.fields #[.ref t,.none,.none,.none,.bool false,.none],sl⟩
variable{od:Option KF}{sl:Array (Option KB)}
def XN.ok{e t:KF}(q:h.get? e=be ⟨.ref C,od,.fields #[.ref t,.none,.none,.none,.bool false,.none],sl⟩):ObjOk P w H h e (XN e C od):=
 ⟨⟨t,sl,q⟩,⟨_,q⟩,λh1 h2 ⟨t,sl,q⟩ k=>⟨t,sl,k _ q⟩⟩
def XN.get{e:KF}(x:HOk P w H h)(q:H e=be (XN e C od)):∃ t sl,h.get? e=be ⟨.ref C,od,.fields #[.ref t,.none,.none,.none,.bool false,.none],sl⟩:=(x e _ q).1
def ErrF(K:Ex)(F:Hp)(fs:List (D' × D))(od:Option KF):Prop:=∃ vs,RepF K F fs vs/\((od=m9/\vs=[])\/∃ b,od=be b/\F b=be (.xd vs))
def lEi(K:Ex)(C:KF)(S:SiD):Sp:=λvs H Q _=>∃ e us H1 F ds,vs= .ref e::us/\H=upd H1 e (XN e C m9)/\H1 e=m9/\Same F H1/\Reps K F ds us/\
 ∃ R:List (D' × D)->Prop,S ds R/\∀ fs od F' H',Grow F H1 F' H'->R fs->H' e=be (XN e C od)->F' e=m9->ErrF K F' fs od->Q .non H'
def CalE(P:P3)(w:RT)(K:Ex)(mg:D'->Option KB)(base:Heap)(n:Nat)(x:D')(ps:List D')(S:SiD):Prop:=
 ∃ C N bm f fd,ErrK K mg x C N bm/\Fw K (.ref C) "__init__"=be (be (.ref f))/\isFn K (.ref f)=true/\FnOk P w K mg base (CX1 P w) n f fd ps (lEi K C S)/\Binds K fd ps []
section
variable {X:Cx}{pins:List (KF × R')}{σ:L2.St}{H:Hp}{s:KM}{e:KF}
def Inv.newx{C:KF}{h':Heap}{us:List KB}(I:Inv X pins σ H s)(hex:X.ex=[])(hm:Heap.MadeExcOf s.heap h' e (.ref C) us):Inv X pins σ (upd H e (XN e C m9)) {s with heap:=h'}:=by
 obtain⟨ta,h1,h2,h3⟩:=hm.there;have I2:Inv X pins σ H {s with heap:=h'}:=I.kept (t':=s.toks) hm.keeps;refine Inv.adopt I2 (fN I.hok hm.new) (XN.ok h1) (cE I hex hm.new) (λz=>?_) (λx c q z=>?_) λp hp z=>?_
 .obtain⟨m,⟨o,_,_,ho,_⟩,_⟩:=I.loc;rw[<- z,hm.new] at ho;cases ho
 .obtain⟨v,o,ho,_⟩:=I.cell x c q;rw[z,hm.new] at ho;cases ho
 .have:=(I.pin p hp).1;rw[z,hm.new] at this;cases this
end
structure BaseK(K:Ex)(mg:Str->Option KB)(y:Str)(M:KF):Prop where
 mg:mg y=be (.ref M)
 rd:readsIn K M (.type "type")=true
 fc:findCls K (.ref M) (.type "type") "__init__"=be (.val (.builtin "ValueError.__init__"))
 sp:specialIn K (.ref M) "__getattribute__"=be (be (.builtin "type.__getattribute__"))
structure ErrA(K:Ex)(x:Str)(C:KF)(cd:ClassData):Prop where
 ns:nsIn K Pi x=be (be (.ref C))
 cl:Hu K C=be cd
 mro:aT cd.mro=true
 hd:cd.hasDict=true
 sa:Fw K (.ref C) "__setattr__"=be (be (.builtin "object.__setattr__"))
def ErrK.a(k:ErrK K mg x C N bm)(sa:Fw K (.ref C) "__setattr__"=be (be (.builtin "object.__setattr__"))):∃ cd,ErrA K x C cd:=by
 obtain⟨nm,q,bs,sn,sub,ab,col,dd,k0,k1,k2,k3,k5,lk⟩:=k.obj;exact⟨_,k.ns,by unfold Hu;rw[lk],by
  show aT (.ref C::bm)=true;unfold aT;exact jZ k.tail,rfl,sa⟩
def lX(K:Ex)[J:Jx](x:D')(t:TID):TS:=λE σ H=>∃ C e od ws F z fs,nsIn K Pi x=be (be (.ref C))/\σ[0]?=be (be (.ref e))/\H e=be (XN e C od)/\J.B e=m9/\F e=m9/\Kept J.B J.F0 F H/\RepS K J.B F H z σ/\RepF K F fs ws/\
 ((od=m9/\ws=[])\/∃ b,od=be b/\H b=be (.xd ws)/\J.B b=m9/\F b=m9/\b≠e/\ws≠[])/\
 ∃ R:List (D' × D)->Prop,t z fs R/\∀ j5 LK F' H',Kept J.B J.F0 F' H'->R j5->H' e=be (XN e C LK)->F' e=m9->ErrF K F' j5 LK->E.nx σ H'
abbrev DX(X:Cx)[Jx](x:D')(st:List RO)(t:TID):Prop:=PSs X st (lX X.K x t)
structure WDX(X:Cx)[Jx](x:Str)(st:List RO)(t:TID):Prop where
 out:DX X x st t
def ze{a:KF}{o:HO}(h:H a=be o):upd H a o=H:=by
 funext b;unfold upd;by_cases q:b=a
 .rw[if_pos q,q,h]
 .rw[if_neg q]
section
variable {X:Cx}[J:Jx]{x f:D'}{e:RP}{te:TD}{ta:TDA}{pos c8 p:R5}{rest:List RO}{tr:TID}
def rY:WDX X x [] rQ:=⟨pss_nil.anti λE s H q=>by
 obtain⟨C,a,od,ws,F,z,fs,hn,h0,f7,hB,i7,k,rs,rf,hd,R,hR,kk⟩:=q;rcases hd with⟨rfl,rfl⟩|⟨b,rfl,hb,LL,LM,ne,_⟩
 .exact kk fs m9 F H k hR f7 i7 ⟨[],rf,.inl ⟨rfl,rfl⟩⟩
 .have s1:Same F (upd F b (.xd ws)):=aU LM _;refine kk fs (be b) (upd F b (.xd ws)) H ⟨k.bh,λc o q=>?_,k.f0.trans s1,λc h1 h2=>?_,k.eb,k.jf,k.jo⟩ hR f7 (by rw[au (Ne.symm ne)];exact i7) ⟨ws,RepF.mono s1 fs ws rf,.inr ⟨b,rfl,aC⟩⟩
  .by_cases hc:c=b
   .subst hc;rw[aC] at q;cases q;exact hb
   .rw[au hc] at q;exact k.fh c o q
  .have:c≠b:=λz=>h2 (z ▸ LL);rw[au this];exact k.out c h1 h2⟩
def zf(ta:TDA)(tr:TID):TID:=λz fs R=>ta z λds=>ds.length<=1000/\tr z fs R
def rZ{y sx:D'}{ps py apos cpos:R5}{es:List RP}{pl:Tq Bool}(hb:∃ M,BaseK X.K X.mg y M)(hA:∃ C cd,ErrA X.K x C cd)(ha:WDA X es ta)(hr:WDX X x rest tr)(hg:autoParam (Gl X y) zA0)(hN:autoParam (X.N[0]?=be sx) zA0)(hv:autoParam (Vis X.env.scope sx) zA5)(hd:autoParam (zND sx) zA1)
  (gt:autoParam (zNC sx) zA1) (Qi:autoParam (zND y) zA1)
  (he:autoParam (RV (.Name sx ps::es) X.env=(false,R1 (.Name sx ps) X.env)::RV es X.env) zA0) (c7:autoParam (zPL X cpos es) zA0)
  (ht:R1 (.Call (.Attribute (.Name y py) "__init__" apos) (.Name sx ps::es) [] cpos) X.env=(do
   let ov <- R1 (.Name y py) X.env
   SM apos.atName
   let (f,first) <- Sz [ov] (S4 ov "__init__" pl)
   callWith cpos f first (Sw cpos (RV (.Name sx ps::es) X.env)) (SV cpos (Ss [] X.env))):=by rfl)
  (hs:autoParam (Sa (.Call (.Attribute (.Name y py) "__init__" apos) (.Name sx ps::es) [] cpos) m9 pos.line X.env=pure false) zA0):WDX X x (.Expr (.Call (.Attribute (.Name y py) "__init__" apos) (.Name sx ps::es) [] cpos) pos::rest) (zf ta tr):=⟨by
 have ha:=ha.out;have hr:=hr.out;obtain⟨M,bk⟩:=hb;obtain⟨C,cd,er⟩:=hA;have step:PS X (.Expr (.Call (.Attribute (.Name y py) "__init__" apos) (.Name sx ps::es) [] cpos) pos) (λE σ H=>∃ C' e od,nsIn X.K Pi x=be (be (.ref C'))/\σ[0]?=be (be (.ref e))/\
   lA X.K ta σ H (λvs H1=>H1 e=be (XN e C' od)/\vs.length<=1000/\E.nx σ H1)):=by
  intro pins s σ H D I h;obtain⟨C',ea,od,hn,h0,h⟩:=h;rw[er.ns] at hn;cases hn;refine wpAny_Expr_any (methodCall_KW (pl:=pl) (cA I hg bk.mg ?_ Qi) ht) I.quiet hs;refine method_cls I.kIn bk.sp (cls_value I.kIn bk.rd bk.fc (by decide+kernel) ?_);have I0:Inv X pins σ H {s with toks:=s.toks+1}:=I.tok _;obtain⟨B,F,z,kf,rs,R,h1,h2⟩:=h;refine PyProof.Rows.callWith_builtin1 (thn (bx (dz (i:=0) hN hv hd gt) ha he cpos pins _ σ H (λvs H1=>∃ us,vs= .ref ea::us/\H1 ea=be (XN ea C od)/\us.length<=1000/\D.nx σ H1) I0 ⟨.ref ea,h0,⟨B,F,z,kf,rs,R,h1,λds vs F' H' g hx rx=>⟨vs,rfl,h2 ds vs F' H' g hx rx⟩⟩⟩) λus s1 hh=>?_) he c7;obtain⟨vs,H1,I1,r,Rn,ev,v_,hl,KU⟩:=hh;subst ev;cases r with
  |cons r1 r2=>
   rename_i u0 Ro;obtain rfl:u0=Value.ref ea:=r1;obtain⟨t0,sl,o9⟩:=XN.get I1.hok v_;refine xM (K:=X.K) (C:=C) (cd:=cd) I1.kIn o9 rfl rfl er.cl er.mro (by rw[<- L2.Vals.length r2];exact sz hl) λh' g1 g2=>?_;refine⟨σ,H1,?_,KU⟩;have w:=I1.write (x:=ea) (e:=ea) (o:=XN ea C od) (h':=h') (t':=s1.toks) (by rw[v_];exact True.intro) (.inl rfl) (λb u hb q=>g2 b u hb q) ⟨_,g1⟩ (XN.ok g1);rw[ze v_] at w;exact w
 refine(fC step hr).anti λE s H q=>?_;obtain⟨C',a,od,ws,F,z,fs,hn,h0,f7,hB,i7,k,rs,rf,e8,R,hR,kk⟩:=q;refine⟨C',a,od,hn,h0,_,F,z,k,rs,_,hR,λds vs F1 H1 g hx rx=>⟨g.hh a _ f7,by rw[rx.length];exact hx.1,?_⟩⟩;refine⟨C',a,od,ws,F1,z,fs,hn,h0,g.hh a _ f7,hB,g.out a i7 (by rw[f7];exact λz=>nomatch z),k.grow g,rs.grow g,RepF.mono g.ff fs ws rf,?_,R,hx.2,kk⟩;rcases e8 with e8|⟨b,h1,h2,h3,h4,h5⟩
 .exact .inl e8
 .exact .inr ⟨b,h1,g.hh b _ h2,h3,g.out b h4 (by rw[h2];exact λz=>nomatch z),h5⟩⟩
def zg(f:D')(te:TD)(tr:TID):TID:=λz fs R=>fs=[]/\te z λd=>tr z [(f,d)] R
def se{sx:D'}{ps:R5}(hA:∃ C cd,ErrA X.K x C cd)(hf:∀ C,nsIn X.K Pi x=be (be (.ref C))->Fw X.K (.ref C) f=be m9)(he:WDE X e te)(hr:WDX X x rest tr)(hN:autoParam (X.N[0]?=be sx) zA0)(hv:autoParam (Vis X.env.scope sx) zA5)(hd:autoParam (zND sx) zA1)
  (gt:autoParam (zNC sx) zA1) (hs:autoParam (Sa e (be (.Attribute (.Name sx ps) f c8)) pos.line X.env=pure false) zA0):WDX X x (.Assign [.Attribute (.Name sx ps) f c8] e pos::rest) (zg f te tr):=⟨by
 have he:=he.out;have hr:=hr.out;obtain⟨C,cd,er⟩:=hA;have KW:=hf C er.ns;have step:PS X (.Assign [.Attribute (.Name sx ps) f c8] e pos) (λE σ H=>∃ e,σ[0]?=be (be (.ref e))/\
   lE X.K te σ H (λv H1=>H1 e=be (XN e C m9)/\∀ b,H1 b=m9->b≠e->E.nx σ (upd (upd H1 b (.xd [(f,v)])) e (XN e C (be b))))):=by
  intro pins s σ H D I h;obtain⟨ea,h0,h⟩:=h;refine S3 (thn (he pins s σ H _ I h) λu s1 ⟨y,H1,I1,ry,v_,KU⟩=>thn (dz (i:=0) hN hv hd gt pins s1 σ H1 (λv H'=>v= .ref ea/\H'=H1) I1 ⟨.ref ea,h0,rfl,rfl⟩) λov s2 hh=>?_) hs;obtain⟨v0,H2,I2,r0,e1,e2⟩:=hh;subst e1 e2;obtain rfl:ov=Value.ref ea:=r0;obtain⟨t0,sl,o9⟩:=XN.get I2.hok v_;refine xL (K:=X.K) (C:=C) (cd:=cd) I2.kIn o9 rfl rfl rfl er.cl er.mro er.hd er.sa KW λh' g1 g2 g3 tk=>?_;have hfr:H2 s2.heap.objs.size=none:=I2.hok.fresh (Fo _);have j3:s2.heap.objs.size≠ea:=Gq (Heap.lt_size o9);have MP:∀ b o,s2.heap.get? b=be o->b≠s2.heap.objs.size:=λb o q=>Fy (Heap.lt_size q);have MQ:∀ b,H2 b=m9->b≠ea:=λb q z=>by rw[z,v_] at q;cases q
  refine⟨σ,_,?_,KU _ hfr j3⟩;have KY:∀ b o,H2 b=be o->(∀ φ,o≠.ext φ)->upd (upd H2 s2.heap.objs.size (.xd [(f,y)])) ea (XN ea C (be s2.heap.objs.size)) b=be o:=λb o q n=>by
   have n1:b≠ea:=λz=>by rw[z,v_] at q;cases q;exact n _ rfl
   rw[au n1,au (bQ q hfr)];exact q
  refine I2.un (h':=h') (t':=tk) ⟨λb o q n _ _=>g3 b o (MQ b n) q,λb o q n _ _=>⟨o.slots,g3 b o (MQ b n) q⟩,λb o q n _=>?_,λb o q _=>?_,λb xs q=>KY b _ q (λφ z=>nomatch z),λb o u q=>KY b _ q (λφ z=>nomatch z),λb ps q=>⟨#[],by rw[KY b _ q (λφ z=>nomatch z)];simp⟩⟩ λa o q=>?_
  .rw[au (MQ b n),au (MP b o q)];exact n
  .by_cases hb:b=ea
   .rw[hb];exact⟨_,g1⟩
   .exact⟨o,g3 b o hb q⟩
  .by_cases ha:a=ea
   .subst ha;rw[aC] at q;cases q;exact XN.ok g1
   .rw[au ha] at q;by_cases hb:a=s2.heap.objs.size
    .subst hb;rw[aC] at q;cases q;refine⟨_,g2,λg=>?_⟩;rw[FI];by_cases hg:g=f
     .subst hg;simp;exact ry
     .have:(g==f)=false:=by simpa using hg
      rw[this,if_neg hg];exact True.intro
    .rw[au hb] at q;refine(I2.hok a o q).stay (λb u i6 r=>?_) (λb r=>KY b _ r (λφ z=>nomatch z)) λb xs r=>KY b _ r (λφ z=>nomatch z);refine g3 b u (λz=>?_) r;rcases i6 with e1|e1
     .exact ha (e1 ▸ z)
     .rw[z,v_] at e1;cases e1
 refine(fC step hr).anti λE s H q=>?_;obtain⟨C',a,od,ws,F,z,fs,hn,h0,f7,hB,i7,k,rs,rf,e8,R,⟨rfl,hR⟩,kk⟩:=q;rw[er.ns] at hn;cases hn;have Qj:ws=[]:=repf_nil.mp rf;subst Qj;refine⟨a,h0,_,F,z,k,rs,_,hR,λd v F1 H1 g hx rv=>?_⟩;have KZ:F1 a=none:=g.out a i7 (by rw[f7];exact λz=>nomatch z);have k1:=k.grow g;rcases e8 with⟨rfl,_⟩|⟨b,rfl,h1,h2,h3,h4⟩
 .refine⟨g.hh a _ f7,λb hb j3=>?_⟩;have LL:J.B b=none:=k1.bh.free hb;have LM:F1 b=none:=k1.fh.free hb;have same:∀ {G:Hp},G a=m9->G b=m9->Same G H1->Same G (upd (upd H1 b (.xd [(f,v)])) a (XN a C (be b))):=λ{G} ga gb gs c o q=>by
   have n1:c≠a:=λz=>by rw[z,ga] at q;cases q
   have n2:c≠b:=λz=>by rw[z,gb] at q;cases q
   rw[au n1,au n2];exact gs c o q
  have u9:=rs.grow g;refine⟨C,a,be b,[(f,v)],F1,z,[(f,d)],er.ns,h0,aC,hB,KZ,⟨same hB LL k1.bh,same KZ LM k1.fh,k1.f0,k1.out,k1.eb,k1.jf,k1.jo⟩,?_,repf_cons.mpr ⟨v,[],rfl,rv,repf_nil.mpr rfl⟩,.inr ⟨b,rfl,by rw[au j3];exact aC,LL,LM,j3,λz=>nomatch z⟩,R,hx,kk⟩;refine⟨u9.len,u9.val,λi ds e'=>?_,u9.apart⟩;obtain⟨c,vs,q1,q2,q⟩:=u9.own i ds e';have n1:c≠a:=λz=>by rw[z,g.hh a _ f7] at q2;cases q2
  have n2:c≠b:=λz=>by rw[z,hb] at q2;cases q2
  exact⟨c,vs,q1,by rw[au n1,au n2];exact q2,q⟩
 .exact absurd rfl h4.2⟩
end
section
variable {P:P3}{w:RT}{K:Ex}{mg:D'->Option KB}{base:Heap}
def Cls.okE{x qual:D'}{st:RO}{f C N0:KF}{bm:List KB}{fd:RY}{N:List D'}{p0:D'}{ps:List D'}{k:Nat}{S:SiD}(T:Fun K "__init__" qual st f fd)(hb:Binds K fd (p0::ps) [])(F:FnScope (p0::N) (p0::ps) (ag st))(len:∀ ds R,S ds R->ds.length=ps.length)
  (ek:ErrK K mg x C N0 bm) (hi:Fw K (.ref C) "__init__"=be (be (.ref f))) (hf:isFn K (.ref f)=true)
  (a9:∀ (cdv:KB) (A:RU) (outer:List SE) (s:KM) (H:Hp) (E:XK) (J:Jx),Room k (A.deeper (R7 qual (ag st) s.heap.objs.size f cdv))->
   ∃ t,DX (cxOf (CX1 P w) P w K mg base (p0::N) qual (ag st) f cdv A outer s H E).nox x (aK st) t/\∀ ds R,S ds R->t (m9::startD N ds) [] R):CalE P w K mg base (k+1) x (p0::ps) S:=by
 refine⟨C,N0,bm,f,fd,ek,hi,hf,Fun.okC T F (λvs H Q E h=>?_) (λcdv A outer s H vs Q E hr h=>?_),hb⟩
 .obtain⟨a,us,H1,F,ds,rfl,_,_,_,rs,R,h,_⟩:=h;rw[Fq,Fq,rs.length,len ds R h]
 .obtain⟨a,us,H1,F1,ds,rfl,rfl,ha,fh,rs,R,h,q⟩:=h
  letI:Jx:=⟨H1,F1,λ_ _ _=>False⟩
  obtain⟨t,ht,hq⟩:=a9 cdv A outer s _ E inferInstance hr;have Fa:F1 a=none:=fh.free ha;have hl:L2.start (p0::N) (.ref a::us)=be (.ref a)::L2.start N us:=by
   unfold L2.start;rw[FB,Fq,Fq,H4];rfl
  have s1:Same H1 (upd H1 a (XN a C m9)):=aU ha _;refine⟨_,ht.nox,C,a,m9,[],F1,m9::startD N ds,[],ek.ns,by rw[hl];rfl,aC,ha,Fa,⟨s1,fh.trans s1,Same.refl F1,λ_ h _=>h,rfl,Same.refl F1,λ_ h _=>h⟩,?_,repf_nil.mpr rfl,.inl ⟨rfl,rfl⟩,R,hq ds R h,λj5 LK F' H' g hR f7 i7 er=>q j5 LK F' H' ⟨g.f0,g.fh,g.bh,g.out⟩ hR f7 i7 er⟩;rw[hl];exact rR (eg rs)
end
section
variable {M:TV}{A:RU}{E:KB->KM->Prop}{h:Heap}{g:Array Tw}{d:Drawn}{t:Nat}{os:OsState}
variable {nm q:D'}{C N:KF}{bs bm:List KB}{hdct:Bool}{sn:List D'}{sub:List KB}{ab:Bool}{col:Option Bool}{dd:Option KF}{k0 k1 k2 k3 k5:Option KB}{newId:String}
variable {OJ q':D'}{C' N':KF}{OK K0:List KB}{K1:Bool}{OL:List D'}{K2:List KB}{OM:Bool}{K3:Option Bool}{LN:Option KF}{ON OO OP OQ OR:Option KB}{JO:String}
def zh{e:KF}{oe:R'}{b:Bool}{Q:Bool->KM->Prop}(hC:h.get? C=be (Sb nm q C N bs bm hdct sn sub ab col dd k0 k1 k2 k3 k5 newId))(hD:h.get? C'=be (Sb OJ q' C' N' OK K0 K1 OL K2 OM K3 LN ON OO OP OQ OR JO))
  (he:h.get? e=be oe) (JA:oe.cls= .ref C) (b9:K0.contains (.type "BaseException")=true) (hb:(Value.ref C::bm).contains (.ref C')=b) (hq:Q b ⟨h,g,d,t,os⟩):RS M A (excMatches (.ref e) (.ref C')) Q E ⟨h,g,d,t,os⟩:=by
 have Mr:(Value.ref C'::K0).contains (.type "BaseException")=true:=by rw[Hs,b9,G4]
 have f:=tc_notTuple;unfold excMatches
 repeat(first|(with_reducible refine R8 he ?_;rw[JA])|with_reducible refine R8 hD ?_|(with_reducible refine Sy hD ?_;rw[Mr])|(with_reducible refine Sy hC ?_;rw[hb])|wp_step)
 cases b with
 |true=>wp_walk;exact hq
 |false=>wp_walk;exact hq
end
abbrev _root_.L2.Cx.held(X:Cx)(e:KF):Cx:={X with A:=X.A.mark (be (.ref e)),calm:=false,xe:=λ_ _=>False}
section
variable {X:Cx}{pins:List (KF × R')}{σ:L2.St}{H:Hp}{s:KM}{e:KF}
def Cx.Ok.held(ok:X.Ok):(X.held e).Ok:=
 ⟨ok.mod,ok.kind,ok.glob,ok.blt,ok.above,ok.inj,ok.has,ok.cab,(λz=>nomatch z),ok.frames,ok.stk,ok.exf,ok.bs,ok.bsz,ok.noex,ok.exfs,ok.funs,ok.frf⟩
def Inv.held(I:Inv X pins σ H s):Inv (X.held e) pins σ H s:=⟨Cx.Ok.held I.ok,I.os,I.bare,I.base,I.loc,I.cell,I.free,I.freeC,I.pin,I.hok,I.len⟩
def Inv.unheld(ok:X.Ok)(I:Inv (X.held e) pins σ H s):Inv X pins σ H s:=⟨ok,I.os,I.bare,I.base,I.loc,I.cell,I.free,I.freeC,I.pin,I.hok,I.len⟩
def SP.unheld{D:Ends}{f:Flow}{s':KM}(ok:X.Ok)(h:SP (X.held e) pins D f s'):SP X pins D f s':=by
 cases f with
 |next=>obtain⟨σ',H',I,q⟩:=h;exact⟨σ',H',Inv.unheld ok I,q⟩
 |brk=>obtain⟨σ',H',I,q⟩:=h;exact⟨σ',H',Inv.unheld ok I,q⟩
 |cont=>obtain⟨σ',H',I,q⟩:=h;exact⟨σ',H',Inv.unheld ok I,q⟩
 |ret u=>obtain⟨v,σ',H',I,r,q⟩:=h;exact⟨v,σ',H',Inv.unheld ok I,r,q⟩
def Inv.stay{h':Heap}{j5 ex:List KF}(I:Inv X pins σ H s)(st:Stay j5 ex s.heap h')(LI:∀ b∈j5,b∈frs X.stack)(hH:∀ b∈ex,H b=m9)(h0:∀ b∈ex,X.s₀.heap.get? b=m9)(hL:∀ b∈ex,b≠X.env.locals)(hc:∀ b∈ex,∀ x c,X.env.cells.lookup x=be c->c≠b)
  (hp:∀ b∈ex,∀ p∈X.pn++pins,p.1≠b):Inv X pins σ H {s with heap:=h'}:=by
 have hok:HOk X.prog X.w H h':=fF I.hok st (λb hb=>I.stkFree b (LI b hb)) hH;have sub:∀ b∈j5,b=X.env.locals\/b∈X.fs:=λb hb=>Fp.mp (I.stkSub b (LI b hb));have nL:∀ b o,X.s₀.heap.get? b=be o->b≠X.env.locals:=λb o q=>Fy (FQ (Heap.lt_size q) I.ok.above);have OS:∀ b o,X.s₀.heap.get? b=be o->b ∉ ex:=λb o q z=>by rw[h0 b z] at q;cases q
 have l8:∀ x c v,X.env.cells.lookup x=be c->s.heap.IsCell c v->h'.IsCell c v:=λx c v e ⟨o,ho,hd⟩=>by
  obtain⟨sl,z⟩:=st.slot c o ho (λz=>hc c z x c e rfl);exact⟨_,z,hd⟩
 refine⟨I.ok,I.os,I.bare,⟨λb o e n hb hx=>?_,λb o e n hb hx=>?_,I.base.free,λb o e hx=>?_,I.base.tups,I.base.frzs,I.base.tbls⟩,?_,λy c e=>?_,I.free,I.freeC,λp J4=>?_,hok,I.len⟩
 .exact st.keep b o (I.base.keep b o e n hb hx) (OS b o e) (λz=>(sub b z).elim (nL b o e) hb)
 .obtain⟨sl,e1⟩:=I.base.slot b o e n hb hx;obtain⟨r_,e2⟩:=st.slot b _ e1 (OS b o e);exact⟨r_,e2⟩
 .obtain⟨o',e1⟩:=I.base.there b o e hx;exact st.there b o' e1
 .obtain⟨m,⟨o,es,ep,ho,r⟩,hl⟩:=I.loc;obtain⟨sl,z⟩:=st.slot _ o ho (λz=>hL _ z rfl);refine⟨m,⟨_,es,ep,z,r⟩,λj y v' e1 e2 e3=>?_⟩;obtain⟨u',r',q⟩:=hl j y v' e1 e2 e3;refine⟨u',r',?_⟩;rcases q with q|⟨k,c,e,z⟩
  .exact .inl q
  .exact .inr ⟨k,c,e,l8 y c _ e z⟩
 .obtain⟨w',z⟩:=I.cell y c e;exact⟨w',l8 y c _ e z⟩
 .obtain⟨e,n,ne,nf,d⟩:=I.pin p J4;exact⟨st.keep _ _ e (λz=>hp _ z p J4 rfl) (λz=>(sub _ z).elim ne nf),n,ne,nf,d⟩
end
def subE(x c:D'):Bool:=x==c||c=="MotifError"
structure ErrsK(K:Ex)(mg:Str->Option KB)(es:List Str):Prop where
 cls:∀ x∈es,∃ C N bm,ErrK K mg x C N bm
 sub:∀ x∈es,∀ y∈es,∀ C C',nsIn K Pi x=be (be (.ref C))->nsIn K Pi y=be (be (.ref C'))->Gb K C (.ref C')=be (subE x y)
def ErrsK.has{es:List D'}(k:ErrsK K mg es){y:D'}{C' N':KF}{K0:List KB}(hx:x∈es)(hy:y∈es)(a:ErrK K mg x C N bm)(b:ErrK K mg y C' N' K0):(Value.ref C::bm).contains (.ref C')=subE x y:=by
 have h:=k.sub x hx y hy C C' a.ns b.ns;obtain⟨nm,q,bs,sn,sub,ab,col,dd,k0,k1,k2,k3,k5,lk⟩:=a.obj;unfold Gb Hu at h;rw[lk] at h;simp only[Ht,List.isEmpty_cons,Bool.false_eq_true,if_false,Option.some.injEq] at h;exact h
structure Held(X:Cx)(pins:List (KF × R'))(H:Hp)(s:KM)(e C:KF)(od:Option KF)(T:KF):Prop where
 ex:ExAt s.heap e C od T .none
 He:H e=m9
 HT:H T=m9
 e0:X.s₀.heap.get? e=m9
 T0:X.s₀.heap.get? T=m9
 eP:∀ p∈X.pn++pins,p.1≠e
 TP:∀ p∈X.pn++pins,p.1≠T
section
variable {X:Cx}{pins:List (KF × R')}{σ:L2.St}{H:Hp}{s:KM}
variable{vs:Array KB}
def ke{b:KF}{o:R'}(I:Inv X pins σ H s)(h:s.heap.get? b=be o)(hd:o.data= .fields vs):b≠X.env.locals:=λz=>by
 obtain⟨m,⟨o',es,ep,ho,e8,_⟩,_⟩:=I.loc;rw[<- z,h] at ho;cases ho;rw[hd] at e8;cases e8
def fld_cell{b:KF}{o:R'}(I:Inv X pins σ H s)(h:s.heap.get? b=be o)(hd:o.data= .fields vs):∀ x c,X.env.cells.lookup x=be c->c≠b:=λx c q z=>by
 obtain⟨v,o',ho,e8⟩:=I.cell x c q;rw[z,h] at ho;cases ho;rw[hd] at e8;cases e8
variable{od:Option KF}
def Held.flight{e C T:KF}{h':Heap}(I:Inv X pins σ H s)(k:Held X pins H s e C od T)(hx:ExAt h' e C od T .none)(st:Stay [] [T] s.heap h'):Inv X pins σ H {s with heap:=h'}/\Held X pins H {s with heap:=h'} e C od T:=by
 obtain⟨sl,vs,oT,ts,he,h1,v5,hT,k_,h3⟩:=k.ex;refine⟨Inv.stay I st (λb hb=>by cases hb) (λb hb=>?_) (λb hb=>?_) (λb hb=>?_) (λb hb=>?_) (λb hb=>?_),⟨hx,k.He,k.HT,k.e0,k.T0,k.eP,k.TP⟩⟩<;>rw[Fl.mp hb]
 .exact k.HT
 .exact k.T0
 .exact ke I hT k_
 .exact fld_cell I hT k_
 .exact k.TP
def XO.ok{P:P3}{w:RT}{h:Heap}{e C:KF}{sl:Array (Option KB)}(q:h.get? e=be ⟨.ref C,od,.fields vs,sl⟩):ObjOk P w H h e (XO e C od):=
 ⟨⟨vs,sl,q⟩,⟨_,q⟩,λh1 h2 ⟨vs,sl,q⟩ k=>⟨vs,sl,k _ q⟩⟩
end
abbrev TH:=D'->List (D' × D)->TSD
def DH(X:Cx)[J:Jx](hs:List Sl)(th:TH):Prop:=
 ∀ (pins:List (KF × R')) (s:KM) (σ:L2.St) (H:Hp) (D:Ends) (e C:KF) (od:Option KF) (T:KF) (x:D') (fs:List (D' × My.D)) (B F0 F:Hp) (z:SD) (ED:EndsD),Inv X pins σ H s->Held X pins H s e C od T->Kept B F0 F H->RepS X.K B F H z σ->ErrD X.K F x fs C od->
  th x fs ED z->EndsOk X.K B F0 ED D->RS (RR X.prog X.w) X.A (handleBy (.ref e) X.env hs) (SP X pins D) X.xe s
structure WDH(X:Cx)[Jx](hs:List Sl)(th:TH):Prop where
 out:DH X hs th
section
variable {X:Cx}[J:Jx]{es:List D'}{c:D'}{b₀:RO}{Ji:List RO}{pos pc:R5}{rest:List Sl}{t:TSD}{r:TH}
def zi:TH:=λ_ _ _ _=>False
def zj(es:List D')(c:D')(t:TSD)(r:TH):TH:=λx fs E z=>(x∈es/\c∈es)/\if subE x c=true then t E z else r x fs E z
def zk:WDH X [] zi:=⟨λ_ _ _ _ _ _ _ _ _ _ _ _ _ _ _ _ _ _ _ _ _ h _=>h.elim⟩
def zl(hE:ErrsK X.K X.mg es)(hs:∀ e,WDSs (X.held e) (b₀::Ji) t)(hr:WDH X rest r)(hg:autoParam (Gl X c) zA0)(d7:autoParam (zND c) zA1):WDH X (.ExceptHandler (be (.Name c pc)) m9 (b₀::Ji) pos::rest) (zj es c t r):=⟨by
 have hs:=λe=>(hs e).out;have hr:=hr.out;intro pins s σ H D e C od T x fs B F0 F z ED I hd k rs er ht ee;obtain⟨⟨OT,OU⟩,ht⟩:=ht;obtain⟨Cc,Nc,Rp,kc⟩:=hE.cls c OU;obtain⟨OV,Nx,Rq,kx⟩:=hE.cls x OT;obtain rfl:OV=C:=by have h1:=kx.ns;rw[er.1] at h1;cases h1;rfl
 have hb:=hE.has OT OU kx kc;obtain⟨nm,q,bs,sn,sub,ab,col,dd,k0,k1,k2,k3,k5,lk⟩:=kx.obj;obtain⟨OJ,q',OK,OL,K2,OM,K3,LN,ON,OO,OP,OQ,OR,Qk⟩:=kc.obj;refine wpAny_handleBy_cons (codeAny_handlers_test (cA (X:=X.held e) (Inv.held I) hg kc.mg ?_ d7)) (by intro q;cases q);obtain⟨sl,vs,oT,ts,he,h1,v5,hT,k_,h3⟩:=id hd.ex;refine zh (g:=s.gens) (d:=s.drawn) (t:=s.toks) (os:=s.os) (I.kIn _ _ lk) (I.kIn _ _ Qk) he rfl kc.base hb ?_;cases K4:subE x c with
 |true=>
  rw[K4,if_pos rfl] at ht;refine codeAny_handlers_suite (flight_none hd.ex λh' gV st'=>?_);obtain⟨I',_⟩:=Held.flight I hd gV st';exact R3 (hs e pins _ σ H D (Inv.held I') ⟨B,F0,F,z,k,rs,ED,ht,ee⟩) (λf s1 q=>SP.unheld I.ok q) λ_ _ z=>False.elim z
 |false=>
  rw[K4,if_neg Fz] at ht;exact hr pins s σ H D e OV od T x fs B F0 F z ED I hd k rs er ht ee⟩
end
abbrev _root_.L2.Cx.tried(X:Cx)(pn:List (KF × R'))(xe:KB->KM->Prop):Cx:={X with pn:=pn,xe:=xe}
section
variable {X:Cx}{pn pins:List (KF × R')}{xe:KB->KM->Prop}{σ:L2.St}{H:Hp}{s:KM}
def Cx.Ok.tried(ok:X.Ok):(X.tried pn xe).Ok:=⟨ok.mod,ok.kind,ok.glob,ok.blt,ok.above,ok.inj,ok.has,ok.cab,ok.hd,ok.frames,ok.stk,ok.exf,ok.bs,ok.bsz,ok.noex,ok.exfs,ok.funs,ok.frf⟩
def Inv.tried(I:Inv X pins σ H s):Inv (X.tried (X.pn++pins) xe) [] σ H s:=⟨Cx.Ok.tried I.ok,I.os,I.bare,I.base,I.loc,I.cell,I.free,I.freeC,λp hp=>I.pin p (by simpa using hp),I.hok,I.len⟩
def Inv.untried(ok:X.Ok)(I:Inv (X.tried (X.pn++pins) xe) [] σ H s):Inv X pins σ H s:=⟨ok,I.os,I.bare,I.base,I.loc,I.cell,I.free,I.freeC,λp hp=>I.pin p (by simpa using hp),I.hok,I.len⟩
def SP.untried{D:Ends}{f:Flow}{s':KM}(ok:X.Ok)(h:SP (X.tried (X.pn++pins) xe) [] D f s'):SP X pins D f s':=by
 cases f with
 |next=>obtain⟨σ',H',I,q⟩:=h;exact⟨σ',H',Inv.untried ok I,q⟩
 |brk=>obtain⟨σ',H',I,q⟩:=h;exact⟨σ',H',Inv.untried ok I,q⟩
 |cont=>obtain⟨σ',H',I,q⟩:=h;exact⟨σ',H',Inv.untried ok I,q⟩
 |ret u=>obtain⟨v,σ',H',I,r,q⟩:=h;exact⟨v,σ',H',Inv.untried ok I,r,q⟩
end
variable{RX:SD->XD}
def Kept.re{J:Jx}{B F0 F:Hp}(k:@Kept J B F0 F H):@Kept ⟨B,F0,RX⟩ B F0 F H:=@Kept.mk ⟨B,F0,RX⟩ B F0 F H k.bh k.fh k.f0 k.out rfl (Same.refl F0) (λ_ h _=>h)
def Kept.un{J:Jx}{B F0 F F' H':Hp}(k:@Kept J B F0 F H)(k':@Kept ⟨B,F0,RX⟩ B F0 F' H'):@Kept J B F0 F' H':=by
 obtain⟨a,b,c,d,_,_,_⟩:=k';exact @Kept.mk J B F0 F' H' a b c d k.eb k.jf k.jo
def dTry(tb:Jx->TSD)(th:TH):TSD:=λE z=>∃ RX:SD->XD,(∀ J:Jx,J.RX=RX->tb J E z)/\∀ z' x fs,RX z' x fs->th x fs E z'
def zm[J:Jx]{body:List RO}{h₀:Sl}{hs:List Sl}{pos:R5}{tb:Jx->TSD}{th:TH}
  (hb:∀ (pn:List (KF × R')) (xe:KB->KM->Prop) (J':Jx),Se (RR X.prog X.w) X.A X.env xe->@XOk (X.tried pn xe) J'->@DSs (X.tried pn xe) J' body (tb J'))
  (hh:DH X (h₀::hs) th) (hex:autoParam (X.ex=[]) zA0) (hstk:autoParam (X.stack=X.env::X.outer) zA0) (hfr:autoParam (X.env.frame=be X.env.locals) zA0):DS X (.Try body (h₀::hs) [] [] pos) (dTry tb th):=by
 intro pins s σ H D I h;obtain⟨B,F0,F,z,k,rs,ED,⟨RX,h1,h2⟩,ee⟩:=h;have ok:=I.ok;have hx:@XOk (X.tried (X.pn++pins) (λe s₁=>RS (RR X.prog X.w) X.A (SW e X.env) (λ_ s₂=>RS (RR X.prog X.w) X.A (Tb e m9) (λ_ s₃=>RS (RR X.prog X.w) X.A (handleBy e X.env (h₀::hs)) (SP X pins D) X.xe s₃) X.xe s₂) X.xe s₁)) ⟨B,F0,RX⟩:=by
  intro σ' z' F' H' s' e C od x fs I1 kk rr hR er hd;obtain⟨He,e0,eP,hd⟩:=hd;have I2:Inv X pins σ' H' s':=Inv.untried ok I1;have stk:s'.heap.FunFrames X.base (X.env::X.outer):=by rw[<- hstk];exact I2.stack
  have OW:X.A.frames=be (X.env::X.outer):=by rw[<- hstk];exact I2.ok.frames
  have k2:Kept B F0 F' H':=Kept.un k kk;have c_:∀ (w6:Heap) (T2:KF) (ex:List KF),(∀ b∈ex,H' b=m9/\X.s₀.heap.get? b=m9/\(∃ o vs,s'.heap.get? b=be o/\o.data= .fields vs)/\∀ p∈X.pn++pins,p.1≠b)->ExAt w6 e C od T2 (SN X.env.locals)->s'.heap.objs.size<=T2->Stay (frs (X.env::X.outer)) ex s'.heap w6->
    RS (RR X.prog X.w) X.A (Tb (.ref e) m9) (λ_ s₃=>RS (RR X.prog X.w) X.A (handleBy (.ref e) X.env (h₀::hs)) (SP X pins D) X.xe s₃) X.xe {s' with heap:=w6}:=by
   intro w6 T2 ex w9 u6 v6 s9;have G':s'.heap.get? T2=none:=Heap.get?_none_of_le v6;have I3:Inv X pins σ' H' {s' with heap:=w6}:=Inv.stay I2 s9 (λb hb=>by rw[hstk];exact hb) (λb hb=>(w9 b hb).1) (λb hb=>(w9 b hb).2.1) (λb hb=>let ⟨_,_,q1,q2⟩:=(w9 b hb).2.2.1;ke I2 q1 q2) (λb hb=>let ⟨_,_,q1,q2⟩:=(w9 b hb).2.2.1;fld_cell I2 q1 q2) (λb hb=>(w9 b hb).2.2.2);obtain⟨sl,vs,oT,ts,he,g1,v5,hT,k_,g3⟩:=id u6;have Jh:H' T2=none:=fN I2.hok G';have T0:X.s₀.heap.get? T2=none:=cE I2 hex G';have TP:∀ p∈X.pn++pins,p.1≠T2:=λp hp z=>by
    have:=(I2.pin p hp).1;rw[z,G'] at this;cases this
   refine flight_none (s:={s' with heap:=w6}) u6 λh3 KH z_=>?_;have I4:Inv X pins σ' H' {s' with heap:=h3}:=Inv.stay (s:={s' with heap:=w6}) I3 z_ (λb hb=>by cases hb) (λb hb=>by rw[Fl.mp hb];exact Jh) (λb hb=>by rw[Fl.mp hb];exact T0) (λb hb=>by rw[Fl.mp hb];exact ke I3 hT k_) (λb hb=>by rw[Fl.mp hb];exact fld_cell I3 hT k_) (λb hb=>by rw[Fl.mp hb];exact TP);exact hh pins _ σ' H' D e C od T2 x fs B F0 F' z' ED I4 ⟨KH,He,Jh,e0,T0,eP,TP⟩ k2 rr er (h2 z' x fs hR) ee
  rcases hd with⟨sl,vs,he,hv⟩|⟨T,LO,T0,HT,TP⟩
  .refine qU OW stk hfr he hv λw6 T2 u6 v6 s9=>c_ w6 T2 [e] (λb hb=>?_) u6 v6 s9;rw[Fl.mp hb];exact⟨He,e0,⟨_,_,he,rfl⟩,eP⟩
  .obtain⟨sl,vs,oT,ts,he,g1,v5,hT,k_,g3⟩:=id LO;refine qV OW stk hfr LO λw6 T2 u6 v6 s9=>c_ w6 T2 [T,e] (λb hb=>?_) u6 v6 s9;rcases Fp.mp hb with z|z
   .rw[z];exact⟨HT,T0,⟨_,_,hT,k_⟩,TP⟩
   .rw[Fl.mp z];exact⟨He,e0,⟨_,_,he,rfl⟩,eP⟩
 refine wpAny_Try_except (R3 (hb (X.pn++pins) _ ⟨B,F0,RX⟩ PassesOwn.looking hx [] s σ H D (Inv.tried I) ?_) (λf s1 q=>?_) λe s1 q=>q)
 .refine⟨B,F0,F,z,Kept.re k,rs,ED,h1 ⟨B,F0,RX⟩ rfl,@EndsOk.mk ⟨B,F0,RX⟩ _ _ _ _ _ (λz' s' F' H' k'=>ee.nx z' s' F' H' (Kept.un k k')) (λd v F' H' k'=>ee.rt d v F' H' (Kept.un k k')) (λz' s' F' H' k'=>ee.bk z' s' F' H' (Kept.un k k')) (λz' s' F' H' k'=>ee.ct z' s' F' H' (Kept.un k k'))⟩
 .have q:=SP.untried ok q;cases f with
  |next=>exact Sv q
  |ret v=>exact q
  |brk=>exact q
  |cont=>exact q
def ErrG(K:Ex)(f y:D'):Prop:=∃ C cd,ErrA K y C cd/\Fw K (.ref C) "__getattribute__"=be (be (.builtin "BaseException.__getattribute__"))/\Fw K (.ref C) "__getattr__"=be m9/\Fw K (.ref C) f=be m9
def sf:tailIn K veLine veLine=true:=by
 unfold tailIn;rfl
def si{c:KB}{d:Option KF}{es:Array DictEntry}{ep:Nat}(l:K.lookup N=be ⟨c,d,.dict es ep,sl⟩)(h:es.toList.all (λe=>match e.key with| .str _ _=>true|_=>false)=true):nsOkIn K N=true:=by
 unfold nsOkIn;rw[l];dsimp only;rw[<- H8];exact h
def zn{M:KF}{c0:KB}{dd:Option KF}{cd:ClassData}(l:K.lookup M=be ⟨c0,dd,.cls cd,sl⟩)(hn:cd.ns=N)(h1:nsOkIn K N=true)(h2:nsIn K N "__init__"=be m9):tailIn K veLine (.ref M::veLine)=true:=by
 unfold tailIn;subst hn;dsimp only;rw[l];dsimp only;rw[h1,h2,sf];simp
def zo:kitOne K (.ref C) (.ref C)=be true:=by
 unfold kitOne;rw[if_pos (beq_self_eq_true _)]
def sj(S:SpX):SpD:=λds R=>S ds R λ_ _=>False
def CalX.no{base:Heap}{n:Nat}{S:SpX}(C:CalX P w K mg base n x ps S):CalD P w K mg base n x ps (sj S):=by
 obtain⟨f,fd,F,hb,hk,hm⟩:=C;refine⟨f,fd,F.imp λvs H Q E h=>?_,hb,hk,hm⟩;obtain⟨F,ds,fh,rs,R,h,q⟩:=h;exact⟨F,ds,fh,rs,R,_,h,q,λ_ _ _ _ _ _ _ z=>z.elim⟩
end My
namespace My
def repS(x:D')(n:Nat):Str:=⟨(Gg n x.cps.toList).flatten.toArray⟩
def so{α:Type}(l:List α):∀ m:Nat,(Ft m).filterMap (λk=>l[k]?)=l.take m
 |0=>by simp
 |m+1=>by
  rw[GO,List.filterMap_append,so l m,H9];cases h:l[m]?<;>simp[h]
def zp(lo hi:Option Int)(n:Nat):Builtin.Str.strSliceIndices lo hi 1 n=(Ft (HT.sIx n n hi - HT.sIx n 0 lo)).map λk=>HT.sIx n 0 lo+k:=by
 have IQ:∀ (i:Int) (d:Nat),max 0 (min (if i<0 then i+(n:Int) else i) (n:Int))=((HT.sIx n d (be i):Nat):Int):=by
  intro i d;show max 0 (min (if i<0 then i+(n:Int) else i) (n:Int))=(((if i<0 then(i+(n:Int)).toNat else min i.toNat n):Nat):Int);by_cases h:i<0
  .rw[if_pos h,if_pos h];lia
  .rw[if_neg h,if_neg h];lia
 have h1:Builtin.Str.strSliceIndices lo hi 1 n=sliceRange ((HT.sIx n 0 lo:Nat):Int) ((HT.sIx n n hi:Nat):Int) 1:=by
  unfold Builtin.Str.strSliceIndices;simp only[show(1:Int)>0 by decide,if_true];cases lo with
  |none=>cases hi with
   |none=>rfl
   |some j=>rw[<- IQ j n];rfl
  |some i=>cases hi with
   |none=>rw[<- IQ i 0];rfl
   |some j=>rw[<- IQ i 0,<- IQ j n]
 rw[h1];unfold sliceRange;simp only[show(1:Int)>0 by decide,if_true];have e3:(if((HT.sIx n 0 lo:Nat):Int)<((HT.sIx n n hi:Nat):Int) then(((HT.sIx n n hi:Nat):Int) - ((HT.sIx n 0 lo:Nat):Int)+1 - 1) / 1 else 0).toNat=HT.sIx n n hi - HT.sIx n 0 lo:=by
  split<;>lia
 rw[e3];apply Hv;intro k _;lia
def slice_cps(y:D')(lo hi:Option Int):Txt.slice y lo hi=⟨((y.cps.toList.drop (HT.sIx y.length 0 lo)).take (HT.sIx y.length y.length hi - HT.sIx y.length 0 lo)).toArray⟩:=by
 have la:HT.sIx y.length 0 lo<=y.length:=HT.sIx_le _ _ (FR _) lo;have lb:HT.sIx y.length y.length hi<=y.length:=HT.sIx_le _ _ (Fo _) hi;unfold Txt.slice;rw[zp];split
 .rename_i h;have hl:HT.sIx y.length y.length hi - HT.sIx y.length 0 lo=y.length:=by simpa using h
  have ha:HT.sIx y.length 0 lo=0\/y.length=0:=by lia
  rw[hl];obtain⟨cp⟩:=y;have e:(GP (HT.sIx (Str.mk cp).length 0 lo) cp.toList)=cp.toList:=by
   rcases ha with ha|ha
   .rw[ha];rfl
   .have:cp=#[]:=Array.eq_empty_of_size_eq_zero ha;subst this;simp
  show(⟨cp⟩:D')=⟨((GP (HT.sIx (Str.mk cp).length 0 lo) cp.toList).take cp.size).toArray⟩;rw[e,Hw (by simp)]
 .congr 2;rw[HP];have:=so (y.cps.toList.drop (HT.sIx y.length 0 lo)) (HT.sIx y.length y.length hi - HT.sIx y.length 0 lo);rw[<- this];congr 1;funext k;simp
section
variable {X:Cx}[J:Jx]{a b c e:RP}{ta tb tc te:TD}{pos:R5}
def Fg:RD2:=λx y R=>match x,y with
 | .int i,.int j=>CMul i j/\R (.int (i*j))
 | .str i,.int n=>(-(2 ^ 62)<=n/\n<=1000000/\i.length*n.toNat<=1000000)/\R (.str (repS i n.toNat))
 | .lst xs,.int n=>(-(2 ^ 62)<=n/\n<=1000000/\xs.length*n.toNat<=1000000)/\R (.lst (Gg n.toNat xs).flatten)
 |_,_=>False
def zq:SlR X (λx lo hi H Q=>∃ y,x= .str y/\y.length<=sizeLine/\Q (.str (Txt.slice y lo hi)) H):=by
 intro pins s σ H x v vl vu lo hi sl Q I rx hs pl pu h;obtain⟨y,rfl,hz,q⟩:=h;obtain⟨t,rfl⟩:=rx;have c_:∀ t' k,EP X pins σ Q (.str (Txt.slice y lo hi) t') {s with toks:=k}:=λt' k=>⟨.str _,H,I.tok k,⟨_,rfl⟩,q⟩;have le:=FA (Txt.slice_le y lo hi) hz;refine⟨"str",_,PySem.F.slot_str_getitem.lookup,TJ _ _ _,?_⟩;cases pl with
 |none=>cases pu with
  |none=>exact Sm (l:=m9) (u:=m9) (st:=m9) hs rfl (SQ ⟨le,c_⟩)
  |int j tj=>exact Sm (l:=m9) (u:=be (j,tj)) (st:=m9) hs rfl (SQ ⟨le,c_⟩)
 |int i ti=>cases pu with
  |none=>exact Sm (l:=be (i,ti)) (u:=m9) (st:=m9) hs rfl (SQ ⟨le,c_⟩)
  |int j tj=>exact Sm (l:=be (i,ti)) (u:=be (j,tj)) (st:=m9) hs rfl (SQ ⟨le,c_⟩)
abbrev TDO:=SD->(Option Int->Prop)->Prop
def zr:TDO:=λ_ R=>R m9
def zt(te:TD):TDO:=λz R=>te z λx=>match x with| .int i=>R (be i)|_=>False
def lO(K:Ex)[J:Jx](t:TDO):TO:=λs H Q=>∃ B F z,Kept B J.F0 F H/\RepS K B F H z s/\∃ R:Option Int->Prop,t z R/\∀ o F' H',Grow F H F' H'->R o->Q o H'
abbrev DPO(X:Cx)[Jx](e:Option RP)(t:TDO):Prop:=PO X e (lO X.K t)
structure WDPO(X:Cx)[Jx](e:Option RP)(t:TDO):Prop where
 out:DPO X e t
def PO.anti{X:Cx}{e:Option RP}{t t':TO}(h:PO X e t)(a:∀ s H Q,t' s H Q->t s H Q):PO X e t':=λpins s σ H Q I q=>h pins s σ H Q I (a _ _ _ q)
def cN:WDPO X m9 zr:=⟨PO.anti qD λs H Q q=>by
 obtain⟨B,F,z,kf,rs,R,h1,h2⟩:=q;exact h2 m9 F H (Grow.refl kf.fh) h1⟩
def cO(he:WDE X e te):WDPO X (be e) (zt te):=⟨have he:=he.out;PO.anti (qE he) λs H Q q=>by
 obtain⟨B,F,z,kf,rs,R,h1,h2⟩:=q;refine⟨B,F,z,kf,rs,_,h1,λx u F1 H1 g1 hx rx=>?_⟩;split at hx
 .exact⟨_,rep_int.mp rx,h2 _ F1 H1 g1 hx⟩
 .exact hx.elim⟩
def rdSl:D->Option Int->Option Int->(D->Prop)->Prop:=λx lo hi R=>match x with
 | .str y=>y.length<=1000000/\R (.str (Txt.slice y lo hi))
 | .lst xs=>R (.lst (cutD xs lo hi))
 | .rol xs=>R (.lst (cutD xs lo hi))
 | .tup xs=>¬ (HT.sIx xs.length 0 lo=0/\HT.sIx xs.length xs.length hi=xs.length)/\R (.tup (cutD xs lo hi))
 |_=>False
def dSl(ta:TD)(tl th:TDO):TD:=λz R=>ta z λx=>tl z λlo=>th z λhi=>rdSl x lo hi R
def cP{lo hi:Option RP}{tl th:TDO}{p2:R5}(ha:WDE X a ta)(hl:WDPO X lo tl)(hu:WDPO X hi th):WDE X (.Subscript a (.Slice lo hi m9 p2) pos) (dSl ta tl th):=⟨have ha:=ha.out;have hl:=hl.out;have hu:=hu.out;(qF (SlR.or zq (SlR.or qK xh)) ha hl hu).anti λs H Q q=>by
 obtain⟨B,F,z,kf,rs,R,h1,h2⟩:=q;refine⟨B,F,z,kf,rs,_,h1,λx u F1 H1 g1 hx rx=>?_⟩;refine⟨B,F1,z,kf.grow g1,rs.grow g1,_,hx,λlo F2 H2 g2 hy=>?_⟩;refine⟨B,F2,z,(kf.grow g1).grow g2,(rs.grow g1).grow g2,_,hy,λhi F3 H3 g3 hw=>?_⟩;have g:=g1.trans (g2.trans g3);have LP:=(rx.mono g2.ff).mono g3.ff;unfold rdSl at hw;split at hw
 .exact .inl ⟨_,rep_str.mp LP,FA hw.1 (by decide),h2 _ _ F3 H3 g hw.2 (rep_str.mpr rfl)⟩
 .obtain⟨l,vs,rfl,hq,rr⟩:=rep_lst.mp LP;refine .inr (.inl ⟨l,vs,rfl,SqL.of (g3.fh _ _ hq),λp hp=>?_⟩);exact h2 _ _ _ _ (g.trans (Grow.new g3.fh hp _)) hw (rep_lst.mpr ⟨p,_,rfl,aC,(rr.cut _ _).mono (aU (g3.fh.free hp) _)⟩)
 .obtain⟨l,vs,rfl,hq,rr⟩:=rep_rol.mp LP;refine .inr (.inl ⟨l,vs,rfl,g3.fh.seq hq,λp hp=>?_⟩);exact h2 _ _ _ _ (g.trans (Grow.new g3.fh hp _)) hw (rep_lst.mpr ⟨p,_,rfl,aC,(rr.cut _ _).mono (aU (g3.fh.free hp) _)⟩)
 .obtain⟨l,vs,rfl,hq,rr⟩:=rep_tup_mp LP;refine .inr (.inr ⟨l,vs,rfl,g3.fh.tup hq,by rw[rr.length];exact hw.1,λp hp=>?_⟩);exact h2 _ _ _ _ (g.trans (Grow.new g3.fh hp _)) hw.2 (rep_tupS.mpr ⟨p,_,rfl,aC,(rr.cut _ _).mono (aU (g3.fh.free hp) _)⟩)
 .exact hw.elim⟩
def rdIn(neg:Bool):RD2:=λx y R=>match x,y with
 | .str i,.str j=>R (.bl (if neg then !(!(Builtin.Str.occurrences j i 0 j.length 1).isEmpty) else !(Builtin.Str.occurrences j i 0 j.length 1).isEmpty))
 |x,.lst ys=>(br x=true/\ys.all br=true)/\R (.bl (if neg then !(ys.any λy=>eqF y x) else ys.any λy=>eqF y x))
 |x,.rol ys=>(br x=true/\ys.all br=true)/\R (.bl (if neg then !(ys.any λy=>eqF y x) else ys.any λy=>eqF y x))
 |x,.tup ys=>(br x=true/\ys.all br=true)/\R (.bl (if neg then !(ys.any λy=>eqF y x) else ys.any λy=>eqF y x))
 |_,_=>False
def gR{K:Ex}{H:Hp}{x:D}{u:V}(rx:Rep K H x u)(fx:br x=true):∀ {ys:List D} {vs:List V},Reps K H ys vs->ys.all br=true->inV u vs=ys.any λy=>eqF y x
 |[],vs,r,_=>by rw[reps_nil.mp r];rfl
 |y::ys,vs,r,f=>by
  obtain⟨v,vr,rfl,r1,r2⟩:=reps_cons.mp r;rw[GK,FS] at f;have ih:=gR rx fx r2 f.2;unfold inV at ih ⊢;rw[GC,GC,ih,eqV_of r1 rx f.1 fx]
def rInV(K:Ex)(neg:Bool):R2:=λx y H Q=>(∃ i j,x= .str i/\y= .str j/\Q (.bl (if neg then !(!(Builtin.Str.occurrences j i 0 j.length 1).isEmpty) else !(Builtin.Str.occurrences j i 0 j.length 1).isEmpty)) H)\/rIn K neg x y H Q
def zu{K:Ex}{neg:Bool}:bc K (rInV K neg) (rdIn neg):=by
 intro x y u v F H R Q fh h rx ry q;unfold rdIn at h;split at h
 .exact .inl ⟨_,_,rep_str.mp rx,rep_str.mp ry,q _ _ F H (Grow.refl fh) h (rep_bl.mpr rfl)⟩
 .obtain⟨⟨f1,f2⟩,h⟩:=h;obtain⟨l,vs,rfl,hq,rr⟩:=rep_lst.mp ry;exact .inr ⟨l,vs,rfl,.inl (fh.seq (SqL.of hq)),eI rx f1,cX rr f2,q _ _ F H (Grow.refl fh) h (rep_bl.mpr (by rw[gR rx f1 rr f2]))⟩
 .obtain⟨⟨f1,f2⟩,h⟩:=h;obtain⟨l,vs,rfl,hq,rr⟩:=rep_rol.mp ry;exact .inr ⟨l,vs,rfl,.inl (fh.seq hq),eI rx f1,cX rr f2,q _ _ F H (Grow.refl fh) h (rep_bl.mpr (by rw[gR rx f1 rr f2]))⟩
 .obtain⟨⟨f1,f2⟩,h⟩:=h;obtain⟨l,vs,rfl,hq,rr⟩:=rep_tup_mp ry;exact .inr ⟨l,vs,rfl,.inr (fh.tup hq),eI rx f1,cX rr f2,q _ _ F H (Grow.refl fh) h (rep_bl.mpr (by rw[gR rx f1 rr f2]))⟩
 .exact h.elim
def zv:OpR X (R9 .NotIn) (rInV X.K true):=OpR.or xr xq
end
section
variable {X:Cx}[J:Jx]{a b c e:RP}{ta tb tc te:TD}{pos:R5}
def dI(x:D'):List D:=x.cps.toList.map λc=>D.str ⟨#[c]⟩
def zw{x:D'}{k c:Nat}(h:x.cps[k]?=be c):(dI x)[k]?=be (.str ⟨#[c]⟩):=by
 unfold dI;rw[FF,Array.getElem?_toList,h];rfl
def sq(x:D'):(dI x).length=x.length:=by unfold dI;rw[Fs];simp[Str.length]
variable {ge iter:RP}{x:D'}{px:R5}{scope:Sk}{ti:TD}
end
section
variable {X:Cx}[J:Jx]{a b c e o:RP}{es:List RP}{ta tb tc te to:TD}{t:TDA}{pos:R5}
abbrev RTx:=D'->List D->(D->Prop)->Prop
def dTx(r:RTx)(to:TD)(t:TDA):TD:=λz R=>to z λx=>match x with| .str y=>t z λds=>r y ds R|_=>False
def MtS(X:Cx)(id:String)(r:RTx):Prop:=∃ rv:V->List V->Hp->VK->Prop,MtR X id rv/\∀ (y:D') (ds:List D) (vs:List V) (F H:Hp) (R:D->Prop) (Q:VK),Reps X.K F ds vs->r y ds R->(∀ d v,(∀ G,Rep X.K G d v)->R d->Q v H)->rv (.str y) vs H Q
variable{apos cpos:R5}
def sr{name:D'}{id:String}{r:RTx}(slot:Slot "str" name id)(Mi:typeOf (.builtin id)=pure (.type "method_descriptor"))(hm:MtS X id r)(ho:DE X o to)(ha:DA X (e::es) t)
  (b9:autoParam (RZ o name X.env (R1 o X.env)=R1 o X.env) zA0)
  (d_:autoParam (zHF X cpos (e::es)) zA0)
  (c9:autoParam ((apos.endLine==cpos.line)=true) zA0) (hs:autoParam (zSE X e es) zA0) (n6:autoParam (zPL X cpos es) zA0):
  DE X (.Call (.Attribute o name apos) (e::es) [] cpos) (dTx r to t):=by
 obtain⟨rv,hm,L⟩:=hm;refine(dZ PySem.F.plainAttrs_str slot Mi hm ho ha b9 d_ c9 hs n6).anti λs H Q q=>?_;obtain⟨B,F,z,kf,rs,R,h1,h2⟩:=q;refine⟨B,F,z,kf,rs,_,h1,λx u F1 H1 g1 hx rx=>?_⟩;split at hx
 .rename_i y;rw[rep_str.mp rx];refine⟨rfl,B,F1,z,kf.grow g1,rs.grow g1,_,hx,λds vs F2 H2 g2 hy ry=>?_⟩;exact L y ds vs F2 H2 R Q ry hy λd v rd hR=>h2 d v F2 H2 (g1.trans g2) hR (rd F2)
 .exact hx.elim
def Fh:RTx:=λy ds R=>match ds with|[.str p]=>R (.bl (Txt.startswith y p))|_=>False
def rEnds:RTx:=λy ds R=>match ds with|[.str p]=>R (.bl (Txt.endswith y p))|_=>False
def ms_ends:MtS X "str.endswith" rEnds:=by
 refine⟨λx vs H Q=>∃ y p,x= .str y/\vs=[.str p]/\Q (.bl (Txt.endswith y p)) H,?_,?_⟩
 .intro pins s σ H x vs v us Q I rx rv h;obtain⟨y,p,rfl,rfl,q⟩:=h;obtain⟨t,rfl⟩:=rx;obtain⟨u,rfl,t',rfl⟩:=bY rv;exact SC.endswith ⟨.bl _,H,I,rfl,q⟩
 .intro y ds vs F H R Q r h q;unfold rEnds at h;split at h
  .obtain⟨v,vr,rfl,h1,h2⟩:=reps_cons.mp r;rw[reps_nil.mp h2,rep_str.mp h1];exact⟨_,_,rfl,rfl,q _ _ (λ_=>rep_bl.mpr rfl) h⟩
  .exact h.elim
def zx(ho:WDE X o to)(ha:WDA X [e] t)(b9:autoParam (RZ o "endswith" X.env (R1 o X.env)=R1 o X.env) zA0)
  (d_:autoParam (zHF X cpos [e]) zA0)
  (c9:autoParam ((apos.endLine==cpos.line)=true) zA0) (hs:autoParam (zSE X e []) zA0):WDE X (.Call (.Attribute o "endswith" apos) [e] [] cpos) (dTx rEnds to t):=⟨have ho:=ho.out;have ha:=ha.out;sr PySem.F.slot_str_endswith PySem.F.type_str_endswith ms_ends ho ha b9 d_ c9 hs⟩
def rSIndex:RTx:=λy ds R=>match ds with|[.str p]=>∃ i rest,Builtin.Str.occurrences y p 0 y.length 1=i::rest/\R (.int (i:Nat))|_=>False
def zy:MtS X "str.index" rSIndex:=by
 refine⟨λx vs H Q=>∃ y p i rest,x= .str y/\vs=[.str p]/\Builtin.Str.occurrences y p 0 y.length 1=i::rest/\Q (.int (i:Nat)) H,?_,?_⟩
 .intro pins s σ H x vs v us Q I rx rv h;obtain⟨y,p,i,rest,rfl,rfl,ho,q⟩:=h;obtain⟨t,rfl⟩:=rx;obtain⟨u,rfl,t',rfl⟩:=bY rv;exact SC.index ho ⟨.int _,H,I.tok _,⟨_,rfl⟩,q⟩
 .intro y ds vs F H R Q r h q;unfold rSIndex at h;split at h
  .obtain⟨i,rest,ho,h⟩:=h;obtain⟨v,vr,rfl,h1,h2⟩:=reps_cons.mp r;rw[reps_nil.mp h2,rep_str.mp h1];exact⟨_,_,i,rest,rfl,rfl,ho,q _ _ (λ_=>rep_int.mpr rfl) h⟩
  .exact h.elim
def ss(ho:WDE X o to)(ha:WDA X [e] t)(b9:autoParam (RZ o "index" X.env (R1 o X.env)=R1 o X.env) zA0)
  (d_:autoParam (zHF X cpos [e]) zA0)
  (c9:autoParam ((apos.endLine==cpos.line)=true) zA0) (hs:autoParam (zSE X e []) zA0):WDE X (.Call (.Attribute o "index" apos) [e] [] cpos) (dTx rSIndex to t):=⟨have ho:=ho.out;have ha:=ha.out;sr PySem.F.slot_str_index PySem.F.type_str_index zy ho ha b9 d_ c9 hs⟩
def Reps.init{K:Ex}{F:Hp}:∀ {ds:List D} {vs:List V},Reps K F ds vs->Reps K F ds.dropLast vs.dropLast
 |[],vs,r=>by rw[reps_nil.mp r];exact reps_nil.mpr rfl
 |[d],vs,r=>by
  obtain⟨v,vr,rfl,_,h2⟩:=reps_cons.mp r;rw[reps_nil.mp h2];exact reps_nil.mpr rfl
 |d::d2::ds,vs,r=>by
  obtain⟨v,vr,rfl,h1,h2⟩:=reps_cons.mp r;obtain⟨v2,Rr,rfl,h3,h4⟩:=reps_cons.mp h2;rw[Ia,Ia];exact reps_cons.mpr ⟨v,_,rfl,h1,Reps.init h2⟩
end
end My
namespace My
open Exc
section
variable {X:Cx}{a b c e:RP}{ta tb tc te:TD}{pos:R5}{st:RO}{rest:List RO}{t u:TSD}
def aP[Jx]{c:RP}{l r:List RO}{tc:TDT}(hc:WDT X c tc)(ha:WDSs X l t)(hb:WDSs X r u):WDS X (.If c l r pos) (dIfS tc t u):=⟨rC (c:=c) (l:=l) (r:=r) (tc:=tc) (hc:=hc.out) (ha:=ha.out) (hb:=hb.out)⟩
end
def zz{X:Cx}[J:Jx]{body:List RO}{h₀:Sl}{hs:List Sl}{pos:R5}{tb:Jx->TSD}{th:TH}(hb:∀ (pn:List (KF × R')) (xe:KB->KM->Prop) (J':Jx),Se (RR X.prog X.w) X.A X.env xe->@XOk (X.tried pn xe) J'->@WDSs (X.tried pn xe) J' body (tb J'))(hh:WDH X (h₀::hs) th)(hex:autoParam (X.ex=[]) zA0)(hstk:autoParam (X.stack=X.env::X.outer) zA0)(hfr:autoParam (X.env.frame=be X.env.locals) zA0):WDS X (.Try body (h₀::hs) [] [] pos) (dTry tb th):=⟨zm (X:=X) (body:=body) (h₀:=h₀) (hs:=hs) (pos:=pos) (tb:=tb) (th:=th) (hb:=λa b c d e=>(hb a b c d e).out) (hh:=hh.out) (hex:=hex) (hstk:=hstk) (hfr:=hfr)⟩
section
variable {P:P3}{w:RT}{K:Ex}{mg:D'->Option KB}{base:Heap}
variable{x:D'}{st:RO}{f:KF}{fd:RY}{N ps:List D'}{k:Nat}
def _root_.L2.Fun.okDW{S:SpD}(T:Fun K x x st f fd)(F:FnScope N ps (ag st))(len:∀ ds R,S ds R->ds.length=ps.length)
  (a9:∀ (cdv:KB) (A:RU) (outer:List SE) (s:KM) (H:Hp) (E:XK) (J:Jx),Room k (A.deeper (R7 x (ag st) s.heap.objs.size f cdv))->
   ∃ t,WDSs (cxOf (Exc.CX1 P w) P w K mg base N x (ag st) f cdv A outer s H E).nox (aK st) t/\∀ ds R,S ds R->t {nx:=λ_=>R .non,rt:=R} (startD N ds)):FnOk P w K mg base (Exc.CX1 P w) (k+1) f fd ps (lSp K S):=
 T.okD F len λcdv A outer s H E J hr=>let ⟨t,h,q⟩:=a9 cdv A outer s H E J hr;⟨t,h.out,q⟩
def Tx.okDW{S:SpD}(T:Tx K mg x st ps)(F:FnScope N ps (ag st))(len:∀ ds R,S ds R->ds.length=ps.length)
  (a9:∀ (f:KF) (cdv:KB) (A:RU) (outer:List SE) (s:KM) (H:Hp) (E:XK) (J:Jx),Room k (A.deeper (R7 x (ag st) s.heap.objs.size f cdv))->
   ∃ t,WDSs (cxOf (Exc.CX1 P w) P w K mg base N x (ag st) f cdv A outer s H E).nox (aK st) t/\∀ ds R,S ds R->t {nx:=λ_=>R .non,rt:=R} (startD N ds)):CalD P w K mg base (k+1) x ps S:=
 Tx.okD T F len λf cdv A outer s H E J hr=>let ⟨t,h,q⟩:=a9 f cdv A outer s H E J hr;⟨t,h.out,q⟩
def Tx.okXW{S:SpX}(T:Tx K mg x st ps)(F:FnScope N ps (ag st))(len:∀ ds R RX,S ds R RX->ds.length=ps.length)
  (a9:∀ (f:KF) (cdv:KB) (A:RU) (outer:List SE) (s:KM) (H:Hp) (E:XK) (J:Jx),Room k (A.deeper (R7 x (ag st) s.heap.objs.size f cdv))->XOk (cxOf (CX1 P w) P w K mg base N x (ag st) f cdv A outer s H E)->
   ∃ t,WDSs (cxOf (CX1 P w) P w K mg base N x (ag st) f cdv A outer s H E) (aK st) t/\∀ ds R RX,(∀ z,J.RX z=RX)->S ds R RX->t {nx:=λ_=>R .non,rt:=R} (startD N ds)):CalX P w K mg base (k+1) x ps S:=
 Tx.okX T F len λf cdv A outer s H E J hr hx=>let ⟨t,h,q⟩:=a9 f cdv A outer s H E J hr hx;⟨t,h.out,q⟩
def Cls.okIW{qual:D'}{C:KF}{p0:D'}{S:SiD}(T:Fun K "__init__" qual st f fd)(hb:Binds K fd (p0::ps) [])(F:FnScope (p0::N) (p0::ps) (ag st))(len:∀ ds R,S ds R->ds.length=ps.length)
  (hns:nsIn K Pi x=be (be (.ref C))) (m5:mg x=be (.ref C)) (mk:Mk K C f)
  (a9:∀ (cdv:KB) (A:RU) (outer:List SE) (s:KM) (H:Hp) (E:XK) (J:Jx),Room k (A.deeper (R7 qual (ag st) s.heap.objs.size f cdv))->
   ∃ t,WDI (cxOf (Exc.CX1 P w) P w K mg base (p0::N) qual (ag st) f cdv A outer s H E).nox x (aK st) t/\∀ ds R,S ds R->t (m9::startD N ds) [] R):CalM P w K mg base (k+1) x (p0::ps) S:=
 Cls.okI T hb F len hns m5 mk λcdv A outer s H E J hr=>let ⟨t,h,q⟩:=a9 cdv A outer s H E J hr;⟨t,h.out,q⟩
def Cls.okEW{qual:D'}{C N0:KF}{bm:List KB}{p0:D'}{S:SiD}(T:Fun K "__init__" qual st f fd)(hb:Binds K fd (p0::ps) [])(F:FnScope (p0::N) (p0::ps) (ag st))(len:∀ ds R,S ds R->ds.length=ps.length)
  (ek:ErrK K mg x C N0 bm) (hi:Fw K (.ref C) "__init__"=be (be (.ref f))) (hf:isFn K (.ref f)=true)
  (a9:∀ (cdv:KB) (A:RU) (outer:List SE) (s:KM) (H:Hp) (E:XK) (J:Jx),Room k (A.deeper (R7 qual (ag st) s.heap.objs.size f cdv))->
   ∃ t,WDX (cxOf (CX1 P w) P w K mg base (p0::N) qual (ag st) f cdv A outer s H E).nox x (aK st) t/\∀ ds R,S ds R->t (m9::startD N ds) [] R):CalE P w K mg base (k+1) x (p0::ps) S:=
 Cls.okE T hb F len ek hi hf λcdv A outer s H E J hr=>let ⟨t,h,q⟩:=a9 cdv A outer s H E J hr;⟨t,h.out,q⟩
end
inductive MO where
 |ins (x:Str) (fs:List (Str × D))|lst (ds:List D)|dti (a8:List ((Int × Int) × Int))
abbrev MS:=List (KF × MO)
def MRep(K:Ex)(F H:Hp)(a:KF):MO->Prop
 | .ins x fs=>∃ C dx ws,nsIn K Pi x=be (be (.ref C))/\H a=be (.ins C dx ws)/\RepF K F fs ws
 | .lst ds=>∃ vs,H a=be (.lst vs)/\Reps K F ds vs
 | .dti a8=>H a=be (.dT (dtiV a8))
def az(M:MS):List KF:=M.map (·.1)
def mget:MS->KF->Option MO
 |[],_=>m9
 |(b,o)::r,a=>if b=a then be o else mget r a
def mput:MS->KF->MO->MS
 |[],_,_=>[]
 |(b,p)::r,a,o=>if b=a then(b,o)::r else(b,p)::mput r a o
def mdel:MS->KF->MS
 |[],_=>[]
 |(b,p)::r,a=>if b=a then r else(b,p)::mdel r a
def bT:∀ {M:MS} {a:KF} {o:MO},mget M a=be o->(a,o)∈M
 |[],_,_,h=>by cases h
 |(b,p)::r,a,o,h=>by
  unfold mget at h;split at h
  .rename_i e;subst e;cases h;exact Fv
  .exact Fu _ (bT h)
variable{M:MS}{a:KF}{o:MO}
def cw(h:(a,o)∈M):a∈az M:=FP.mpr ⟨_,h,rfl⟩
def gS:∀ (M:MS) (a:KF) (o:MO),az (mput M a o)=az M
 |[],_,_=>rfl
 |(b,p)::r,a,o=>by
  unfold mput;split
  .rfl
  .show b::az (mput r a o)=b::az r;rw[gS r a o]
def mem_put:∀ {M:MS} {a b:KF} {o q:MO},(az M).Nodup->(b,q)∈mput M a o->(b=a/\q=o/\a∈az M)\/(b≠a/\(b,q)∈M)
 |[],_,_,_,_,_,h=>by cases h
 |(c,p)::r,a,b,o,q,nd,h=>by
  have K5:c ∉ az r/\(az r).Nodup:=Gf.mp nd;unfold mput at h;split at h
  .rename_i e;subst e;rcases Fp.mp h with z|z
   .cases z;exact .inl ⟨rfl,rfl,Fv⟩
   .have:b∈az r:=cw z;exact .inr ⟨λe=>K5.1 (e ▸ this),Fu _ z⟩
  .rename_i ne;rcases Fp.mp h with z|z
   .cases z;exact .inr ⟨ne,Fv⟩
   .rcases mem_put K5.2 z with⟨e1,e2,e3⟩|⟨e1,e2⟩
    .exact .inl ⟨e1,e2,Fu _ e3⟩
    .exact .inr ⟨e1,Fu _ e2⟩
def kg:∀ {M:MS} {a b:KF} {q:MO},(az M).Nodup->(b,q)∈mdel M a->b≠a/\(b,q)∈M
 |[],_,_,_,_,h=>by cases h
 |(c,p)::r,a,b,q,nd,h=>by
  have K5:c ∉ az r/\(az r).Nodup:=Gf.mp nd;unfold mdel at h;split at h
  .rename_i e;subst e;exact⟨λe=>K5.1 (e ▸ cw h),Fu _ h⟩
  .rename_i ne;rcases Fp.mp h with z|z
   .cases z;exact⟨ne,Fv⟩
   .obtain⟨e1,e2⟩:=kg K5.2 z;exact⟨e1,Fu _ e2⟩
def del_sub:∀ {M:MS} {a:KF},(az (mdel M a)).Sublist (az M)
 |[],_=> .slnil
 |(c,p)::r,a=>by
  unfold mdel;split
  .exact List.sublist_cons_self _ _
  .exact List.Sublist.cons_cons _ del_sub
variable{K:Ex}{F H F' H':Hp}
def MRep.mono(ff:Same F F')(hh:∀ o,H a=be o->H' a=be o):∀ {o:MO},MRep K F H a o->MRep K F' H' a o
 | .ins x fs,⟨C,dx,ws,n,h,r⟩=>⟨C,dx,ws,n,hh _ h,RepF.mono ff fs ws r⟩
 | .lst ds,⟨vs,h,r⟩=>⟨vs,hh _ h,Reps.mono ff ds vs r⟩
 | .dti a8,h=>hh _ h
def MRep.there:∀ {o:MO},MRep K F H a o->H a≠m9
 | .ins x fs,⟨C,dx,ws,n,h,r⟩=>by rw[h];exact λz=>nomatch z
 | .lst ds,⟨vs,h,r⟩=>by rw[h];exact λz=>nomatch z
 | .dti a8,h=>by rw[show H a=_ from h];exact λz=>nomatch z
structure RepM(K:Ex)(F H:Hp)(M:MS):Prop where
 nd:(az M).Nodup
 ok:∀ a o,(a,o)∈M->MRep K F H a o
 fr:∀ a,a∈az M->F a=m9
def RepM.nil:RepM K F H []:=⟨HV,(λ_ _ h=>nomatch h),(λ_ h=>nomatch h)⟩
def RepM.here(r:RepM K F H M)(h:a∈az M):H a≠none:=by
 obtain⟨⟨b,o⟩,h1,rfl⟩:=FP.mp h;exact(r.ok _ _ h1).there
structure GrowM(M M':MS)(F H F' H':Hp):Prop where
 ff:Same F F'
 fh:Same F' H'
 hh:∀ b o,b ∉ az M->H b=be o->H' b=be o
 out:∀ b,b ∉ az M->F b=m9->H b≠m9->F' b=m9
 ks:∀ b,b∈az M'->b∈az M\/H b=m9
def Grow.toM(g:Grow F H F' H'):GrowM M M F H F' H':=⟨g.ff,g.fh,λb o _ h=>g.hh b o h,λb _ h1 h2=>g.out b h1 h2,λb h=> .inl h⟩
def GrowM.refl(h:Same F H):GrowM M M F H F H:=(Grow.refl h).toM
def GrowM.trans{M1 M2:MS}{F1 H1 F2 H2:Hp}(g:GrowM M M1 F H F1 H1)(k:GrowM M1 M2 F1 H1 F2 H2):GrowM M M2 F H F2 H2 where
  ff:=g.ff.trans k.ff
  fh:=k.fh
  hh:=λb o nb h=>k.hh b o (λz=>by rcases g.ks b z with q|q;exact nb q;rw[q] at h;cases h) (g.hh b o nb h)
  out:=λb nb h1 h2=>k.out b (λz=>by rcases g.ks b z with q|q;exact nb q;exact h2 q) (g.out b nb h1 h2) (by
    cases e:H b with
    |none=>exact absurd e h2
    |some o=>rw[g.hh b o nb e];exact λz=>nomatch z)
  ks := λb h=>by
    rcases k.ks b h with q|q
    . exact g.ks b q
    . by_cases nb:b∈az M
      . exact .inl nb
      . right;cases e:H b with
        |none=>rfl
        |some o=>rw[g.hh b o nb e] at q;cases q
def RepM.grow(r:RepM K F H M)(g:Grow F H F' H'):RepM K F' H' M:=
 ⟨r.nd,λa o h=>(r.ok a o h).mono g.ff λo e=>g.hh a o e,λa h=>g.out a (r.fr a h) (r.here h)⟩
variable{ho:HO}
def RepM.put{o':MO}(r:RepM K F H M)(e:mget M a=be o)(h:MRep K F (upd H a ho) a o'):RepM K F (upd H a ho) (mput M a o'):=
 ⟨by rw[gS];exact r.nd,λb q hb=>by
  rcases mem_put r.nd hb with⟨rfl,rfl,_⟩|⟨ne,hb⟩
  .exact h
  .exact(r.ok b q hb).mono (Same.refl F) λu z=>by rw[au ne];exact z,λb hb=>r.fr b (by rw[gS] at hb;exact hb)⟩
def GrowM.put{o':MO}(fh:Same F H)(fa:F a=m9)(e:mget M a=be o):GrowM M (mput M a o') F H F (upd H a ho) where
 ff:=Same.refl F
 fh:=λb u z=>by
  have ne:b≠a:=by rintro rfl;rw[fa] at z;cases z
  rw[au ne];exact fh b u z
 hh:=λb u nb z=>by
  have ne:b≠a:=by rintro rfl;exact nb (cw (bT e))
  rw[au ne];exact z
 out:=λb _ h _=>h
 ks:=λb h=> .inl (by rw[gS] at h;exact h)
def RepM.new{p:KF}(r:RepM K F H M)(fh:Same F H)(hp:H p=m9)(h:MRep K F (upd H p ho) p o):RepM K F (upd H p ho) ((p,o)::M):=by
 have np:p ∉ az M:=λz=>r.here z hp;refine⟨Gf.mpr ⟨np,r.nd⟩,λb q hb=>?_,λb hb=>?_⟩
 .rcases Fp.mp hb with z|z
  .cases z;exact h
  .exact(r.ok b q z).mono (Same.refl F) λu z'=>by rw[au (λe:b=p=>np (e ▸ cw z))];exact z'
 .rcases Fp.mp hb with z|z
  .rw[z];exact fh.free hp
  .exact r.fr b z
def GrowM.new{p:KF}(fh:Same F H)(hp:H p=m9):GrowM M ((p,o)::M) F H F (upd H p ho) where
 ff:=Same.refl F
 fh:=fh.trans (aU hp _)
 hh:=λb u _ z=>aU hp _ b u z
 out:=λb _ h _=>h
 ks:=λb h=>by
  rcases Fp.mp h with z|z
  .exact .inr (by rw[z];exact hp)
  .exact .inl z
structure RepZ(K:Ex)(B F H:Hp)(z:SD)(s:L2.St)(M:MS):Prop where
 rs:RepS K B F H z s
 no:∀ (i:Nat) ds,z[i]?≠be (be (.own ds))
 rm:RepM K F H M
 mb:∀ a,a∈az M->B a=m9
variable{B:Hp}{M':MS}
def Kept.growM[Jx]{F0:Hp}(k:Kept B F0 F H)(mb:∀ a,a∈az M->B a=m9)(g:GrowM M M' F H F' H'):Kept B F0 F' H' where
 bh:=λb o e=>g.hh b o (λz=>by rw[mb b z] at e;cases e) (k.bh b o e)
 fh:=g.fh
 f0:=k.f0.trans g.ff
 out:=λb h1 h2=>g.out b (λz=>h2 (mb b z)) (k.out b h1 h2) (by
  cases e:B b with
  |none=>exact absurd e h2
  |some o=>rw[k.bh b o e];exact λz=>nomatch z)
 eb:=k.eb
 jf:=k.jf
 jo:=k.jo
variable{z:SD}{s:L2.St}
def RepS.growM(r:RepS K B F H z s)(no:∀ (i:Nat) ds,z[i]?≠be (be (.own ds)))(g:GrowM M M' F H F' H'):RepS K B F' H' z s where
 len:=r.len
 val:=λi d e n=>let ⟨v,q1,q2⟩:=r.val i d e n;⟨v,q1,q2.mono g.ff⟩
 own:=λi ds e=>absurd e (no i ds)
 apart:=r.apart
def RepZ.growM(r:RepZ K B F H z s M)(bh:Same B H)(g:GrowM M M' F H F' H')(rm:RepM K F' H' M'):RepZ K B F' H' z s M':=
 ⟨r.rs.growM r.no g,r.no,rm,λa h=>by
  rcases g.ks a h with q|q
  .exact r.mb a q
  .exact bh.free q⟩
def RepZ.set{i:Nat}{d:D}{v:V}(r:RepZ K B F H z s M)(rd:Rep K F d v):RepZ K B F H (z.set i (be d)) (s.set i (be v)) M:=
 ⟨r.rs.set rd,λj ds e=>by
  by_cases hj:i=j
  .subst hj;rw[GN] at e;simp at e;have:=rd.noown;rw[e.2] at this;cases this
  .rw[FM hj] at e;exact r.no j ds e,r.rm,r.mb⟩
class Jm extends Jx where
 RM:SD->MS->XD
abbrev TME:=SD->MS->(D->MS->Prop)->Prop
abbrev TMT:=SD->MS->(Bool->MS->Prop)->Prop
abbrev TMA:=SD->MS->(List D->MS->Prop)->Prop
structure EndsM where
 nx:SD->MS->Prop
 rt:D->MS->Prop
 bk:SD->MS->Prop:=λ_ _=>False
 ct:SD->MS->Prop:=λ_ _=>False
abbrev TMS:=EndsM->SD->MS->Prop
def mE(K:Ex)[J:Jm](t:TME):TE:=λs H Q=>∃ F z M,Kept J.B J.F0 F H/\RepZ K J.B F H z s M/\∃ R:D->MS->Prop,t z M R/\∀ d v M' F' H',GrowM M M' F H F' H'->R d M'->Rep K F' d v->RepM K F' H' M'->Q v H'
def mT(K:Ex)[J:Jm](t:TMT):TT:=λs H Q=>∃ F z M,Kept J.B J.F0 F H/\RepZ K J.B F H z s M/\∃ R:Bool->MS->Prop,t z M R/\∀ b M' F' H',GrowM M M' F H F' H'->R b M'->RepM K F' H' M'->Q b H'
def mA(K:Ex)[J:Jm](t:TMA):TA:=λs H Q=>∃ F z M,Kept J.B J.F0 F H/\RepZ K J.B F H z s M/\∃ R:List D->MS->Prop,t z M R/\∀ ds vs M' F' H',GrowM M M' F H F' H'->R ds M'->Reps K F' ds vs->RepM K F' H' M'->Q vs H'
structure EndsOkM[J:Jm](K:Ex)(F0:Hp)(ED:EndsM)(E:Ends):Prop where
 nx:∀ z' s' M' F' H',Kept J.B F0 F' H'->ED.nx z' M'->RepZ K J.B F' H' z' s' M'->E.nx s' H'
 rt:∀ d v M' F' H',Kept J.B F0 F' H'->ED.rt d M'->Rep K F' d v->RepM K F' H' M'->(∀ a,a∈az M'->J.B a=m9)->E.rt v H'
 bk:∀ z' s' M' F' H',Kept J.B F0 F' H'->ED.bk z' M'->RepZ K J.B F' H' z' s' M'->E.bk s' H'
 ct:∀ z' s' M' F' H',Kept J.B F0 F' H'->ED.ct z' M'->RepZ K J.B F' H' z' s' M'->E.ct s' H'
def mS(K:Ex)[J:Jm](t:TMS):TS:=λE s H=>∃ F0 F z M,Kept J.B F0 F H/\RepZ K J.B F H z s M/\∃ ED:EndsM,t ED z M/\EndsOkM K F0 ED E
structure ME(X:Cx)[Jm](e:RP)(t:TME):Prop where
 out:PE X e (mE X.K t)
structure MT(X:Cx)[Jm](e:RP)(t:TMT):Prop where
 out:PT X e (mT X.K t)
structure MW(X:Cx)[Jm](e:RP)(t:TMT):Prop where
 out:PW X e (mT X.K t)
structure MA(X:Cx)[Jm](es:List RP)(t:TMA):Prop where
 out:PA X es (mA X.K t)
structure MSt(X:Cx)[Jm](st:RO)(t:TMS):Prop where
 out:PS X st (mS X.K t)
structure MSs(X:Cx)[Jm](st:List RO)(t:TMS):Prop where
 out:PSs X st (mS X.K t)
section
variable {X:Cx}{a b c e:RP}{ta tb:TME}{pos:R5}
def mP(t:TD):TME:=λz M R=>t z λd=>R d M
def mPT(t:TDT):TMT:=λz M R=>t z λd=>R d M
def mPA(t:TDA):TMA:=λz M R=>t z λd=>R d M
def ao[J:Jm]{t:TD}(h:WDE X e t):ME X e (mP t):=⟨PE.anti h.out λs H Q q=>by
 obtain⟨F,z,M,k,r,R,h1,h2⟩:=q;exact⟨J.B,F,z,k,r.rs,_,h1,λd v F' H' g hd rd=>h2 d v M F' H' g.toM hd rd (r.rm.grow g)⟩⟩
def cm[J:Jm]{t:TDT}(h:WDT X e t):MT X e (mPT t):=⟨PT.anti h.out λs H Q q=>by
 obtain⟨F,z,M,k,r,R,h1,h2⟩:=q;exact⟨J.B,F,z,k,r.rs,_,h1,λd F' H' g hd=>h2 d M F' H' g.toM hd (r.rm.grow g)⟩⟩
variable{es:List RP}
def aD[J:Jm]{t:TDA}(h:WDA X es t):MA X es (mPA t):=⟨PA.anti h.out λs H Q q=>by
 obtain⟨F,z,M,k,r,R,h1,h2⟩:=q;exact⟨J.B,F,z,k,r.rs,_,h1,λd v F' H' g hd rd=>h2 d v M F' H' g.toM hd rd (r.rm.grow g)⟩⟩
def mOp(r:RD2)(ta tb:TME):TME:=λz M R=>ta z M λx M1=>tb z M1 λy M2=>r x y λd=>R d M2
variable{r:R2}{rd:RD2}
def su[J:Jm]{e:RP}{ta tb:TME}(L:bc X.K r rd)(h:PE X e (tOp r (mE X.K ta) (mE X.K tb))):ME X e (mOp rd ta tb):=⟨h.anti λs H Q q=>by
 obtain⟨F,z,M,k,rs,R,h1,h2⟩:=q;refine⟨F,z,M,k,rs,_,h1,λx u M1 F1 H1 g1 hx rx m1=>?_⟩;refine⟨F1,z,M1,k.growM rs.mb g1,rs.growM k.bh g1 m1,_,hx,λy v M2 F2 H2 g2 hy ry m2=>?_⟩;exact L x y u v F2 H2 _ Q g2.fh hy (rx.mono g2.ff) ry λd w F3 H3 g3 hd rd=>h2 d w M2 F3 H3 ((g1.trans g2).trans g3.toM) hd rd (m2.grow g3)⟩
def sy[J:Jm]{op:Operator}(ho:OpR X (Sd op) r)(L:bc X.K r rd)(ha:ME X a ta)(hb:ME X b tb):ME X (.BinOp a op b pos) (mOp rd ta tb):=su L (qg ho ha.out hb.out)
def sA[J:Jm](ha:ME X a ta)(hb:ME X b tb)(hs:autoParam (dY b) zA6):ME X (.Subscript a b pos) (mOp rdIx ta tb):=su rq (pe_ix qJ ha.out hb.out hs)
def gT[Jm](ha:ME X a ta)(hb:ME X b tb):ME X (.BinOp a .Add b pos) (mOp rdAdd ta tb):=sy ra rb ha hb
def kh[Jm](ha:ME X a ta)(hb:ME X b tb):ME X (.BinOp a .Sub b pos) (mOp rdSub ta tb):=sy qh rg ha hb
def mTst(t:TME):TMT:=λz M R=>t z M λx M1=>match x with| .bl k=>R k M1|_=>False
def gU[J:Jm]{op:TX}(ho:OpR X (R9 op) r)(L:bc X.K r rd)(ha:ME X a ta)(hb:ME X b tb)(hm:Sg op b=false):MT X (.Compare a [op] [b] pos) (mTst (mOp rd ta tb)):=⟨(qo ho ha.out hb.out hm).anti λs H Q q=>by
 obtain⟨F,z,M,k,rs,R,h1,h2⟩:=q;refine⟨F,z,M,k,rs,_,h1,λx u M1 F1 H1 g1 hx rx m1=>?_⟩;refine⟨F1,z,M1,k.growM rs.mb g1,rs.growM k.bh g1 m1,_,hx,λy v M2 F2 H2 g2 hy ry m2=>?_⟩;refine L x y u v F2 H2 _ _ g2.fh hy (rx.mono g2.ff) ry λd w F3 H3 g3 hd rd=>?_;dsimp only at hd;split at hd
 .exact⟨_,rep_bl.mp rd,h2 _ M2 F3 H3 ((g1.trans g2).trans g3.toM) hd (m2.grow g3)⟩
 .exact hd.elim⟩
def sB[Jm](ha:ME X a ta)(hb:ME X b tb):MT X (.Compare a [.Lt] [b] pos) (mTst (mOp rdLt ta tb)):=gU qm rk ha hb (nomark _)
def gW[Jm](ha:ME X a ta)(hb:ME X b tb):MT X (.Compare a [.Eq] [b] pos) (mTst (mOp rdEq ta tb)):=gU jx jJ ha hb (nomark _)
def sC[Jm](ha:ME X a ta)(hb:ME X b tb):MT X (.Compare a [.Is] [b] pos) (mTst (mOp (rdIs id) ta tb)):=gU jy jK ha hb (nomark _)
def zA[Jm](ha:ME X a ta)(hb:ME X b tb)(hm:autoParam (Sg .NotIn b=false) zA0):MT X (.Compare a [.NotIn] [b] pos) (mTst (mOp (rdIn true) ta tb)):=gU zv zu ha hb hm
variable {tA tB:TMT}{rest:List RP}
def mt_w[Jm](h:MW X a tA):MT X a tA:=⟨PW.pt h.out⟩
def zB[Jm](ha:MT X a tA):MW X (.BoolOp .And [a] pos) tA:=⟨pQ ha.out⟩
def zC[Jm](ha:MT X a tA):MW X (.BoolOp .Or [a] pos) tA:=⟨pR ha.out⟩
def mAnd(tA tB:TMT):TMT:=λz M R=>tA z M λk M1=>if k=true then tB z M1 R else R false M1
def mOr(tA tB:TMT):TMT:=λz M R=>tA z M λk M1=>if k=true then R true M1 else tB z M1 R
def zD[J:Jm](ha:MT X a tA)(hb:MW X (.BoolOp .And (b::rest) pos) tB):MW X (.BoolOp .And (a::b::rest) pos) (mAnd tA tB):=⟨(pS ha.out hb.out).anti λs H Q q=>by
 obtain⟨F,z,M,k,rs,R,h1,h2⟩:=q;refine⟨F,z,M,k,rs,_,h1,λx M1 F1 H1 g1 hx m1=>?_⟩;cases x with
 |true=>exact⟨F1,z,M1,k.growM rs.mb g1,rs.growM k.bh g1 m1,R,hx,λy M2 F2 H2 g2 hy m2=>h2 y M2 F2 H2 (g1.trans g2) hy m2⟩
 |false=>exact h2 _ M1 F1 H1 g1 hx m1⟩
def zE[J:Jm](ha:MT X a tA)(hb:MW X (.BoolOp .Or (b::rest) pos) tB):MW X (.BoolOp .Or (a::b::rest) pos) (mOr tA tB):=⟨(pT ha.out hb.out).anti λs H Q q=>by
 obtain⟨F,z,M,k,rs,R,h1,h2⟩:=q;refine⟨F,z,M,k,rs,_,h1,λx M1 F1 H1 g1 hx m1=>?_⟩;cases x with
 |false=>exact⟨F1,z,M1,k.growM rs.mb g1,rs.growM k.bh g1 m1,R,hx,λy M2 F2 H2 g2 hy m2=>h2 y M2 F2 H2 (g1.trans g2) hy m2⟩
 |true=>exact h2 _ M1 F1 H1 g1 hx m1⟩
def mIf(tc:TMT)(ta tb:TME):TME:=λz M R=>tc z M λk M1=>if k=true then ta z M1 R else tb z M1 R
def fP[J:Jm]{tc:TMT}(hc:MT X c tc)(ha:ME X a ta)(hb:ME X b tb):ME X (.IfExp c a b pos) (mIf tc ta tb):=⟨(vO hc.out ha.out hb.out).anti λs H Q q=>by
 obtain⟨F,z,M,k,rs,R,h1,h2⟩:=q;refine⟨F,z,M,k,rs,_,h1,λx M1 F1 H1 g1 hx m1=>?_⟩;cases x with
 |true=>exact⟨F1,z,M1,k.growM rs.mb g1,rs.growM k.bh g1 m1,R,hx,λd v M2 F2 H2 g2 hy rd m2=>h2 d v M2 F2 H2 (g1.trans g2) hy rd m2⟩
 |false=>exact⟨F1,z,M1,k.growM rs.mb g1,rs.growM k.bh g1 m1,R,hx,λd v M2 F2 H2 g2 hy rd m2=>h2 d v M2 F2 H2 (g1.trans g2) hy rd m2⟩⟩
def mNil:TMA:=λ_ M R=>R [] M
def zF(ta:TME)(tr:TMA):TMA:=λz M R=>ta z M λx M1=>tr z M1 λxs M2=>R (x::xs) M2
def bt[J:Jm]:MA X [] mNil:=⟨pa_nil.anti λs H Q q=>by
 obtain⟨F,z,M,k,rs,R,h1,h2⟩:=q;exact h2 [] [] M F H (GrowM.refl k.fh) h1 (reps_nil.mpr rfl) rs.rm⟩
variable{t:TMA}
def aW[J:Jm]{e:RP}{te:TME}(ha:ME X e te)(hr:MA X es t)(hs:autoParam (zSE X e es) zA0):MA X (e::es) (zF te t):=⟨(bx ha.out hr.out hs).anti λs H Q q=>by
 obtain⟨F,z,M,k,rs,R,h1,h2⟩:=q;refine⟨F,z,M,k,rs,_,h1,λx u M1 F1 H1 g1 hx rx m1=>?_⟩;refine⟨F1,z,M1,k.growM rs.mb g1,rs.growM k.bh g1 m1,_,hx,λxs us M2 F2 H2 g2 hy ry m2=>?_⟩;exact h2 _ _ M2 F2 H2 (g1.trans g2) hy (reps_cons.mpr ⟨_,_,rfl,rx.mono g2.ff,ry⟩) m2⟩
def mTup(t:TMA):TME:=λz M R=>t z M λxs M1=>xs.length<=1000/\R (.tup xs) M1
def zG[J:Jm]{x1}(h:MA X es t):ME X (.Tuple es x1 pos) (mTup t):=⟨(qv h.out).anti λs H Q q=>by
 obtain⟨F,z,M,k,rs,R,h1,h2⟩:=q;refine⟨F,z,M,k,rs,_,h1,λds vs M1 F1 H1 g1 hx rx m1=>?_⟩;have hl:=rx.length;refine⟨sz (by rw[hl];exact hx.1),λp hp=>?_⟩;have gn:=Grow.new g1.fh hp (.tup vs);exact h2 _ _ M1 _ _ (g1.trans gn.toM) hx.2 (rep_tupS.mpr ⟨p,vs,rfl,aC,rx.mono (aU (g1.fh.free hp) _)⟩) (m1.grow gn)⟩
def mLst(t:TMA):TME:=λz M R=>t z M λxs M1=>xs.length<=1000/\∀ p,p ∉ az M1->R (.ptr p) ((p,.lst xs)::M1)
def zH[J:Jm](h:MA X es t):ME X (.List es pos) (mLst t):=⟨(jB h.out).anti λs H Q q=>by
 obtain⟨F,z,M,k,rs,R,h1,h2⟩:=q;refine⟨F,z,M,k,rs,_,h1,λds vs M1 F1 H1 g1 hx rx m1=>?_⟩;have hl:=rx.length;refine⟨sz (by rw[hl];exact hx.1),λp hp=>?_⟩;exact h2 _ _ _ F1 _ (g1.trans (GrowM.new g1.fh hp)) (hx.2 p λz=>m1.here z hp) (rep_ptr.mpr rfl) (m1.new g1.fh hp ⟨vs,aC,rx⟩)⟩
def mCB(r:RDn)(t:TMA):TME:=λz M R=>t z M λds M1=>r ds λd=>R d M1
variable{x:D'}{p:R5}
def zI[J:Jm]{e:RP}{id:String}{r:List V->Hp->VK->Prop}{rd:RDn}(hc:bE X (.builtin id) r)(L:cu X.K r rd)(hm:X.mg x=m9)(hv:R_ x=be (.builtin id))(ha:MA X (e::es) t)(hg:autoParam (Gl X x) zA0)(hn:autoParam (x≠"__name__") zA1)(d7:autoParam (zND x) zA1)
  (he:autoParam (zSE X e es) zA0) (c7:autoParam (zPL X pos es) zA0):ME X (.Call (.Name x p) (e::es) [] pos) (mCB rd t):=⟨(gy hc hg hm hv ha.out hn d7 he c7).anti λs H Q h=>by
 obtain⟨F,z,M,k,rs,R,h1,h2⟩:=h;refine⟨F,z,M,k,rs,_,h1,λds vs M1 F1 H1 g1 hx rx m1=>?_⟩;exact L ds vs F1 H1 _ Q g1.fh hx rx λd w F' H' g hd rd=>h2 d w M1 F' H' (g1.trans g.toM) hd rd (m1.grow g)⟩
def sE[Jm]{e:RP}(hm:X.mg "len"=m9)(ha:MA X [e] t)(hg:autoParam (Gl X "len") zA0)(he:autoParam (zSE X e []) zA0):ME X (.Call (.Name "len" p) [e] [] pos) (mCB rdLen t):=zI jz rA hm PySem.boot_len ha hg (by decide) (by decide) he
def zJ[J:Jm]{e:RP}{T:String}{r:List V->Hp->VK->Prop}{rd:RDn}(hc:bE X (.type T) r)(L:cu X.K r rd)(hm:X.mg x=m9)(hv:R_ x=be (.type T))(ha:MA X (e::es) t)(hg:autoParam (Gl X x) zA0)(hn:autoParam (x≠"__name__") zA1)(d7:autoParam (zND x) zA1)
  (he:autoParam (zSE X e es) zA0) (c7:autoParam (zPL X pos es) zA0):ME X (.Call (.Name x p) (e::es) [] pos) (mCB rd t):=⟨(jD hc hg hm hv ha.out hn d7 he c7).anti λs H Q h=>by
 obtain⟨F,z,M,k,rs,R,h1,h2⟩:=h;refine⟨F,z,M,k,rs,_,h1,λds vs M1 F1 H1 g1 hx rx m1=>?_⟩;exact L ds vs F1 H1 _ Q g1.fh hx rx λd w F' H' g hd rd=>h2 d w M1 F' H' (g1.trans g.toM) hd rd (m1.grow g)⟩
def sF[Jm](hm:X.mg "int"=m9)(ha:MA X [e] t)(hg:autoParam (Gl X "int") zA0)(he:autoParam (zSE X e []) zA0):ME X (.Call (.Name "int" p) [e] [] pos) (mCB rdInt t):=zJ rD rE hm PyProof.Rows.boot_int ha hg (by decide) (by decide) he
def eU(M:MS)(d:D)(x:D')(fs:List (D' × D)):Prop:=match d with| .ptr a=>mget M a=be (.ins x fs)| .obj y gs=>y=x/\gs=fs|_=>False
def mFld(x f:D')(te:TME):TME:=λz M R=>te z M λd M1=>∃ fs,eU M1 d x fs/\∃ d',fs.lookup f=be d'/\R d' M1
def ki{K:Ex}{F H:Hp}{M:MS}{d:D}{v:V}{fs:List (D' × D)}(fh:Same F H)(rm:RepM K F H M)(rd:Rep K F d v)(h:eU M d x fs):∃ a C dx ws,v= .ref a/\nsIn K Pi x=be (be (.ref C))/\H a=be (.ins C dx ws)/\RepF K F fs ws:=by
 unfold eU at h;split at h
 .rename_i a;obtain⟨C,dx,ws,n,h1,h2⟩:=rm.ok _ _ (bT h);exact⟨a,C,dx,ws,rep_ptr.mp rd,n,h1,h2⟩
 .obtain⟨rfl,rfl⟩:=h;obtain⟨a,C,dx,ws,e,n,h1,h2⟩:=rep_obj.mp rd;exact⟨a,C,dx,ws,e,n,fh _ _ h1,h2⟩
 .exact h.elim
def aO[J:Jm]{f:D'}(hA:ClsA X.K x f)(he:ME X e ta)(hb:autoParam (RZ e f X.env (R1 e X.env)=R1 e X.env) zA0):ME X (.Attribute e f pos) (mFld x f ta):=⟨(qt he.out hb).anti λs H Q q=>by
 obtain⟨C,hn,hc,hf⟩:=hA;obtain⟨F,z,M,k,rs,R,h1,h2⟩:=q;refine⟨F,z,M,k,rs,_,h1,λd u M1 F1 H1 g1 hx rx m1=>?_⟩;obtain⟨fs,hi,d',hl,hR⟩:=hx;obtain⟨a,C',dx,ws,rfl,k8,hH,rf⟩:=ki g1.fh m1 rx hi;rw[hn] at k8;cases k8;obtain⟨v,l,rv⟩:=rf.look hl;exact⟨a,C,dx,ws,v,rfl,hH,hc,hf,l,h2 d' v M1 F1 H1 g1 hR rv m1⟩⟩
end
abbrev XDM:=D'->List (D' × D)->MS->Prop
abbrev SpM:=List D->MS->(D->MS->Prop)->XDM->Prop
def lSpM(K:Ex)(S:SpM):Sp:=λvs H Q E=>∃ F ds M,Same F H/\Reps K F ds vs/\RepM K F H M/\∃ (R:D->MS->Prop) (RX:XDM),S ds M R RX/\(∀ d v M' F' H',GrowM M M' F H F' H'->R d M'->Rep K F' d v->RepM K F' H' M'->Q v H')/\
 ∀ x fs C od M' F' H',GrowM M M' F H F' H'->RX x fs M'->ErrD K F' x fs C od->RepM K F' H' M'->E (.ref C) od H'
abbrev CalMM(P:P3)(w:RT)(K:Ex)(mg:D'->Option KB)(base:Heap)(n:Nat)(x:D')(ps:List D')(S:SpM):Prop:=Cal P w K mg base n x ps (lSpM K S)
def ofX(S:SpX):SpM:=λds M R RX=>S ds (λd=>R d M) λx fs=>RX x fs M
def ofD(S:SpD):SpM:=λds M R _=>S ds λd=>R d M
variable{vs:List V}
def zK{S:SpX}{Q:VK}{E:XK}(h:lSpM K (ofX S) vs H Q E):lSpX K S vs H Q E:=by
 obtain⟨F,ds,M,fh,rs,rm,R,RX,hS,q,qx⟩:=h;exact⟨F,ds,fh,rs,_,_,hS,λd v F' H' g hd rd=>q d v M F' H' g.toM hd rd (rm.grow g),λx fs C od F' H' g hR er=>qx x fs C od M F' H' g.toM hR er (rm.grow g)⟩
def zL{S:SpD}{Q:VK}{E:XK}(h:lSpM K (ofD S) vs H Q E):lSp K S vs H Q E:=by
 obtain⟨F,ds,M,fh,rs,rm,R,RX,hS,q,qx⟩:=h;exact⟨F,ds,fh,rs,_,hS,λd v F' H' g hd rd=>q d v M F' H' g.toM hd rd (rm.grow g)⟩
section
variable {P:P3}{w:RT}{K:Ex}{mg:D'->Option KB}{base:Heap}{n:Nat}{x:D'}{ps:List D'}
def CalX.toM{S:SpX}(C:CalX P w K mg base n x ps S):CalMM P w K mg base n x ps (ofX S):=by
 obtain⟨f,fd,F,hb,hk,hm⟩:=C;exact⟨f,fd,F.imp λvs H Q E h=>zK h,hb,hk,hm⟩
def CalD.toM{S:SpD}(C:CalD P w K mg base n x ps S):CalMM P w K mg base n x ps (ofD S):=by
 obtain⟨f,fd,F,hb,hk,hm⟩:=C;exact⟨f,fd,F.imp λvs H Q E h=>zL h,hb,hk,hm⟩
def CalMth(P:P3)(w:RT)(K:Ex)(mg:D'->Option KB)(base:Heap)(n:Nat)(x m:D')(ps:List D')(sp:Sp):Prop:=
 ∃ C f fd,nsIn K Pi x=be (be (.ref C))/\Cls K C/\Meth K C m f/\FnOk P w K mg base (CX1 P w) n f fd ps sp/\Binds K fd ps []
variable{sp:Sp}
def Cal.mono{n':Nat}(h:Cal P w K mg base n x ps sp)(hn:n<=n'):Cal P w K mg base n' x ps sp:=by
 obtain⟨f,fd,F,h⟩:=h;exact⟨f,fd,F.mono hn,h⟩
def Cal.imp{Jf:Sp}(h:Cal P w K mg base n x ps sp)(i:∀ vs H Q E,Jf vs H Q E->sp vs H Q E):Cal P w K mg base n x ps Jf:=by
 obtain⟨f,fd,F,h⟩:=h;exact⟨f,fd,F.imp i,h⟩
def CalMth.imp{m:D'}{Jf:Sp}(h:CalMth P w K mg base n x m ps sp)(i:∀ vs H Q E,Jf vs H Q E->sp vs H Q E):CalMth P w K mg base n x m ps Jf:=by
 obtain⟨C,f,fd,h1,h2,h3,h4,h5⟩:=h;exact⟨C,f,fd,h1,h2,h3,h4.imp i,h5⟩
end
def XOkM(X:Cx)[J:Jm]:Prop:=∀ (σ:L2.St) (z:SD) (M:MS) (F H:Hp) (s:KM) (e C:KF) (od:Option KF) (x:D') (fs:List (D' × D)),Inv X [] σ H s->Kept J.B J.F0 F H->RepZ X.K J.B F H z σ M->J.RM z M x fs->ErrD X.K F x fs C od->Exd X H s e C od->X.xe (.ref e) s
def EX(X:Cx)[J:Jm](z:SD)(σ:L2.St):XK:=λCv od H'=>∃ x fs C M' F',Cv= .ref C/\Kept J.B J.F0 F' H'/\RepZ X.K J.B F' H' z σ M'/\J.RM z M' x fs/\ErrD X.K F' x fs C od
def XOkM.out{X:Cx}[J:Jm](hx:XOkM X)(hex:X.ex=[]){pins:List (KF × R')}{σ:L2.St}{s s':KM}{ev:KB}(I:Inv X pins σ H s)
  (h:CX1 X.prog X.w X.stack H s (EX X z σ) ev s'):X.xe ev s':=by
 obtain⟨e,C,od,T,H',rfl,D_,hb,un,hok,MN,ne,nT,He,HT,x,fs,C',M',F',hC,kk,rr,hR,er⟩:=h;cases hC;have I':Inv X pins σ H' s':=I.call' D_ un hok hb (λb z=>absurd z (by simp));exact hx σ z M' F' H' s' e C od x fs (Inv.nopins I') kk rr hR er ⟨He,cE I hex ne,pn_free I ne,.inr ⟨T,MN,cE I hex nT,HT,pn_free I nT⟩⟩
section
variable {X:Cx}[J:Jm]{a b c e o:RP}{ta tb te:TME}{pos p apos cpos:R5}{n m:Nat}{ps:List D'}{S:SpM}{x:D'}{es:List RP}{t:TMA}
def zM(S:SpM)(t:TMA):TME:=λz M R=>t z M λds M1=>S ds M1 R λx fs M'=>J.RM z M' x fs
variable{ds:List D}{vs:List V}
def kj{σ:L2.St}{z:SD}{M M1:MS}{F H F1 H1:Hp}{Q:VK}{R:D->MS->Prop}(k:Kept J.B J.F0 F H)(rs:RepZ X.K J.B F H z σ M)(g1:GrowM M M1 F H F1 H1)(m1:RepM X.K F1 H1 M1)(rx:Reps X.K F1 ds vs)
  (hS:S ds M1 R λx fs M'=>J.RM z M' x fs) (h2:∀ d v M' F' H',GrowM M M' F H F' H'->R d M'->Rep X.K F' d v->RepM X.K F' H' M'->Q v H'):lSpM X.K S vs H1 Q (EX X z σ):=
 ⟨F1,ds,M1,g1.fh,rx,m1,R,_,hS,λd v M' F' H' g hd rd m'=>h2 d v M' F' H' (g1.trans g) hd rd m',λy fs C od M' F' H' g hR er m'=>⟨y,fs,C,M',F',rfl,(k.growM rs.mb g1).growM (rs.growM k.bh g1 m1).mb g,(rs.growM k.bh g1 m1).growM (k.growM rs.mb g1).bh g m',hR,er⟩⟩
def bg(C:CalMM X.prog X.w X.K X.mg X.base n x ps S)(hx:XOkM X)(hr:Room m X.A)(ha:MA X (e::es) t)(hex:autoParam (X.ex=[]) zA0)(hg:autoParam (Gl X x) zA0)(hn:autoParam (n<=m) zA1)(d7:autoParam (zND x) zA1)
  (he:autoParam (zSE X e es) zA0) (c7:autoParam (zPL X pos es) zA0):
  ME X (.Call (.Name x p) (e::es) [] pos) (zM S t):=by
 obtain⟨f,fd,F,hb,hk,hm⟩:=C;refine⟨λpins s σ H Q I h=>?_⟩;obtain⟨Fr,z,M,k,rs,R,h1,h2⟩:=h;refine R4 (cA I hg hm ?_ d7);refine callWith_K (h₀:=X.base) I.ok.mod.kin hk (thn (ha.out pos pins s σ H (λvs H1=>lSpM X.K S vs H1 Q (EX X z σ)) I ⟨Fr,z,M,k,rs,_,h1,λds vs M1 F1 H1 g1 hx rx m1=>kj k rs g1 m1 rx hx h2⟩) λus s1 hh=>⟨hh.elim λ_ h=>h.elim λ_ h=>h.1.kIn,?_⟩) he c7;obtain⟨vs,H1,I1,r,q⟩:=hh;exact gQ F (hr.mono hn) hb (λe s' hq=>hx.out hex I1 hq) I1 r q
def sG(cs:List D')(m:D')(S:D'->SpM)(to:TME)(t:TMA):TME:=λz M R=>to z M λd M1=>∃ x,x∈cs/\∃ fs,eU M1 d x fs/\fs.lookup m=m9/\t z M1 λds M2=>S x (d::ds) M2 R λx fs M'=>J.RM z M' x fs
variable{cs:List D'}{pl:Tq Bool}
def bb{nm:D'}{S:D'->SpM}(C:∀ x,x∈cs->CalMth X.prog X.w X.K X.mg X.base n x nm ps (lSpM X.K (S x)))(hx:XOkM X)(hr:Room m X.A)(ho:ME X o te)(ha:MA X (e::es) t)(hex:autoParam (X.ex=[]) zA0)(hn:autoParam (n<=m) zA1)
  (l_:autoParam (zSE X e es) zA0) (c7:autoParam (zPL X pos es) zA0)
  (ht:R1 (.Call (.Attribute o nm apos) (e::es) [] pos) X.env=(do
   let ov <- R1 o X.env
   SM apos.atName
   let (f,first) <- Sz [ov] (S4 ov nm pl)
   callWith pos f first (Sw pos (RV (e::es) X.env)) (SV pos (Ss [] X.env))):=by rfl):
  ME X (.Call (.Attribute o nm apos) (e::es) [] pos) (sG cs nm S te t):=by
 refine⟨λpins s σ H Q I h=>?_⟩;obtain⟨Fr,z,M,k,rs,R,h1,h2⟩:=h;refine methodCall_KW (pl:=pl) (thn (ho.out pins s σ H (λv H1=>∃ d M1 F1,GrowM M M1 Fr H F1 H1/\Rep X.K F1 d v/\RepM X.K F1 H1 M1/\∃ x,x∈cs/\∃ fs,eU M1 d x fs/\fs.lookup nm=m9/\t z M1 λds M2=>S x (d::ds) M2 R λx fs M'=>J.RM z M' x fs) I ⟨Fr,z,M,k,rs,_,h1,λd v M1 F1 H1 g1 hd rd m1=>⟨d,M1,F1,g1,rd,m1,hd⟩⟩) λu s1 hh=>?_) ht;obtain⟨v,H1,I1,rv,d,M1,F1,g1,rd,m1,x,MU,fs,hi,hl,hq⟩:=hh;obtain⟨C',f,fd,hns,j8,K6,F,hb⟩:=C x MU;obtain⟨a,C2,dx,ws,rfl,w_,hH,rf⟩:=ki g1.fh m1 rd hi;rw[hns] at w_;cases w_;obtain rfl:u=Value.ref a:=rv;refine qr I1 hH j8 K6 (rf.none hl) ?_;refine callWith_K (first:=[.ref a]) (h₀:=X.base) I.ok.mod.kin K6.kp (thn (ha.out pos pins s1 σ H1 (λvs H2=>lSpM X.K (S x) (.ref a::vs) H2 Q (EX X z σ)) I1 ⟨F1,z,M1,k.growM rs.mb g1,rs.growM k.bh g1 m1,_,hq,λds vs M2 F2 H2 g2 hx rx m2=>kj k rs (g1.trans g2) m2 (reps_cons.mpr ⟨_,_,rfl,rd.mono g2.ff,rx⟩) hx h2⟩) λus s2 hh=>⟨hh.elim λ_ h=>h.elim λ_ h=>h.1.kIn,?_⟩) l_ c7;obtain⟨vs,H2,I2,r,q2⟩:=hh;exact gQ (us:= .ref a::us) (vs:= .ref a::vs) F (hr.mono hn) hb (λe s' hq=>hx.out hex I2 hq) I2 (.cons rfl r) q2
def dJ{nm:D'}{S:D'->SpM}(C:∀ x,x∈cs->CalMth X.prog X.w X.K X.mg X.base n x nm ps (lSpM X.K (S x)))(hx:XOkM X)(hr:Room m X.A)(ho:ME X o te)(hex:autoParam (X.ex=[]) zA0)(hn:autoParam (n<=m) zA1)
  (ht:R1 (.Call (.Attribute o nm apos) [] [] pos) X.env=(do
   let ov <- R1 o X.env
   SM apos.atName
   let (f,first) <- Sz [ov] (S4 ov nm pl)
   callWith pos f first (Sw pos (RV [] X.env)) (SV pos (Ss [] X.env))):=by rfl):
  ME X (.Call (.Attribute o nm apos) [] [] pos) (sG cs nm S te mNil):=by
 refine⟨λpins s σ H Q I h=>?_⟩;obtain⟨Fr,z,M,k,rs,R,h1,h2⟩:=h;refine methodCall_KW (pl:=pl) (thn (ho.out pins s σ H (λv H1=>∃ d M1 F1,GrowM M M1 Fr H F1 H1/\Rep X.K F1 d v/\RepM X.K F1 H1 M1/\∃ x,x∈cs/\∃ fs,eU M1 d x fs/\fs.lookup nm=m9/\S x [d] M1 R λx fs M'=>J.RM z M' x fs) I ⟨Fr,z,M,k,rs,_,h1,λd v M1 F1 H1 g1 hd rd m1=>⟨d,M1,F1,g1,rd,m1,hd⟩⟩) λu s1 hh=>?_) ht;obtain⟨v,H1,I1,rv,d,M1,F1,g1,rd,m1,x,MU,fs,hi,hl,hq⟩:=hh;obtain⟨C',f,fd,hns,j8,K6,F,hb⟩:=C x MU;obtain⟨a,C2,dx,ws,rfl,w_,hH,rf⟩:=ki g1.fh m1 rd hi;rw[hns] at w_;cases w_;obtain rfl:u=Value.ref a:=rv;refine qr I1 hH j8 K6 (rf.none hl) ?_;refine callWith_K0 (first:=[.ref a]) I1.kIn K6.kp (gQ (E:=EX X z σ) (us:=[.ref a]) (vs:=[.ref a]) F (hr.mono hn) hb (λe s' hq=>hx.out hex I1 hq) I1 (.cons rfl .nil) ?_);exact kj k rs g1 m1 (eL rd) hq h2
def make_of{C:KF}{S:SiD}{x:D'}{σ:L2.St}{z:SD}{M M1:MS}{F H F1 H1:Hp}{a dx:KF}{Q:VK}{E:XK}{T:List (D' × D)->Prop}(g1:GrowM M M1 F H F1 H1)(m1:RepM X.K F1 H1 M1)(rx:Reps X.K F1 ds vs)(hS:S ds T)
  (ha:H1 a=m9) (v9:H1 dx=m9) (j3:dx≠a) (q:∀ fs ws dx F' H',Grow F1 H1 F' H'->T fs->H' a=be (.ins C dx ws)->F' a=m9->RepF X.K F' fs ws->Q (.ref a) H'):
  lSi X.K C S (.ref a::(vs++[])) (upd (upd H1 dx (.own a)) a (.ins C dx [])) (λv H2=>v= .non/\Q (.ref a) H2) E:=
 ⟨a,dx,vs,H1,F1,ds,by rw[F7],rfl,ha,v9,j3,g1.fh,rx,_,hS,λfs ws IN F' H' g hR f7 i7 rf=>⟨rfl,q fs ws IN F' H' g hR f7 i7 rf⟩⟩
def zN(x:D')(S:SiD)(t:TMA):TME:=λz M R=>t z M λds M1=>S ds λfs=>R (.obj x fs) M1
def gX{S:SiD}(M:CalM X.prog X.w X.K X.mg X.base n x ps S)(hr:Room m X.A)(ha:MA X (e::es) t)(hg:autoParam (Gl X x) zA0)(hn:autoParam (n+1<=m) zA1)(d7:autoParam (zND x) zA1)
  (he:autoParam (zSE X e es) zA0) (c7:autoParam (zPL X pos es) zA0):
  ME X (.Call (.Name x p) (e::es) [] pos) (zN x S t):=by
 obtain⟨C,f,fd,hns,m5,mk,F,hb⟩:=M;refine⟨(jC mk F (hr.mono hn) hg m5 hb .nil fG ha.out d7 he c7).anti λs H Q q=>?_⟩;obtain⟨F,z,M,k,rs,R,h1,h2⟩:=q;refine⟨F,z,M,k,rs,_,h1,λds vs M1 F1 H1 g1 hx rx m1=>?_⟩;intro a dx ha v9 j3;refine make_of (σ:=s) (z:=z) (x:=x) g1 m1 rx hx ha v9 j3 λfs ws dx F' H' g hR f7 i7 rf=>?_;have s1:Same F' (upd F' a (.ins C dx ws)):=aU i7 _;have g2:Grow F1 H1 (upd F' a (.ins C dx ws)) H':=⟨g.ff.trans s1,λb o q=>by
  by_cases hb:b=a
  .subst hb;rw[aC] at q;cases q;exact f7
  .rw[au hb] at q;exact g.fh b o q,g.hh,λb q1 q2=>by
  by_cases hb:b=a
  .subst hb;exact absurd ha q2
  .rw[au hb];exact g.out b q1 q2⟩
 exact h2 (.obj x fs) (.ref a) M1 (upd F' a (.ins C dx ws)) H' (g1.trans g2.toM) hR (rep_obj.mpr ⟨a,C,dx,ws,rfl,hns,aC,RepF.mono s1 fs ws rf⟩) (m1.grow g2)
def zO(x:D')(S:SiD)(t:TMA):TME:=λz M R=>t z M λds M1=>S ds λfs=>∀ a,a ∉ az M1->R (.ptr a) ((a,.ins x fs)::M1)
def zP{S:SiD}(M:CalM X.prog X.w X.K X.mg X.base n x ps S)(hr:Room m X.A)(ha:MA X (e::es) t)(hg:autoParam (Gl X x) zA0)(hn:autoParam (n+1<=m) zA1)(d7:autoParam (zND x) zA1)
  (he:autoParam (zSE X e es) zA0) (c7:autoParam (zPL X pos es) zA0):
  ME X (.Call (.Name x p) (e::es) [] pos) (zO x S t):=by
 obtain⟨C,f,fd,hns,m5,mk,F,hb⟩:=M;refine⟨(jC mk F (hr.mono hn) hg m5 hb .nil fG ha.out d7 he c7).anti λs H Q q=>?_⟩;obtain⟨F,z,M,k,rs,R,h1,h2⟩:=q;refine⟨F,z,M,k,rs,_,h1,λds vs M1 F1 H1 g1 hx rx m1=>?_⟩;intro a dx ha v9 j3;refine make_of (σ:=s) (z:=z) (x:=x) g1 m1 rx hx ha v9 j3 λfs ws dx F' H' g hR f7 i7 rf=>?_;have na:a ∉ az M1:=λz=>m1.here z ha;have m2:=m1.grow g;refine h2 (.ptr a) (.ref a) _ F' H' (g1.trans ⟨g.ff,g.fh,λb o _ q=>g.hh b o q,λb _ q1 q2=>g.out b q1 q2,λb q=>?_⟩) (hR a na) (rep_ptr.mpr rfl) ⟨Gf.mpr ⟨na,m2.nd⟩,λb o q=>?_,λb q=>?_⟩
 .rcases Fp.mp q with q|q
  .exact .inr (by rw[q];exact ha)
  .exact .inl q
 .rcases Fp.mp q with q|q
  .cases q;exact⟨C,dx,ws,hns,f7,rf⟩
  .exact m2.ok b o q
 .rcases Fp.mp q with q|q
  .rw[q];exact i7
  .exact m2.fr b q
end
section
variable {X:Cx}{x:D'}{e:RP}{es:List RP}{t:TA}{p cpos pos:R5}{n m:Nat}{ps:List D'}{S:SiD}
def gY(X:Cx)(σ:L2.St)(F1 H1:Hp)(x:D')(fs:List (D' × D)):Prop:=∀ F' H' s' e C od,Inv X [] σ H' s'->Grow F1 H1 F' H'->ErrD X.K F' x fs C od->Exd X H' s' e C od->X.xe (.ref e) s'
def zQ(M:CalE X.prog X.w X.K X.mg X.base n x ps S)(hr:Room m X.A)(hc:X.calm=true)(ha:PA X (e::es) t)(hex:autoParam (X.ex=[]) zA0)(hg:autoParam (Gl X x) zA0)(hn:autoParam (n+1<=m) zA1)(d7:autoParam (zND x) zA1)
  (he:autoParam (zSE X e es) zA0) (c7:autoParam (zPL X cpos es) zA0):
  PS X (.Raise (be (.Call (.Name x p) (e::es) [] cpos)) m9 pos) (λ_ σ H=>t σ H λvs H1=>vs.length<=1000/\∃ F1 ds,Same F1 H1/\Reps X.K F1 ds vs/\∃ T:List (D' × D)->Prop,S ds T/\∀ fs,T fs->gY X σ F1 H1 x fs):=by
 obtain⟨C,N,bm,f,fd,k,hi,Ks,Fn,hb⟩:=M;intro pins s σ H D I h;obtain⟨nm,q,bs,sn,sub,ab,col,dd,k0,k1,k2,k3,k5,lk⟩:=k.obj;refine jH (nm:=nm) (q:=q) (C:=C) (N:=N) (bs:=bs) (bm:=bm) (hdct:=true) (sn:=sn) (sub:=sub) (ab:=ab) (col:=col) (dd:=dd) (k0:=k0) (k1:=k1) (k2:=k2) (k3:=k3) (k5:=k5) (newId:="ValueError.__new__") k.base (I.ok.hd hc) ?_;refine R4 (cA I hg k.mg ?_ d7);refine callWith_K (h₀:=X.base) I.ok.mod.kin k.kp (thn (ha cpos pins s σ H _ I h) λus s1 hh=>⟨hh.elim λ_ h=>h.elim λ_ h=>h.1.kIn,?_⟩) he c7;obtain⟨vs,H1,I1,r,hl,F1,ds,MV,rx,T,hS,hT⟩:=hh;have hC:=I1.kIn _ _ lk;have Ql:us.length<=sizeLine:=by rw[<- L2.Vals.length r];exact sz hl
 refine xO (g:=s1.gens) (d:=s1.drawn) (t:=s1.toks) (os:=s1.os) (rest:=us) I1.kIn (tail_of_in I1.kIn k.tail) hC hi (beq_iff_eq.mp Ks) (λh' ea hm=>?_) Ql;have I2:=Inv.newx I1 hex hm;have r2:Vals (V.ref ea::vs) (Value.ref ea::us):= .cons rfl r;have He:H1 ea=none:=fN I1.hok hm.new;have t5:lEi X.K C S (V.ref ea::vs) (upd H1 ea (XN ea C m9)) (λv H'=>v= .non/\∃ fs od F',Grow F1 H1 F' H'/\gY X σ F1 H1 x fs/\H' ea=be (XN ea C od)/\F' ea=m9/\ErrF X.K F' fs od) (λ_ _ _=>False):=
  ⟨ea,vs,H1,F1,ds,rfl,rfl,He,MV,rx,_,hS,λfs od F' H' g hR h1 h2 h3=>⟨rfl,fs,od,F',g,hT fs hR,h1,h2,h3⟩⟩
 have a_:(Value.ref ea::us).length=ps.length:=by rw[<- L2.Vals.length r2];exact Fn.len _ _ _ _ t5
 have i6:=hb {s1 with heap:=h'} (Value.ref ea::us) I2.kIn (by rw[F7];exact a_);rw[F7] at i6;refine SL (SA (Fn.run _ X.stack _ _ ⟨Value.ref ea::us,[]⟩ (Value.ref ea::us) _ _ _ ((hr.mono hn).make C us []) (I2.env0.make C us []) i6 r2 t5) λrr s' hq=>?_);cases rr with
 |error e'=>exact(fG (X:=X) pins σ _ _ e' s' I2 hq:X.xe e' s')
 |ok fl=>
  cases fl with
  |next=>exact False.elim hq
  |brk=>exact False.elim hq
  |cont=>exact False.elim hq
  |ret u=>
   obtain⟨v,H',I3,rv,rfl,fs,od,F',g,hR,v_,Qm,er⟩:=I2.after hq;obtain rfl:u=Value.none:=rv;refine⟨rfl,?_⟩;have e0:X.s₀.heap.get? ea=none:=cE I1 hex hm.new;have I4:=Inv.drop I3 v_ e0;obtain⟨ta,sl,o9⟩:=XN.get I3.hok v_;have g4:Grow F1 H1 F' (del H' ea):=⟨g.ff,λb o q=>by
    have:b≠ea:=λz=>by rw[z,Qm] at q;cases q
    rw[ck this];exact g.fh b o q,λb o q=>by
    have:b≠ea:=λz=>by rw[z,He] at q;cases q
    rw[ck this];exact g.hh b o q,g.out⟩
   refine⟨ea,ta,od,sl,rfl,I3.kIn _ _ lk,o9,?_⟩;exact hR F' (del H' ea) s' ea C od (Inv.nopins I4) g4 ⟨k.ns,er⟩ ⟨fO,e0,pn_free I1 hm.new,.inl ⟨sl,_,o9,rfl⟩⟩
def zR(h:∃ C N bm,ErrK X.K X.mg x C N bm/\ErrN X.K N)(hc:X.calm=true)(ha:PA X (e::es) t)(hex:autoParam (X.ex=[]) zA0)(hg:autoParam (Gl X x) zA0)(d7:autoParam (zND x) zA1)
  (he:autoParam (zSE X e es) zA0) (c7:autoParam (zPL X cpos es) zA0):
  PS X (.Raise (be (.Call (.Name x p) (e::es) [] cpos)) m9 pos) (λ_ σ H=>t σ H λvs H1=>vs.length<=1000/\∃ F1,Same F1 H1/\gY X σ F1 H1 x []):=by
 obtain⟨C,N,bm,k,kn⟩:=h;intro pins s σ H D I h;obtain⟨nm,q,bs,sn,sub,ab,col,dd,k0,k1,k2,k3,k5,lk⟩:=k.obj;refine jH (nm:=nm) (q:=q) (C:=C) (N:=N) (bs:=bs) (bm:=bm) (hdct:=true) (sn:=sn) (sub:=sub) (ab:=ab) (col:=col) (dd:=dd) (k0:=k0) (k1:=k1) (k2:=k2) (k3:=k3) (k5:=k5) (newId:="ValueError.__new__") k.base (I.ok.hd hc) ?_;refine R4 (cA I hg k.mg ?_ d7);refine callWith_K (h₀:=X.base) I.ok.mod.kin k.kp (thn (ha cpos pins s σ H _ I h) λus s1 hh=>⟨hh.elim λ_ h=>h.elim λ_ h=>h.1.kIn,?_⟩) he c7;obtain⟨vs,H1,I1,r,hl,F1,MV,hR⟩:=hh;have hC:=I1.kIn _ _ lk;obtain⟨hp,gg,dr,tk,os⟩:=s1;refine Tz PySem.F.excBase_ValueError (tail_of_in I1.kIn k.tail) hC (.of_isNs (isNs_of_in I1.kIn kn.ok)) (nsMap_none_of_in I1.kIn kn.ok kn.no) (λh' ea hm=>?_) (by show us.length<=_;rw[<- L2.Vals.length r];exact sz hl);obtain⟨ta,h1,h2,h3⟩:=hm.there;have I2:Inv X pins σ H1 ⟨h',gg,dr,tk,os⟩:=I1.kept (t':=tk) hm.keeps;refine⟨ea,ta,m9,#[],rfl,hm.keeps _ _ hC,h1,?_⟩;exact hR F1 H1 _ ea C m9 (Inv.nopins I2) (Grow.refl MV) ⟨k.ns,[],repf_nil.mpr rfl,.inl ⟨rfl,rfl⟩⟩ ⟨fN I1.hok hm.new,cE I1 hex hm.new,pn_free I1 hm.new,.inl ⟨#[],_,h1,rfl⟩⟩
end
section
variable {X:Cx}[J:Jm]{x:D'}{e:RP}{es:List RP}{t:TMA}{p cpos pos:R5}{n m:Nat}{ps:List D'}{S:SiD}
def zS(x:D')(S:SiD)(t:TMA):TMS:=λ_ z M=>t z M λds M1=>ds.length<=1000/\S ds λfs=>J.RM z M1 x fs
def sH{σ:L2.St}{z:SD}{M M1:MS}{F H F1 H1:Hp}{fs:List (D' × D)}(hx:XOkM X)(k:Kept J.B J.F0 F H)(rs:RepZ X.K J.B F H z σ M)(g1:GrowM M M1 F H F1 H1)(m1:RepM X.K F1 H1 M1)(hR:J.RM z M1 x fs):gY X σ F1 H1 x fs:=λF' H' s' e C od I g er ex=>
 hx σ z M1 F' H' s' e C od x fs I ((k.growM rs.mb g1).grow g) ((rs.growM k.bh g1 m1).growM (k.growM rs.mb g1).bh g.toM (m1.grow g)) hR er ex
def km(M:CalE X.prog X.w X.K X.mg X.base n x ps S)(hr:Room m X.A)(hx:XOkM X)(hc:X.calm=true)(ha:MA X (e::es) t)(hex:autoParam (X.ex=[]) zA0)(hg:autoParam (Gl X x) zA0)(hn:autoParam (n+1<=m) zA1)(d7:autoParam (zND x) zA1)
  (he:autoParam (zSE X e es) zA0) (c7:autoParam (zPL X cpos es) zA0):
  MSt X (.Raise (be (.Call (.Name x p) (e::es) [] cpos)) m9 pos) (zS x S t):=⟨(zQ M hr hc ha.out hex hg hn d7 he c7).anti λE s H q=>by
 obtain⟨F0,F,z,M,k,rs,ED,h,ee⟩:=q;exact⟨F,z,M,k.kf,rs,_,h,λds vs M1 F1 H1 g1 gV rx m1=>⟨by rw[rx.length];exact gV.1,F1,ds,g1.fh,rx,_,gV.2,λfs hR=>sH hx k.kf rs g1 m1 hR⟩⟩⟩
def zT(x:D')(t:TMA):TMS:=λ_ z M=>t z M λds M1=>ds.length<=1000/\J.RM z M1 x []
def zU(h:∃ C N bm,ErrK X.K X.mg x C N bm/\ErrN X.K N)(hx:XOkM X)(hc:X.calm=true)(ha:MA X (e::es) t)(hex:autoParam (X.ex=[]) zA0)(hg:autoParam (Gl X x) zA0)(d7:autoParam (zND x) zA1)
  (he:autoParam (zSE X e es) zA0) (c7:autoParam (zPL X cpos es) zA0):
  MSt X (.Raise (be (.Call (.Name x p) (e::es) [] cpos)) m9 pos) (zT x t):=⟨(zR h hc ha.out hex hg d7 he c7).anti λE s H q=>by
 obtain⟨F0,F,z,M,k,rs,ED,h,ee⟩:=q;exact⟨F,z,M,k.kf,rs,_,h,λds vs M1 F1 H1 g1 gV rx m1=>⟨by rw[rx.length];exact gV.1,F1,g1.fh,sH hx k.kf rs g1 m1 gV.2⟩⟩⟩
end
section
variable {X:Cx}[J:Jm]{a b c e:RP}{ta tb tc te:TME}{pos:R5}{st:RO}{rest:List RO}{t u:TMS}
def zV:TMS:=λE z M=>E.nx z M
def mSeq(t u:TMS):TMS:=λE z M=>t {E with nx:=u E} z M
def cf:MSs X [] zV:=⟨pss_nil.anti λE s H q=>by
 obtain⟨F0,F,z,M,k,rs,ED,h,e⟩:=q;exact e.nx z s M F H k h rs⟩
def aB(h1:MSt X st t)(h2:MSs X rest u):MSs X (st::rest) (mSeq t u):=⟨(fC h1.out h2.out).anti λE s H q=>by
 obtain⟨F0,F,z,M,k,rs,ED,h,e⟩:=q;exact⟨F0,F,z,M,k,rs,{ED with nx:=u ED},h,⟨λz' s' M' F' H' k' hz r'=>⟨F0,F',z',M',k',r',ED,hz,e⟩,e.rt,e.bk,e.ct⟩⟩⟩
def aE(h1:MSt X st t):MSs X [st] t:=⟨pU h1.out⟩
def mRet(te:TME):TMS:=λE z M=>te z M E.rt
def aQ(he:ME X e te):MSt X (.Return (be e) pos) (mRet te):=⟨(pW he.out).anti λE s H q=>by
 obtain⟨F0,F,z,M,k,rs,ED,h,e⟩:=q;exact⟨F,z,M,k.kf,rs,_,h,λd v M' F' H' g hd rd m'=>e.rt d v M' F' H' (k.growM rs.mb g) hd rd m' (rs.growM k.bh g m').mb⟩⟩
def zW(te:TME):TMS:=λE z M=>te z M λ_ M1=>E.nx z M1
def cx(he:ME X e te)(hs:autoParam (Sa e m9 pos.line X.env=pure false) zA0):MSt X (.Expr e pos) (zW te):=⟨(pV he.out hs).anti λE s H q=>by
 obtain⟨F0,F,z,M,k,rs,ED,h,e⟩:=q;exact⟨F,z,M,k.kf,rs,_,h,λd v M' F' H' g hd rd m'=>e.nx z s M' F' H' (k.growM rs.mb g) hd (rs.growM k.bh g m')⟩⟩
def mIfS(c:TMT)(t u:TMS):TMS:=λE z M=>c z M λb M1=>if b=true then t E z M1 else u E z M1
variable{l r:List RO}
def cn{c:RP}{tc:TMT}(hc:MT X c tc)(ha:MSs X l t)(hb:MSs X r u):MSt X (.If c l r pos) (mIfS tc t u):=⟨(pX hc.out ha.out hb.out).anti λE s H q=>by
 obtain⟨F0,F,z,M,k,rs,ED,h,e⟩:=q;refine⟨F,z,M,k.kf,rs,_,h,λb M1 F1 H1 g hk m1=>?_⟩;cases b with
 |true=>exact⟨F0,F1,z,M1,k.growM rs.mb g,rs.growM k.bh g m1,ED,hk,e⟩
 |false=>exact⟨F0,F1,z,M1,k.growM rs.mb g,rs.growM k.bh g m1,ED,hk,e⟩⟩
def mIfJ(c:TMT)(t u:TMS):TMS:=λE z M=>∃ J:SD->MS->Prop,(c z M λb M1=>if b=true then t {E with nx:=J} z M1 else u {E with nx:=J} z M1)/\∀ z' M',J z' M'->E.nx z' M'
def sI{c:RP}{tc:TMT}(hc:MT X c tc)(ha:MSs X l t)(hb:MSs X r u):MSt X (.If c l r pos) (mIfJ tc t u):=⟨(cn hc ha hb).out.anti λE s H q=>by
 obtain⟨F0,F,z,M,k,rs,ED,⟨J,h,j⟩,e⟩:=q;exact⟨F0,F,z,M,k,rs,{ED with nx:=J},h,⟨λz' s' M' F' H' k' hz r'=>e.nx z' s' M' F' H' k' (j z' M' hz) r',e.rt,e.bk,e.ct⟩⟩⟩
def mSet(i:Nat)(te:TME):TMS:=λE z M=>∃ P:D->MS->Prop,te z M P/\∀ d M',P d M'->E.nx (z.set i (be d)) M'
def bj(i:Nat){x:D'}{c8:R5}(hN:X.N.Nodup)(he:ME X e te)(hi:autoParam (X.N[i]?=be x) zA0)(hx:autoParam (Loc X.env.scope x) zA4)(hs:autoParam (Sa e (be (.Name x c8)) pos.line X.env=pure false) zA0)
  (hf:autoParam (zFN X x) zA3):MSt X (.Assign [.Name x c8] e pos) (mSet i te):=⟨(gp hN hi hx he.out hs hf).anti λE s H q=>by
 obtain⟨F0,F,z,M,k,rs,ED,⟨P,h,j⟩,e⟩:=q;exact⟨F,z,M,k.kf,rs,P,h,λd v M' F' H' g hd rd m'=>e.nx _ _ M' F' H' (k.growM rs.mb g) (j d M' hd) ((rs.growM k.bh g m').set rd)⟩⟩
def zX(x f:D')(to te:TME):TMS:=λE z M=>te z M λd M1=>to z M1 λo M2=>match o with| .ptr a=>∃ fs,mget M2 a=be (.ins x fs)/\fs.length<1000/\E.nx z (mput M2 a (.ins x (putD f d fs)))|_=>False
def gZ{x f:D'}{o:RP}{to:TME}{c8:R5}(hA:ClsA X.K x f)(ho:ME X o to)(he:ME X e te)(hs:autoParam (Sa e (be (.Attribute o f c8)) pos.line X.env=pure false) zA0):
  MSt X (.Assign [.Attribute o f c8] e pos) (zX x f to te):=⟨(qu ho.out he.out hs).anti λE s H q=>by
 obtain⟨C,hn,hc,hf⟩:=hA;obtain⟨F0,F,z,M,k,rs,ED,h,ee⟩:=q;refine⟨F,z,M,k.kf,rs,_,h,λd v M1 F1 H1 g1 hx rd m1=>?_⟩;have k1:=k.growM rs.mb g1;have u9:=rs.growM k.bh g1 m1;refine⟨F1,z,M1,k1.kf,u9,_,hx,λo' v' M2 F2 H2 g2 hy ro m2=>?_⟩;have k2:=k1.growM u9.mb g2;have Jj:=u9.growM k1.bh g2 m2;split at hy
 .rename_i a;obtain⟨fs,hm,hl,KU⟩:=hy;obtain⟨C',dx,ws,k8,hH,rf⟩:=m2.ok _ _ (bT hm);rw[hn] at k8;cases k8;have fa:=m2.fr a (cw (bT hm));refine⟨a,C,dx,ws,rep_ptr.mp ro,hH,hc,hf,by rw[rf.length];exact hl,?_⟩;have m3:RepM X.K F2 (upd H2 a (.ins C dx (putF f v ws))) (mput M2 a (.ins x (putD f d fs))):=m2.put hm ⟨C,dx,_,hn,aC,RepF.put (rd.mono g2.ff) rf⟩;have g3:GrowM M2 (mput M2 a (.ins x (putD f d fs))) F2 H2 F2 (upd H2 a (.ins C dx (putF f v ws))):=GrowM.put k2.fh fa hm;exact ee.nx z s _ F2 _ (k2.growM Jj.mb g3) KU (Jj.growM k2.bh g3 m3)
 .exact hy.elim⟩
def zY(c:TMT)(tb:TMS):TMS:=λE z M=>∃ W:Nat->SD->MS->Prop,(∃ m,W m z M)/\∀ m z M,W m z M->
 c z M λb M1=>if b=true then tb {E with nx:=λz' M'=>∃ m',m'<m/\W m' z' M',ct:=λz' M'=>∃ m',m'<m/\W m' z' M',bk:=E.nx} z M1 else E.nx z M1
def zZ{c:RP}{body:List RO}{tc:TMT}{tb:TMS}(hp:Se (RR X.prog X.w) X.A X.env X.xe)(hc:MT X c tc)(hb:MSs X body tb):MSt X (.While c body [] pos) (zY tc tb):=⟨(pY hp hc.out hb.out).anti λE s H q=>by
 obtain⟨F0,F,z,M,k,rs,ED,⟨W,⟨m0,w0⟩,c5⟩,e⟩:=q;refine⟨λm s' H'=>∃ F' z' M',Kept J.B F0 F' H'/\RepZ X.K J.B F' H' z' s' M'/\W m z' M',⟨m0,F,z,M,k,rs,w0⟩,?_⟩;rintro m s1 H1 ⟨F1,z1,M1,k1,r1,w1⟩;refine⟨F1,z1,M1,k1.kf,r1,_,c5 m z1 M1 w1,λb M2 F2 H2 g2 hk m2=>?_⟩;cases b with
 |true=>
  refine⟨λs3 H3=>∃ F3 z3 M3,Kept J.B F0 F3 H3/\RepZ X.K J.B F3 H3 z3 s3 M3/\∃ m',m'<m/\W m' z3 M3,λs3 H3 ⟨F3,z3,M3,k3,r3,m',l,w3⟩=>⟨m',l,F3,z3,M3,k3,r3,w3⟩,?_⟩;exact⟨F0,F2,z1,M2,k1.growM r1.mb g2,r1.growM k1.bh g2 m2,_,hk,⟨λz3 s3 M3 F3 H3 k3 h3 r3=>⟨F3,z3,M3,k3,r3,h3⟩,e.rt,e.nx,λz3 s3 M3 F3 H3 k3 h3 r3=>⟨F3,z3,M3,k3,r3,h3⟩⟩⟩
 |false=>exact e.nx z1 s1 M2 F2 H2 (k1.growM r1.mb g2) hk (r1.growM k1.bh g2 m2)⟩
end
section
variable {X:Cx}[J:Jm]{a b c e o:RP}{ta tb tc te to:TME}{pos:R5}{st:RO}{rest:List RO}{t u:TMS}
abbrev TMI:=SD->MS->(List D->MS->Prop)->Prop
def mItR(t:TME):TMI:=λz M R=>t z M λx M1=>match x with| .int n=>(0<=n/\n<2 ^ 62)/\R ((Ft n.toNat).map λk=>D.int ((k:Nat):Int)) M1|_=>False
def mFor(i:Nat)(ti:TMI)(tb:TMS):TMS:=λE z M=>ti z M λds M1=>∃ W:Nat->SD->MS->Prop,W 0 z M1/\(∀ k x z M,ds[k]?=be x->W k z M->tb {E with nx:=W (k+1),ct:=W (k+1),bk:=E.nx} (z.set i (be x)) M)/\∀ z M,W ds.length z M->E.nx z M
def Aa(i:Nat){x:D'}{p p1 p2:R5}{body:List RO}{tb:TMS}(hp:Se (RR X.prog X.w) X.A X.env X.xe)(hc:X.calm=true)(hN:X.N.Nodup)(hm:X.mg "range"=m9)(he:ME X e te)(hb:MSs X body tb)(hg:autoParam (Gl X "range") zA0)(hi:autoParam (X.N[i]?=be x) zA0)(hx:autoParam (Loc X.env.scope x) zA4)
  (hf:autoParam (zFN X x) zA3) (hs:autoParam (∀ y,zFS X (.Call (.Name "range" p1) [e] [] p2) y) zA2) (t6:autoParam (zSE X e []) zA0) (f_:autoParam (RV [e] X.env=[(false,R1 e X.env)]) zA0):
  MSt X (.For (.Name x p) (.Call (.Name "range" p1) [e] [] p2) body [] pos) (mFor i (mItR te) tb):=⟨(dB hp hc (jv hg hm (bx he.out pa_nil t6) f_) (gm hN hi hx hf) hb.out hs).anti λE s H q=>by
 obtain⟨F0,F,z,M,kp,rs,ED,h,e⟩:=q;refine⟨F,z,M,kp.kf,rs,_,h,λd v M1 F1 H1 g1 hd rd m1=>?_⟩;split at hd
 .rename_i n;obtain⟨⟨b1,b2⟩,W,w0,c5,out⟩:=hd;have hl:((Ft n.toNat).map λk=>D.int ((k:Nat):Int)).length=n.toNat:=by simp
  refine⟨n,by rw[rep_int.mp rd],by lia,b2,qf (lo:=0) (n:=n.toNat) (λk s' H'=>∃ F' z' M',Kept J.B F0 F' H'/\RepZ X.K J.B F' H' z' s' M'/\W k z' M') ⟨F1,z,M1,kp.growM rs.mb g1,rs.growM kp.bh g1 m1,w0⟩ ?_ ?_⟩
  .rintro k s' H' hk ⟨F',z',M',k',r',w'⟩;have e1:(0:Int)+(k:Int)=(k:Int):=by lia
   exact⟨F0,F',_,M',k',r'.set (d:= .int (k:Int)) (rep_int.mpr (by rw[e1])),_,c5 k (.int (k:Int)) z' M' (by simp[hk]) w',⟨λz3 s3 M3 F3 H3 k3 h3 r3=>⟨F3,z3,M3,k3,r3,h3⟩,e.rt,e.nx,λz3 s3 M3 F3 H3 k3 h3 r3=>⟨F3,z3,M3,k3,r3,h3⟩⟩⟩
  .rintro s' H' ⟨F',z',M',k',r',w'⟩;exact e.nx z' s' M' F' H' k' (out z' M' (by rw[hl];exact w')) r'
 .exact hd.elim⟩
def Ab(te:TME):TME:=λz M R=>te z M λd M1=>match d with| .ptr a=>∃ ds,mget M1 a=be (.lst ds)/\R (.int ds.length) M1|_=>False
def Ac{p:R5}(hm:X.mg "len"=m9)(ha:ME X e te)(hg:autoParam (Gl X "len") zA0)(he:autoParam (zSE X e []) zA0):ME X (.Call (.Name "len" p) [e] [] pos) (Ab te):=⟨(gy jz hg hm PySem.boot_len (bx ha.out pa_nil he) (by decide) (by decide) he).anti λs H Q h=>by
 obtain⟨F,z,M,k,rs,R,h1,h2⟩:=h;refine⟨F,z,M,k,rs,_,h1,λd v M1 F1 H1 g1 hx rx m1=>?_⟩;split at hx
 .rename_i a;obtain⟨ds,hm,hR⟩:=hx;obtain⟨vs,hH,rr⟩:=m1.ok _ _ (bT hm);exact⟨.ref a,vs.length,by rw[rep_ptr.mp rx],.inl ⟨vs,SqL.of hH,rfl⟩,h2 _ _ M1 F1 H1 g1 hR (rep_int.mpr (by rw[rr.length])) m1⟩
 .exact hx.elim⟩
def mIxP(ta tb:TME):TME:=λz M R=>ta z M λx M1=>tb z M1 λy M2=>match x,y with| .ptr a,.int i=>∃ ds,mget M2 a=be (.lst ds)/\∃ d,atI ds i=be d/\R d M2|_,_=>False
def Ad(ha:ME X a ta)(hb:ME X b tb)(hs:autoParam (dY b) zA6):ME X (.Subscript a b pos) (mIxP ta tb):=⟨(pe_ix ix_list ha.out hb.out hs).anti λs H Q h=>by
 obtain⟨F,z,M,k,rs,R,h1,h2⟩:=h;refine⟨F,z,M,k,rs,_,h1,λx u M1 F1 H1 g1 hx rx m1=>?_⟩;refine⟨F1,z,M1,k.growM rs.mb g1,rs.growM k.bh g1 m1,_,hx,λy v M2 F2 H2 g2 hy ry m2=>?_⟩;split at hy
 .rename_i p i;obtain⟨ds,hm,d,hd,hR⟩:=hy;obtain⟨vs,hH,rr⟩:=m2.ok _ _ (bT hm);obtain⟨w,e2,i9⟩:=rr.at hd;exact⟨p,vs,_,w,rep_ptr.mp rx,rep_int.mp ry,SqL.of hH,e2,h2 d w M2 F2 H2 (g1.trans g2) hR i9 m2⟩
 .exact hy.elim⟩
def Ae(to te:TME):TME:=λz M R=>to z M λo M1=>match o with| .ptr a=>(∃ ds,mget M1 a=be (.lst ds))/\te z M1 λd M2=>∃ ds,mget M2 a=be (.lst ds)/\ds.length<=100000/\R .non (mput M2 a (.lst (ds++[d])))|_=>False
def Af{apos cpos:R5}(ho:ME X o to)(he:ME X e te)(m6:autoParam (zSE X e []) zA0)
  (b9:autoParam (RZ o "append" X.env (R1 o X.env)=R1 o X.env) zA0)
  (d_:autoParam (zHF X cpos [e]) zA0)
  (c9:autoParam ((apos.endLine==cpos.line)=true) zA0):
  ME X (.Call (.Attribute o "append" apos) [e] [] cpos) (Ae to te):=⟨(dZ PySem.F.plainAttrs_list PySem.F.slot_list_append PySem.F.type_list_append gz ho.out (bx he.out pa_nil m6) b9 d_ c9 m6).anti λs H Q h=>by
 obtain⟨F,z,M,k,rs,R,h1,h2⟩:=h;refine⟨F,z,M,k,rs,_,h1,λx u M1 F1 H1 g1 hx rx m1=>?_⟩;split at hx
 .rename_i a;obtain⟨⟨Rs,MX⟩,hx⟩:=hx;obtain⟨Qn,Qo,Rt⟩:=m1.ok _ _ (bT MX);rw[rep_ptr.mp rx];refine⟨.inl ⟨rfl,Qn,SqL.of Qo⟩,?_⟩;refine⟨F1,z,M1,k.growM rs.mb g1,rs.growM k.bh g1 m1,_,hx,λd v M2 F2 H2 g2 hd rd m2=>?_⟩;obtain⟨ds,hm,hl,hR⟩:=hd;obtain⟨vs,hH,rr⟩:=m2.ok _ _ (bT hm);have hz:vs.length<sizeLine:=by
   rw[rr.length];have h2:(100000:Nat)<sizeLine:=by decide
   lia
  refine⟨a,vs,v,rfl,rfl,hH,hz,?_⟩;exact h2 _ _ _ F2 _ (g1.trans (g2.trans (GrowM.put g2.fh (m2.fr a (cw (bT hm))) hm))) hR (rep_non.mpr rfl) (m2.put hm ⟨_,aC,rr.append (eL rd)⟩)
 .exact hx.elim⟩
def frzD:MO->D| .ins x fs=> .obj x fs| .lst ds=> .lst ds| .dti a8=> .dti a8
def mFrz(i:Nat)(t:TMS):TMS:=λE z M=>match z[i]? with|some (be (.ptr a))=>∃ o,mget M a=be o/\t E (z.set i (be (frzD o))) (mdel M a)|_=>False
def sJ(i:Nat){KI:List RO}(h:MSs X KI t):MSs X KI (mFrz i t):=⟨PSs.anti h.out λE s H q=>by
 obtain⟨F0,F,z,M,k,rs,ED,h,e⟩:=q;unfold mFrz at h;split at h
 .rename_i a ez;obtain⟨o,hm,h⟩:=h;have mem:=bT hm;have fa:=rs.rm.fr a (cw mem);have ba:=rs.mb a (cw mem);obtain⟨v,hv,rv⟩:=rs.rs.val i _ ez rfl;have Qp:=rep_ptr.mp rv;subst Qp;have hok:=rs.rm.ok a o mem;obtain⟨ho,f7,MY⟩:∃ ho,H a=be ho/\∀ F',Same F F'->F' a=be ho->Rep X.K F' (frzD o) (.ref a):=by
   cases o with
   |ins x fs=>obtain⟨C,dx,ws,n,h1,h2⟩:=hok;exact⟨_,h1,λF' s' hF=>rep_obj.mpr ⟨a,C,dx,ws,rfl,n,hF,RepF.mono s' fs ws h2⟩⟩
   |lst ds=>obtain⟨vs,h1,h2⟩:=hok;exact⟨_,h1,λF' s' hF=>rep_lst.mpr ⟨a,vs,rfl,hF,h2.mono s'⟩⟩
   |dti a8=>exact⟨_,hok,λF' s' hF=>rep_dti.mpr ⟨a,rfl,hF⟩⟩
  have s1:Same F (upd F a ho):=aU fa _;have hs:s.set i (be (.ref a))=s:=by
   apply G6;intro n;by_cases hn:i=n
   .subst hn;rw[Ga (FG.mp hv).1,hv]
   .rw[FM hn]
  have k1:Kept J.B F0 (upd F a ho) H:=⟨k.bh,λb u q=>by
   by_cases hb:b=a
   .subst hb;rw[aC] at q;cases q;exact f7
   .rw[au hb] at q;exact k.fh b u q,k.f0.trans s1,λb h1 h2=>by
   by_cases hb:b=a
   .subst hb;exact absurd ba h2
   .rw[au hb];exact k.out b h1 h2,k.eb,k.jf,k.jo⟩
  have r0:RepS X.K J.B (upd F a ho) H z s:=⟨rs.rs.len,λi d e n=>let ⟨v,q1,q2⟩:=rs.rs.val i d e n;⟨v,q1,q2.mono s1⟩,λi ds e=>absurd e (rs.no i ds),rs.rs.apart⟩;have Qq:RepM X.K (upd F a ho) H (mdel M a):=⟨rs.rm.nd.sublist del_sub,λb q hb=>by
   obtain⟨ne,hb⟩:=kg rs.rm.nd hb;exact(rs.rm.ok b q hb).mono s1 λ_ z=>z,λb hb=>by
   obtain⟨⟨b',q⟩,i6,rfl⟩:=FP.mp hb;obtain⟨ne,K7⟩:=kg rs.rm.nd i6;rw[au ne];exact rs.rm.fr _ (cw K7)⟩
  have z0:RepZ X.K J.B (upd F a ho) H z s (mdel M a):=⟨r0,rs.no,Qq,λb hb=>rs.mb b (del_sub.subset hb)⟩;have z1:=z0.set (i:=i) (MY _ s1 aC);rw[hs] at z1;exact⟨F0,_,_,_,k1,z1,ED,h,e⟩
 .exact h.elim⟩
end
def sK{N:List D'}{ds:List D}(rs:Reps K F ds vs):∀ (i:Nat) d,(startD N ds)[i]?≠be (be (.own d)):=by
 intro i d e;unfold startD at e;by_cases hi:i<ds.length
 .rw[F8 (by simpa using hi),FF] at e;cases q:ds[i]? with
  |none=>rw[q] at e;cases e
  |some x=>
   rw[q] at e;cases e;obtain⟨v,_,q2⟩:=rs.get q;exact rep_own q2
 .rw[Gh (by simpa using hi),Hq] at e;split at e
  .cases e
  .cases e
def growM_nil(g:GrowM [] M' F H F' H'):Grow F H F' H':=⟨g.ff,g.fh,λb o h=>g.hh b o (λz=>nomatch z) h,λb h1 h2=>g.out b (λz=>nomatch z) h1 h2⟩
section
variable {P:P3}{w:RT}{K:Ex}{mg:D'->Option KB}{base:Heap}
variable{x:D'}{ps:List D'}{S:SpM}
def CalMM.toX{n:Nat}{S0:SpX}(C:CalMM P w K mg base n x ps S)(h:∀ ds R RX,S0 ds R RX->S ds [] (λd _=>R d) λx fs _=>RX x fs):CalX P w K mg base n x ps S0:=by
 obtain⟨f,fd,F,hb,hk,hm⟩:=C;refine⟨f,fd,F.imp λvs H Q E q=>?_,hb,hk,hm⟩;obtain⟨F,ds,fh,rs,R,RX,hS,q1,q2⟩:=q;exact⟨F,ds,[],fh,rs,RepM.nil,_,_,h ds R RX hS,λd v M' F' H' g hd rd _=>q1 d v F' H' (growM_nil g) hd rd,λy fs C od M' F' H' g hR er _=>q2 y fs C od F' H' (growM_nil g) hR er⟩
open Classical in
def Fun.okM{x qual:D'}{st:RO}{f:KF}{fd:RY}{N ps:List D'}{k:Nat}{S:SpM}(T:Fun K x qual st f fd)(F:FnScope N ps (ag st))(len:∀ ds M R RX,S ds M R RX->ds.length=ps.length)
  (a9:∀ (cdv:KB) (A:RU) (outer:List SE) (s:KM) (H:Hp) (E:XK) (J:Jm),Room k (A.deeper (R7 qual (ag st) s.heap.objs.size f cdv))->XOkM (cxOf (CX1 P w) P w K mg base N qual (ag st) f cdv A outer s H E)->
   ∃ t,MSs (cxOf (CX1 P w) P w K mg base N qual (ag st) f cdv A outer s H E) (aK st) t/\∀ ds M R RX,(∀ z,J.RM z=λM' x fs=>RX x fs M')->S ds M R RX->t {nx:=λ_ M'=>R .non M',rt:=R} (startD N ds) M):FnOk P w K mg base (CX1 P w) (k+1) f fd ps (lSpM K S):=by
 refine Fun.okC T F (λvs H Q E h=>?_) (λcdv A outer s H vs Q E hr h=>?_)
 .obtain⟨F,ds,M,fh,rs,rm,R,RX,h,_⟩:=h;rw[rs.length];exact len ds M R RX h
 .obtain⟨F,ds,M,fh,rs,rm,R,RX,h,q,qx⟩:=h
  let B:Hp:=λb=>if b∈az M then m9 else H b
  have OY:∀ {b:KF},b∈az M->B b=none:=λ{b} h=>if_pos h;have LQ:∀ {b:KF},b ∉ az M->B b=H b:=λ{b} h=>if_neg h
  letI:Jm:={B:=B,F0:=F,RX:=λ_ _ _=>False,RM:=λ_ M' x fs=>RX x fs M'}
  have gr:∀ {M':MS} {F' H':Hp},Kept B F F' H'->(∀ a,a∈az M'->B a=m9)->GrowM M M' F H F' H':=λ{M' F' H'} k mb=>⟨k.f0,k.fh,λb o nb e=>k.bh b o (by rw[LQ nb];exact e),λb nb h1 h2=>k.out b h1 (by rw[LQ nb];exact h2),λb hb=>by
   by_cases nb:b∈az M
   .exact .inl nb
   .right;rw[<- LQ nb];exact mb b hb⟩
  have hx:XOkM (cxOf (CX1 P w) P w K mg base N qual (ag st) f cdv A outer s H E):=by
   intro σ z M' F' H' s' e C od y fs I kk rr hR er ⟨He,ne,_,hx⟩;have hE:E (.ref C) od H':=qx y fs C od M' F' H' (gr kk rr.mb) hR er rr.rm;rcases hx with⟨sl,vs,h1,h2⟩|⟨T,h1,h2,h3,_⟩
   .exact qX I h1 h2 He ne hE
   .exact rW I h1 ne h2 He h3 hE
  obtain⟨t,ht,hq⟩:=a9 cdv A outer s H E inferInstance hr hx;have k0:Kept B F F H:=⟨λb o e=>by
   by_cases nb:b∈az M
   .rw[OY nb] at e;cases e
   .rw[LQ nb] at e;exact e,fh,Same.refl F,λ_ h _=>h,rfl,Same.refl F,λ_ h _=>h⟩
  have r0:RepZ K B F H (startD N ds) (L2.start N vs) M:=⟨eg rs,sK rs,rm,λa h=>OY h⟩;exact⟨_,ht.out,F,F,startD N ds,M,k0,r0,_,hq ds M R RX (λ_=>rfl) h,⟨λz' s' M' F' H' k hn r=>q _ _ M' F' H' (gr k r.mb) hn (rep_non.mpr rfl) r.rm,λd v M' F' H' k hd rd OZ mb=>q d v M' F' H' (gr k mb) hd rd OZ,λ_ _ _ _ _ _ h _=>h.elim,λ_ _ _ _ _ _ h _=>h.elim⟩⟩
variable{N:List D'}
def Tx.okM{st:RO}{k:Nat}(T:Tx K mg x st ps)(F:FnScope N ps (ag st))(len:∀ ds M R RX,S ds M R RX->ds.length=ps.length)
  (a9:∀ (f:KF) (cdv:KB) (A:RU) (outer:List SE) (s:KM) (H:Hp) (E:XK) (J:Jm),Room k (A.deeper (R7 x (ag st) s.heap.objs.size f cdv))->XOkM (cxOf (CX1 P w) P w K mg base N x (ag st) f cdv A outer s H E)->
   ∃ t,MSs (cxOf (CX1 P w) P w K mg base N x (ag st) f cdv A outer s H E) (aK st) t/\∀ ds M R RX,(∀ z,J.RM z=λM' x fs=>RX x fs M')->S ds M R RX->t {nx:=λ_ M'=>R .non M',rt:=R} (startD N ds) M):CalMM P w K mg base (k+1) x ps S:=by
 obtain⟨f,fd,T,hb,hm⟩:=T;exact⟨f,fd,Fun.okM T F len λcdv A outer s H E J hr hx=>a9 f cdv A outer s H E J hr hx,hb,T.kp,hm⟩
def Txm(K:Ex)(x m:D')(qual:D')(st:RO)(ps:List D'):Prop:=
 ∃ C f fd,nsIn K Pi x=be (be (.ref C))/\Cls K C/\Meth K C m f/\Fun K m qual st f fd/\Binds K fd ps []
def Txm.okM{m qual:D'}{st:RO}{k:Nat}(T:Txm K x m qual st ps)(F:FnScope N ps (ag st))(len:∀ ds M R RX,S ds M R RX->ds.length=ps.length)
  (a9:∀ (f:KF) (cdv:KB) (A:RU) (outer:List SE) (s:KM) (H:Hp) (E:XK) (J:Jm),Room k (A.deeper (R7 qual (ag st) s.heap.objs.size f cdv))->XOkM (cxOf (CX1 P w) P w K mg base N qual (ag st) f cdv A outer s H E)->
   ∃ t,MSs (cxOf (CX1 P w) P w K mg base N qual (ag st) f cdv A outer s H E) (aK st) t/\∀ ds M R RX,(∀ z,J.RM z=λM' x fs=>RX x fs M')->S ds M R RX->t {nx:=λ_ M'=>R .non M',rt:=R} (startD N ds) M):CalMth P w K mg base (k+1) x m ps (lSpM K S):=by
 obtain⟨C,f,fd,h1,h2,h3,T,hb⟩:=T;exact⟨C,f,fd,h1,h2,h3,Fun.okM T F len λcdv A outer s H E J hr hx=>a9 f cdv A outer s H E J hr hx,hb⟩
end
end My
namespace L2
section
variable {X:Cx}{pins:List (KF × R')}{σ:St}{H:Hp}{s:KM}{h':Heap}
def Inv.turned2{t':Nat}{e it:KF}(I:Inv X pins σ H s)(k:∀ b o,b≠e->b≠it->s.heap.get? b=be o->h'.get? b=be o)(he:FpOk X pins H e)(hi:FpOk X pins H it):Inv X pins σ H {s with heap:=h',toks:=t'}:=by
 obtain⟨e0,e1,e2,e3,e4,e5⟩:=he;obtain⟨i0,i1,i2,i3,i4,i5⟩:=hi;have Jz:∀ b u,H b=be u->b≠e/\b≠it:=λb u q=>⟨(λz=>by rw[z,e0] at q;cases q),(λz=>by rw[z,i0] at q;cases q)⟩;have nc:∀ {b:KF},b ∉ [e,it]->b≠e/\b≠it:=λ{b} h=>⟨λz=>h (by simp[z]),λz=>h (by simp[z])⟩;refine I.step (g':=s.gens) (d':=s.drawn) (ch:=[e,it]) (λb hb=>?_) (λb o _ _ hc q _=>k b o (nc hc).1 (nc hc).2 q) (λb o _ _ hc q _=>⟨o.slots,k b o (nc hc).1 (nc hc).2 q⟩) (λ_ _ _ _ n=>n)
  (λb o hc q=>⟨o,k b o (nc hc).1 (nc hc).2 q⟩) (λ_ _ q=>q) (λ_ _ _ q=>q) (λb ps q=>⟨#[],by rw[q];simp⟩) (λm hm=>?_) (λb u q=>?_) I.bare
 .rcases Fp.mp hb with z|z
  .rw[z];exact⟨e3,e1,e4,e5⟩
  .rw[Fl.mp z];exact⟨i3,i1,i4,i5⟩
 .obtain⟨o,es,ep,ho,r⟩:=hm;exact⟨o,es,ep,k _ o (Ne.symm e1) (Ne.symm i1) ho,r⟩
 .refine(I.hok b u q).stay (λc v hc q'=>k c v ?_ ?_ q') (λ_ q=>q) λ_ _ q=>q
  .rcases hc with z|z
   .rw[z];exact(Jz b u q).1
   .exact(Jz c _ z).1
  .rcases hc with z|z
   .rw[z];exact(Jz b u q).2
   .exact(Jz c _ z).2
end
def Itel(K:Ex)(a:KF):It:=
 ⟨λi H=>∃ xs x,SqL K H a xs/\xs[i]?=be x,λi H x H'=>∃ T v,H T=m9/\x= .ref T/\H'=upd H T (.tup [.int i,v])/\∀ xs,SqL K H a xs->xs[i]?=be v,λi H=>∃ xs,SqL K H a xs/\xs.length<=i⟩
def Ites(x:D'):It:=⟨λi _=>i<x.length,λi H v H'=>∃ T c,H T=m9/\v= .ref T/\H'=upd H T (.tup [.int i,.str ⟨#[c]⟩])/\x.cps[i]?=be c,λi _=>i=x.length⟩
variable{P:P3}{w:RT}
def Ag{H:Hp}{h:Heap}{T:KF}{i:Int}{t:Tok}{v:V}{u:KB}(r:RelV v u)(q:h.get? T=be {cls:= .type "tuple",data:= .seq #[.int i t,u]}):ObjOk P w H h T (.tup [.int i,v]):=
 ⟨by show 2<=sizeLine;decide,[.int i t,u],.cons ⟨t,rfl⟩ (.cons r .nil),⟨_,q,rfl,_,rfl⟩⟩
def sL{X:Cx}{pins:List (KF × R')}{σ:St}{H:Hp}{s:KM}{h':Heap}{t':Nat}{e it:KF}{i:Int}{t:Tok}{v:V}{u:KB}(I:Inv X pins σ H s)(he:FpOk X pins H e)(hi:FpOk X pins H it)(le:e<s.heap.objs.size)(li:it<s.heap.objs.size)(r:RelV v u)
  (hT:h'.get? s.heap.objs.size=be {cls:= .type "tuple",data:= .seq #[.int i t,u]}) (hk:∀ b o,b≠e->b≠it->s.heap.get? b=be o->h'.get? b=be o):Inv X pins σ (upd H s.heap.objs.size (.tup [.int i,v])) {s with heap:=h',toks:=t'}:=by
 have I1:Inv X pins σ (upd H s.heap.objs.size (.tup [.int i,v])) {s with heap:=s.heap.push {cls:= .type "tuple",data:= .seq #[.int i t,u]},toks:=t'}:=
  I.laid (λb o q=>Heap.get?_push_of_some _ q) (Fo _) (Ag r (Heap.get?_push_size _ rfl))
 have fp:∀ {b:KF},FpOk X pins H b->b<s.heap.objs.size->FpOk X pins (upd H s.heap.objs.size (.tup [.int i,v])) b:=λ{b} h l=>⟨by rw[au (Fy l)];exact h.1,h.2⟩;refine I1.turned2 (h':=h') (t':=t') (λb o h1 h2 q=>?_) (fp he le) (fp hi li);rcases Heap.get?_push_cases (show(s.heap.push {cls:= .type "tuple",data:= .seq #[.int i t,u]}).get? b=be o from q) with⟨rfl,rfl⟩|q2
 .exact hT
 .exact hk b o h1 h2 q2
variable{t9:List RP}
def Ah{K:Ex}{x1:Nat}{tp:R5}(a e it:KF)(J5:e≠it):Turn P w K (.Tuple t9 x1 tp) (Itel K a) [e,it] e (λi h=>(∃ d9,IsEnum h e it i d9)/\h.IsListIter it a i) where
 mem:=by simp
 obj:=λi h st b hb=>by
  obtain⟨⟨d9,he⟩,hit⟩:=st;rcases Fp.mp hb with z|z
  .rw[z];exact⟨_,he,λv z=>by cases z⟩
  .rw[Fl.mp z];obtain⟨o,ho,c,d⟩:=hit;exact⟨o,ho,λv z=>by rw[d] at z;cases z⟩
 keep:=λi h h' st k=>⟨let ⟨d9,he⟩:=st.1;⟨d9,k e (by simp) _ he⟩,st.2.at λo q=>k it (by simp) o q⟩
 item:=by
  intro X hP hw hK hc i pins s σ H E I hf st hg;subst hP hw hK;obtain⟨xs,x,hq,hx⟩:=hg;obtain⟨its,rv,p,hz⟩:=I.list hq;obtain⟨u,hu,ru⟩:=rv.get hx;obtain⟨⟨d9,he⟩,hit⟩:=st;have fe:=hf e (by simp);have fi:=hf it (by simp);have le:e<s.heap.objs.size:=Heap.lt_size he;have li:it<s.heap.objs.size:=by obtain⟨o,ho,_⟩:=hit;exact Heap.lt_size ho
  refine wpAny_pyNext_enum_item he hit p.isList (x:=u) (by simpa using hu) J5 λh' z8 JP hT g6 hk=>?_;refine⟨_,rfl,S8 z8 λh2 MZ k9=>?_⟩;have o_:Heap.SameBut e h' h2:=k9;have nT:s.heap.objs.size≠e:=Gq le;have I1:Inv X pins σ (upd H s.heap.objs.size (.tup [.int i,x])) {s with heap:=h2,toks:=s.toks+1}:=sL I fe fi le li ru ((o_.2 _ nT).trans hT) λb o h1 h3 q=>(o_.2 b h1).trans (hk b o h1 h3 q);refine⟨.ref s.heap.objs.size,_,I1,rfl,⟨_,x,I.hok.fresh (Fo _),rfl,rfl,λys hy=>by rw[I.list_inj hy hq];exact hx⟩,⟨⟨u,by simpa using MZ⟩,JP.at λo q=>(o_.2 it (Ne.symm J5)).trans q⟩,λb hb=>?_⟩;rcases Fp.mp hb with z|z
  .rw[z,au (Fy le)];exact fe.1
  .rw[Fl.mp z,au (Fy li)];exact fi.1
 done:=by
  intro X hP hw hK hc i pins s σ H E I hf st hg;subst hP hw hK;obtain⟨xs,hq,hx⟩:=hg;obtain⟨its,rv,p,hz⟩:=I.list hq;obtain⟨⟨d9,he⟩,hit⟩:=st;have hl:=rv.length;obtain⟨f0,f1,f2,f3,f4,f5⟩:=hf it (by simp);exact wpAny_pyNext_enum_end (I.ok.hd hc) he hit p.isList (by simp;lia) λh' eb=>⟨rfl,I.turned (t':=s.toks) (λb o hb q=>eb b o hb q) f0 f1 f3 f4 f5⟩
 self:=λ_ _ _ _ _ st h=>let ⟨⟨d9,he⟩,_⟩:=st;SH he h
def Ai{K:Ex}{x1:Nat}{tp:R5}(x:D')(t:Tok)(e it:KF)(J5:e≠it):Turn P w K (.Tuple t9 x1 tp) (Ites x) [e,it] e (λi h=>(∃ d9,IsEnum h e it i d9)/\h.IsStrIter it "str_ascii_iterator" x t i) where
 mem:=by simp
 obj:=λi h st b hb=>by
  obtain⟨⟨d9,he⟩,hit⟩:=st;rcases Fp.mp hb with z|z
  .rw[z];exact⟨_,he,λv z=>by cases z⟩
  .rw[Fl.mp z];obtain⟨o,ho,c,d⟩:=hit;exact⟨o,ho,λv z=>by rw[d] at z;cases z⟩
 keep:=λi h h' st k=>⟨let ⟨d9,he⟩:=st.1;⟨d9,k e (by simp) _ he⟩,let ⟨o,ho,r⟩:=st.2;⟨o,k it (by simp) o ho,r⟩⟩
 item:=by
  intro X hP hw hK hc i pins s σ H E I hf st hg;subst hP hw hK;have hi:i<x.cps.size:=hg;obtain⟨⟨d9,he⟩,hit⟩:=st;have fe:=hf e (by simp);have fi:=hf it (by simp);have le:e<s.heap.objs.size:=Heap.lt_size he;have li:it<s.heap.objs.size:=by obtain⟨o,ho,_⟩:=hit;exact Heap.lt_size ho
  refine wpAny_pyNext_enum_itemD (Draws.strAscii (A:=X.A.in1) (by exact I.ok.hd hc) it x t) he hit hi J5 (by simp[J5]) λu h' tk hP z8 JP hT g6 hk=>?_;obtain⟨c,tu,Je,rfl⟩:=hP;refine⟨_,rfl,S8 z8 λh2 MZ k9=>?_⟩;have o_:Heap.SameBut e h' h2:=k9;have nT:s.heap.objs.size≠e:=Gq le;have I1:Inv X pins σ (upd H s.heap.objs.size (.tup [.int i,.str ⟨#[c]⟩])) {s with heap:=h2,toks:=tk+1}:=sL I fe fi le li ⟨tu,rfl⟩ ((o_.2 _ nT).trans hT) λb o h1 h3 q=>(o_.2 b h1).trans (hk b o h1 h3 q);refine⟨.ref s.heap.objs.size,_,I1,rfl,⟨_,c,I.hok.fresh (Fo _),rfl,rfl,Je⟩,⟨⟨_,by simpa using MZ⟩,let ⟨o,ho,r⟩:=JP;⟨o,(o_.2 it (Ne.symm J5)).trans ho,r⟩⟩,λb hb=>?_⟩;rcases Fp.mp hb with z|z
  .rw[z,au (Fy le)];exact fe.1
  .rw[Fl.mp z,au (Fy li)];exact fi.1
 done:=by
  intro X hP hw hK hc i pins s σ H E I hf st hg;subst hP hw hK;have hi:i=x.cps.size:=hg;subst hi;obtain⟨⟨d9,he⟩,hit⟩:=st;obtain⟨f0,f1,f2,f3,f4,f5⟩:=hf it (by simp);exact wpAny_pyNext_enum_endD (Draws.strAscii (A:=X.A.in1) (by exact I.ok.hd hc) it x t) he hit λh' eb=>⟨rfl,I.turned (t':=s.toks) (λb o hb q=>eb b o hb q) f0 f1 f3 f4 f5⟩
 self:=λ_ _ _ _ _ st h=>let ⟨⟨d9,he⟩,_⟩:=st;SH he h
def iEnL(K:Ex)(ta:TA):TI:=λσ H R=>ta σ H λvs H1=>∃ a,vs=[.ref a]/\(∃ xs,SqL K H1 a xs)/\R (Itel K a) H1
def iEnS(ta:TA):TI:=λσ H R=>ta σ H λvs H1=>∃ x,vs=[.str x]/\x.cps.all (·<128)=true/\R (Ites x) H1
section
variable {X:Cx}{t9:List RP}{x1:Nat}{tp p pos:R5}{l:RP}{ta:TA}
def sM(hg:Gl X "enumerate")(hm:X.mg "enumerate"=m9)(ha:PA X [l] ta)(hs:autoParam (RV [l] X.env=[(false,R1 l X.env)]) zA0):PI X (.Tuple t9 x1 tp) (.Call (.Name "enumerate" p) [l] [] pos) (iEnL X.K ta):=by
 intro pins s σ H R I h;refine Call_ (dA I hg hm PyProof.Rows.boot_enumerate (PyProof.Rows.callWith_type1 (thn (ha pos pins s σ H _ I h) λus s1 ⟨vs,H1,I1,r1,q1⟩=>?_) hs rfl));obtain⟨a,rfl,⟨xs,hq⟩,q⟩:=q1;obtain⟨u,rfl,ru⟩:=bY r1;cases ru;obtain⟨its,rv,pl,hz⟩:=I1.list hq;refine call_enumerate_list pl.isList λh' he hit g6 hk=>?_;have I2:Inv X pins σ H1 {s1 with heap:=h'}:=I1.kept (t':=s1.toks) hk;refine SH he ?_;have ne:s1.heap.objs.size+1≠s1.heap.objs.size:=Ib _;refine⟨s1.heap.objs.size+1,[s1.heap.objs.size+1,s1.heap.objs.size],_,_,H1,rfl,I2,Ah a _ _ ne,⟨⟨_,he⟩,hit⟩,λb hb=>?_,q⟩;rcases Fp.mp hb with z|z
 .rw[z];exact I1.fpOk (Gs _) (I1.hok.fresh (Gs _))
 .rw[Fl.mp z];exact I1.fpOk (Fo _) (I1.hok.fresh (Fo _))
def Aj(hg:Gl X "enumerate")(hm:X.mg "enumerate"=m9)(ha:PA X [l] ta)(hs:autoParam (RV [l] X.env=[(false,R1 l X.env)]) zA0):PI X (.Tuple t9 x1 tp) (.Call (.Name "enumerate" p) [l] [] pos) (iEnS ta):=by
 intro pins s σ H R I h;refine Call_ (dA I hg hm PyProof.Rows.boot_enumerate (PyProof.Rows.callWith_type1 (thn (ha pos pins s σ H _ I h) λus s1 ⟨vs,H1,I1,r1,q1⟩=>?_) hs rfl));obtain⟨x,rfl,M0,q⟩:=q1;obtain⟨u,rfl,t,rfl⟩:=bY r1;refine call_enumerate_str λh' he hit g6 hk=>?_;have I2:Inv X pins σ H1 {s1 with heap:=h'}:=I1.kept (t':=s1.toks) hk;refine SH he ?_;have ne:s1.heap.objs.size+1≠s1.heap.objs.size:=Ib _;have Qr:strIterType x="str_ascii_iterator":=by unfold strIterType;rw[M0];rfl
 rw[Qr] at hit;refine⟨s1.heap.objs.size+1,[s1.heap.objs.size+1,s1.heap.objs.size],_,_,H1,rfl,I2,Ai x t _ _ ne,⟨⟨_,he⟩,hit⟩,λb hb=>?_,q⟩;rcases Fp.mp hb with z|z
 .rw[z];exact I1.fpOk (Gs _) (I1.hok.fresh (Gs _))
 .rw[Fl.mp z];exact I1.fpOk (Fo _) (I1.hok.fresh (Fo _))
end
end L2
namespace My
open Exc
section
variable {X:Cx}[J:Jm]{a b c e o:RP}{ta tb tc te to:TME}{pos:R5}{st:RO}{rest:List RO}{t u:TMS}
def sN{K:Ex}{F:Hp}:∀ (is:List Nat) (ds:List D) (vs:List V) (z:SD),Reps K F ds vs->(∀ (i:Nat) d,z[i]?≠be (be (.own d)))->∀ (i:Nat) d,(aV is ds z)[i]?≠be (be (.own d))
 |[],_,_,z,_,h=>h
 |_::_,[],_,z,_,h=>h
 |i::is,d::ds,vs,z,r,h=>by
  obtain⟨v,vr,rfl,r1,r2⟩:=reps_cons.mp r;refine sN is ds vr _ r2 λj q e=>?_;by_cases hj:i=j
  .subst hj;rw[GN] at e;simp at e;have:=r1.noown;rw[e.2] at this;cases this
  .rw[FM hj] at e;exact h j q e
def mItE(t:TME):TMI:=λz M R=>t z M λx M1=>match x with| .lst ds=>R ds M1|_=>False
def Ak(t:TME):TMI:=λz M R=>t z M λx M1=>match x with| .str x=>x.cps.all (·<128)=true/\R (dI x) M1|_=>False
def sO(is:List Nat)(ti:TMI)(tb:TMS):TMS:=λE z M=>ti z M λds M1=>∃ W:Nat->SD->MS->Prop,W 0 z M1/\(∀ (k:Nat) x z M,ds[k]?=be x->W k z M->tb {E with nx:=W (k+1),ct:=W (k+1),bk:=E.nx} (aV is [.int k,x] z) M)/\∀ z M,W ds.length z M->E.nx z M
variable{is:List Nat}
def sP{K:Ex}{F0 F1 H1:Hp}{z:SD}{s:L2.St}{M1:MS}{E:Ends}{ED:EndsM}{It':It}{g:TG}{tb:TMS}{tbv:TS}{ds:List D}(hK:K=X.K)(k1:Kept J.B F0 F1 H1)(u9:RepZ K J.B F1 H1 z s M1)(e:EndsOkM K F0 ED E)(a_:is.length=2)
  (go:∀ k F' H',Same F1 F'->Same F' H'->k<ds.length->It'.go k H') (stop:∀ F' H',Same F1 F'->Same F' H'->It'.stop ds.length H')
  (yld:∀ k F' H' x H'',Same F1 F'->Same F' H'->k<ds.length->It'.yld k H' x H''->∃ T d v,H' T=m9/\x= .ref T/\H''=upd H' T (.tup [.int k,v])/\ds[k]?=be d/\Rep K F' d v)
  (hg:∀ (dd:List D) (vs:List V) (T:KF) (z:SD) (s:L2.St) (F H:Hp) (Q:L2.St->Hp->Prop),dd.length=2->H T=be (.tup vs)->Reps K F dd vs->RepS K J.B F H z s->(∀ s',RepS K J.B F H (aV is dd z) s'->Q s' H)->g (.ref T) s H Q)
  (M4:∀ E s H,mS K tb E s H->tbv E s H)
  (hd:∃ W:Nat->SD->MS->Prop,W 0 z M1/\(∀ (k:Nat) x z M,ds[k]?=be x->W k z M->tb {ED with nx:=W (k+1),ct:=W (k+1),bk:=ED.nx} (aV is [.int k,x] z) M)/\∀ z M,W ds.length z M->ED.nx z M):
  ∃ W:Nat->Nat->L2.St->Hp->Prop,(∃ m,W 0 m s H1)/\∀ i m σ H,W i m σ H->
   (It'.stop i H/\E.nx σ H)\/(It'.go i H/\∃ N:L2.St->Hp->Prop,(∀ σ' H',N σ' H'->∃ m',m'<m/\W (i+1) m' σ' H')/\∀ x H',It'.yld i H x H'->g x σ H' λσ2 H2=>tbv {E with nx:=N,ct:=N,bk:=E.nx} σ2 H2):=by
 obtain⟨W,w0,c5,out⟩:=hd;refine⟨λk m s' H'=>m=ds.length - k/\k<=ds.length/\∃ F' z' M',Kept J.B F0 F' H'/\Same F1 F'/\RepZ K J.B F' H' z' s' M'/\W k z' M',⟨ds.length,by simp,FR _,F1,z,M1,k1,Same.refl F1,u9,w0⟩,?_⟩;rintro k m s' H' ⟨rfl,hk,F',z',M',k',g',r',w'⟩;by_cases g5:k<ds.length
 .refine .inr ⟨go k F' H' g' k'.fh g5,λs3 H3=>∃ F3 z3 M3,Kept J.B F0 F3 H3/\Same F1 F3/\RepZ K J.B F3 H3 z3 s3 M3/\W (k+1) z3 M3,λs3 H3 h3=>⟨ds.length - (k+1),by lia,rfl,g5,h3⟩,λx H'' hy=>?_⟩;obtain⟨T,d,v,hT,rfl,rfl,hd,rd⟩:=yld k F' H' x H'' g' k'.fh g5 hy;have gn:=Grow.new k'.fh hT (.tup [.int k,v]);have k2:=k'.grow gn;have r2:=r'.growM k'.bh gn.toM (r'.rm.grow gn);have rp:Reps K (upd F' T (.tup [.int k,v])) [.int k,d] [.int k,v]:=reps_cons.mpr ⟨_,_,rfl,rep_int.mpr rfl,eL (rd.mono gn.ff)⟩;refine hg [.int k,d] _ T z' s' _ _ _ rfl aC rp r2.rs λs2 Jj=>M4 _ _ _ ?_;have gF:Same F1 (upd F' T (.tup [.int k,v])):=g'.trans gn.ff;refine⟨upd F' T (.tup [.int k,v]),upd F' T (.tup [.int k,v]),_,M',⟨k2.bh,k2.fh,Same.refl _,λb h1 _=>h1,k2.eb,k2.jf.trans k2.f0,λb h1 h2=>k2.out b (k2.jo b h1 h2) h2⟩,⟨Jj,sN is _ _ z' rp r2.no,r2.rm,r2.mb⟩,_,c5 k d z' M' hd w',?_⟩;have up:∀ {F3 H3:Hp},Kept J.B (upd F' T (.tup [.int k,v])) F3 H3->Kept J.B F0 F3 H3:=λk3=>⟨k3.bh,k3.fh,k2.f0.trans k3.f0,λb h1 h2=>k3.out b (k2.out b h1 h2) h2,k2.eb,k2.jf,k2.jo⟩;exact⟨λz3 s3 M3 F3 H3 k3 h3 r3=>⟨F3,z3,M3,up k3,gF.trans k3.f0,r3,h3⟩,λd v M3 F3 H3 k3=>e.rt d v M3 F3 H3 (up k3),λz3 s3 M3 F3 H3 k3=>e.nx z3 s3 M3 F3 H3 (up k3),λz3 s3 M3 F3 H3 k3 h3 r3=>⟨F3,z3,M3,up k3,gF.trans k3.f0,r3,h3⟩⟩
 .have ek:k=ds.length:=by lia
  subst ek;exact .inl ⟨stop F' H' g' k'.fh,e.nx z' s' M' F' H' k' (out z' M' w') r'⟩
variable{es:List RP}{body:List RO}
def Al{x1:Nat}{tp p1 p2:R5}{tb:TMS}(hp:Se (RR X.prog X.w) X.A X.env X.xe)(hc:X.calm=true)(hm:X.mg "enumerate"=m9)(he:ME X e te)(hG:DGs X es is)(hb:MSs X body tb)(a_:autoParam (is.length=2) zA0)(hg:autoParam (Gl X "enumerate") zA0)
  (hn:autoParam ((RW es X.env).length=2) zA0) (l_:autoParam ((RW es X.env).findIdx? (·.1)=none) zA0)
  (hs:autoParam (∀ y,zFS X (.Call (.Name "enumerate" p1) [e] [] p2) y) zA2) (t6:autoParam (zSE X e []) zA0) (f_:autoParam (RV [e] X.env=[(false,R1 e X.env)]) zA0):
  MSt X (.For (.Tuple es x1 tp) (.Call (.Name "enumerate" p1) [e] [] p2) body [] pos) (sO is (mItE te) tb):=by
 obtain⟨ug,JQ,kk⟩:=hG;refine⟨(dB hp hc (sM hg hm (bx he.out pa_nil t6) f_) (fD hc JQ hn l_) hb.out hs).anti λE s H q=>?_⟩;obtain⟨F0,F,z,M,kp,rs,ED,h,e⟩:=q;refine⟨F,z,M,kp.kf,rs,_,h,λd v M1 F1 H1 g1 hd rd m1=>?_⟩;split at hd
 .rename_i ds;obtain⟨p,vs,rfl,hq,rr⟩:=rep_lst.mp rd;refine⟨p,rfl,⟨vs,SqL.of (g1.fh _ _ hq)⟩,sP (It':=Itel X.K p) rfl (kp.growM rs.mb g1) (rs.growM kp.bh g1 m1) e a_ (λk F' H' s1 s2 hk=>?_) (λF' H' s1 s2=>?_) (λk F' H' x H'' s1 s2 hk hy=>?_) (λdd q9 T z s F H Q hl hT rp Jk hQ=>?_) (λ_ _ _ h=>h) hd⟩
  .have n_:k<vs.length:=by rw[rr.length];exact hk
   exact⟨vs,vs[k],SqL.of (s2 _ _ (s1 _ _ hq)),by simp[n_]⟩
  .exact⟨vs,SqL.of (s2 _ _ (s1 _ _ hq)),by rw[rr.length];exact Fo _⟩
  .obtain⟨T,v,hT,e1,e2,hv⟩:=hy;obtain⟨d,hd,rd⟩:=rr.get' (hv vs (SqL.of (s2 _ _ (s1 _ _ hq))));exact⟨T,d,v,hT,e1,e2,hd,rd.mono s1⟩
  .exact⟨T,q9,rfl,SqT.of hT,by rw[rp.length];exact hl,kk dd q9 z s J.B F H Q (by rw[hl,a_]) rp Jk hQ⟩
 .exact hd.elim
def Am{x1:Nat}{tp p1 p2:R5}{tb:TMS}(hp:Se (RR X.prog X.w) X.A X.env X.xe)(hc:X.calm=true)(hm:X.mg "enumerate"=m9)(he:ME X e te)(hG:DGs X es is)(hb:MSs X body tb)(a_:autoParam (is.length=2) zA0)(hg:autoParam (Gl X "enumerate") zA0)
  (hn:autoParam ((RW es X.env).length=2) zA0) (l_:autoParam ((RW es X.env).findIdx? (·.1)=none) zA0)
  (hs:autoParam (∀ y,zFS X (.Call (.Name "enumerate" p1) [e] [] p2) y) zA2) (t6:autoParam (zSE X e []) zA0) (f_:autoParam (RV [e] X.env=[(false,R1 e X.env)]) zA0):
  MSt X (.For (.Tuple es x1 tp) (.Call (.Name "enumerate" p1) [e] [] p2) body [] pos) (sO is (Ak te) tb):=by
 obtain⟨ug,JQ,kk⟩:=hG;refine⟨(dB hp hc (Aj hg hm (bx he.out pa_nil t6) f_) (fD hc JQ hn l_) hb.out hs).anti λE s H q=>?_⟩;obtain⟨F0,F,z,M,kp,rs,ED,h,e⟩:=q;refine⟨F,z,M,kp.kf,rs,_,h,λd v M1 F1 H1 g1 hd rd m1=>?_⟩;split at hd
 .rename_i x;obtain⟨ha,hd⟩:=hd;have hl:=sq x;refine⟨x,by rw[rep_str.mp rd],ha,sP (It':=Ites x) rfl (kp.growM rs.mb g1) (rs.growM kp.bh g1 m1) e a_ (λk F' H' s1 s2 hk=>?_) (λF' H' s1 s2=>?_) (λk F' H' x H'' s1 s2 hk hy=>?_) (λdd q9 T z s F H Q hl hT rp Jk hQ=>?_) (λ_ _ _ h=>h) hd⟩
  .rw[hl] at hk;exact hk
  .exact hl
  .obtain⟨T,c,hT,e1,e2,hc⟩:=hy;exact⟨T,.str ⟨#[c]⟩,.str ⟨#[c]⟩,hT,e1,e2,zw hc,rep_str.mpr rfl⟩
  .exact⟨T,q9,rfl,SqT.of hT,by rw[rp.length];exact hl,kk dd q9 z s J.B F H Q (by rw[hl,a_]) rp Jk hQ⟩
 .exact hd.elim
end
end My
namespace L2
section
variable {prog:P3}{w:RT}{K:Type}[DecidableEq K]{j_:HeapKind prog w K}{A:RU}{E:KB->KM->Prop}{s:KM}{d a:KF}{k:K}{xs:List (K × KF × KB)}
def An{v:KB}{Q:KB->KM->Prop}(hu:j_.room A)(n4:j_.is s.heap k a)(hm:s.heap.DictOfH j_ d xs)
  (h1:∀ p,S6 xs k=be p->Q p.2 {s with toks:=s.toks+j_.draws k})
  (h2:S6 xs k=m9->∀ h',h'.DictOfH j_ d (xs++[(k,a,v)])->Heap.SameBut d s.heap h'->Q v {s with heap:=h',toks:=s.toks+j_.draws k})
  (g6:xs.length<=sizeLine):RS (RR prog w) A (S9 d (.ref a) v) Q E s:=by
 obtain⟨o,es,ep,ho,hc,hd,he,O0,hn⟩:=hm;unfold S9
 try with_reducible refine Sj ?_
 refine Os (j_.pyHash hu n4 ?_);refine Os (wpAny_dictFind_heap (s:={s with toks:=s.toks+j_.draws k}) hu n4 ho hd he O0 hn ?_ ?_)
 .intro d6;have M5:k ∉ xs.map (·.1):=not_mem_keys_of_get d6;refine Os (TB (Os (wpAny_updateDictKeys (hz:=by have e:=size_of_entries he;lia) (s:={s with toks:=s.toks+j_.draws k}) ho hd (RQ (h2 (atKey_none_of_get d6) _ ⟨_,_,ep+1,Heap.get?_update_self _ ho (Obj.isFreed_of_dict (Obj.data_mapDictKeys hd _)),
   hc.mapDictKeys _,Obj.data_mapDictKeys hd _,?_,?_,?_⟩ (Heap.SameBut.update ..))))))
  .simp[he,entryOfKey]
  .intro x hx;rcases FO.mp hx with hx|hx
   .exact j_.keeps (O0 x hx) ho hd (Heap.SameBut.update ..)
   .simp only[Fl] at hx;subst hx;exact j_.keeps n4 ho hd (Heap.SameBut.update ..)
  .rw[FX,GQ];refine⟨hn,by simp,?_⟩;intro x hx y hy;simp only[FB,Gi,Fl] at hy;subst hy;exact λe=>M5 (e ▸ hx)
 .intro j p hj;refine Os (wpAny_dictEntries (s:={s with toks:=s.toks+j_.draws k}) ho hd ?_);rw[entry_at he j,hj];exact Os (TB (RQ (h1 p (atKey_of_get hn hj))))
def Ao(j_:HeapKind prog w K)(d a:KF)(hd:(d==Sh)=false)(v:KB):
  MeetsIn prog w (Builtin.«dict.setdefault» ⟨[.ref d,.ref a,v],[]⟩) (λA R s=>j_.room A.in1/\∃ k xs,j_.is s.heap k a/\s.heap.DictOfH j_ d xs/\xs.length<=sizeLine/\
   (∀ p,S6 xs k=be p->R (.ok (.ret p.2)) {s with toks:=s.toks+j_.draws k})/\
   (S6 xs k=m9->∀ h',h'.DictOfH j_ d (xs++[(k,a,v)])->Heap.SameBut d s.heap h'->R (.ok (.ret v)) {s with heap:=h',toks:=s.toks+j_.draws k})):=
 .of_wp λA R s hh=>by
  obtain⟨hu,k,xs,n4,hm,hz,h1,h2⟩:=hh;unfold Builtin.«dict.setdefault»;refine Os ?_;unfold Builtin.Dict.keyAndDefault;refine Os (wpAny_notOrdered_dict hm.typeIs ?_);show RS _ _ (pure (d,Value.ref a,be v)) _ _ s;refine RQ ?_;show RS _ _ (if(d==Sh)=true then _ else(S9 d (.ref a) v>>=_)) _ _ s;rw[if_neg (by rw[hd];exact Fz)];exact Os (An hu n4 hm (λp hp=>RQ ⟨p.2,rfl,h1 p hp⟩) (λhn h' Mp A_=>RQ ⟨v,rfl,h2 hn h' Mp A_⟩) hz)
end
end L2
namespace My
open Exc
def lookD:List ((Int × Int) × Int)->Int->Int->Option Int
 |[],_,_=>m9
 |((a,b),h)::r,x,y=>if a=x/\b=y then be h else lookD r x y
def ko(x y:Int):∀ a8:List ((Int × Int) × Int),valV (dtiV a8) [.inl x,.inl y]=(lookD a8 x y).map V.int
 |[]=>rfl
 |((a,b),h)::r=>by
  show valV (([.inl a,.inl b],V.int h)::dtiV r) _=_;unfold lookD;by_cases e:a=x/\b=y
  .rw[if_pos e,jF (by rw[e.1,e.2])];rfl
  .rw[if_neg e,jG (λz=>e (by
    have z':([Sum.inl a,Sum.inl b]:List Key)=[.inl x,.inl y]:=z;injection z' with z1 z2;injection z2 with z2 _;exact⟨Sum.inl.inj z1,Sum.inl.inj z2⟩)),ko x y r]
def sdD(a8:List ((Int × Int) × Int))(x y v:Int):List ((Int × Int) × Int):=if(lookD a8 x y).isSome then a8 else a8++[((x,y),v)]
def Ap:V->List V->Hp->VK->Prop:=λx vs H Q=>∃ a b i j d a8,x= .ref a/\vs=[.ref b,.int d]/\H a=be (.dT (dtiV a8))/\H b=be (.tup [.int i,.int j])/\Q (.int ((lookD a8 i j).getD d)) H
def Aq{X:Cx}(hu:X.A.units+1<Tc):MtR X "dict.get" Ap:=by
 intro pins s σ H x vs v us Q I rx rv h;obtain⟨a,b,i,j,d,a8,rfl,rfl,ha,hb,q⟩:=h;obtain⟨u,u',rfl,ru,rd⟩:=gv rv;cases(show v=Value.ref a from rx);refine xK hu I (DGet.t (k:=[.inl i,.inl j]) ha hb) ru rd λw' s' I' i9=>⟨.int ((lookD a8 i j).getD d),H,I',?_,q⟩;rw[ko] at i9;cases e:lookD a8 i j with
 |none=>rw[e] at i9;exact i9
 |some z=>rw[e] at i9;exact i9
def rSdT:V->List V->Hp->VK->Prop:=λx vs H Q=>∃ a b i j d a8,x= .ref a/\vs=[.ref b,.int d]/\H a=be (.dT (dtiV a8))/\H b=be (.tup [.int i,.int j])/\a8.length<100000/\∀ w,Q (.int w) (upd H a (.dT (dtiV (sdD a8 i j d))))
def Ar{H:Hp}{a:KF}{o:HO}(h:H a=be o):upd H a o=H:=by
 funext b;by_cases e:b=a
 .subst e;rw[aC,h]
 .rw[au e]
def As{X:Cx}(hu:X.A.units+1<Tc):MtR X "dict.setdefault" rSdT:=by
 intro pins s σ H x vs v us Q I rx rv h;obtain⟨a,b,i,j,d,a8,rfl,rfl,ha,hb,hl,q⟩:=h;obtain⟨u,u',rfl,ru,t,rfl⟩:=gv rv;cases(show v=Value.ref a from rx);cases(show u=Value.ref b from ru);obtain⟨z,hd,xs,rel,dd⟩:=xG I.hok ha;have a_:xs.length=a8.length:=by rw[<- Paired.length rel];simp[dtiV]
 have big:(100000:Nat)<sizeLine:=by decide
 have i6:H b=be (.tup (([.inl i,.inl j]:List Key).map kV)):=hb;have k6:=rel.val [.inl i,.inl j];rw[ko] at k6;refine Tp PySem.F.slot_dict_setdefault dd.typeIs PySem.F.entry_dict_setdefault (PySem.F.args_dict_setdefault_3 _ _ _) (Ao (SK (bD X.prog X.w)) a b hd (.int d t)) ⟨TK hu,[.inl i,.inl j],xs,key_of I.hok i6,dd,by lia,λp hp=>?_,λhn h' LN hs=>?_⟩
 .rw[hp] at k6;cases e:lookD a8 i j with
  |none=>rw[e] at k6;exact k6.elim
  |some w=>
   rw[e] at k6;have:=q w;unfold sdD at this;rw[e] at this;have e2:(if(be w:Option Int).isSome then a8 else a8++[((i,j),d)])=a8:=rfl;rw[e2,Ar ha] at this;exact⟨.int w,H,I.tok _,k6,this⟩
 .rw[hn] at k6;cases e:lookD a8 i j with
  |some w=>rw[e] at k6;exact k6.elim
  |none=>
   have e2:sdD a8 i j d=a8++[((i,j),d)]:=by unfold sdD;rw[e];rfl
   have e3:dtiV (sdD a8 i j d)=dtiV a8++[([.inl i,.inl j],.int d)]:=by rw[e2];simp[dtiV]
   obtain⟨o,es,ep,ho,hx,h3,h4,_,h5⟩:=LN;have new:ObjOk X.prog X.w (upd H a (.dT (dtiV (sdD a8 i j d)))) h' a (.dT (dtiV (sdD a8 i j d))):=by
    refine⟨by rw[e3,Fx];simp[dtiV];lia,hd,_,?_,o,es,ep,ho,hx,h3,h4,h5⟩;rw[e3];refine KT.keeps (H:=H) (Paired.snoc (a:=(([.inl i,.inl j]:List Key),V.int d)) (b:=(([.inl i,.inl j]:List Key),b,Value.int d t)) rel ⟨rfl,i6,⟨t,rfl⟩⟩) λc ys ec=>?_;rw[au (vz ec ha (λz=>nomatch z))];exact ec
   exact⟨.int d,_,xH I (by rw[ha];exact True.intro) hs ⟨o,ho⟩ new,⟨t,rfl⟩,q d⟩
section
variable {X:Cx}[J:Jm]{a b c e o f:RP}{ta tb tc te to:TME}{pos apos cpos:R5}{t:TMA}
def mD0:TME:=λ_ M R=>R (.dti []) M
def Au:ME X (.Dict [] [] pos) mD0:=⟨pe_dnewT.anti λs H Q q=>by
 obtain⟨F,z,M,k,rs,R,h1,h2⟩:=q;intro p hp;have gn:=Grow.new k.fh hp (.dT []);exact h2 _ _ M _ _ gn.toM h1 (rep_dti.mpr ⟨p,rfl,aC⟩) (rs.rm.grow gn)⟩
def mDN:TME:=λ_ M R=>∀ p,p ∉ az M->R (.ptr p) ((p,.dti [])::M)
def Av:ME X (.Dict [] [] pos) mDN:=⟨pe_dnewT.anti λs H Q q=>by
 obtain⟨F,z,M,k,rs,R,h1,h2⟩:=q;intro p hp;exact h2 _ _ _ F _ (GrowM.new k.fh hp) (h1 p λz=>rs.rm.here z hp) (rep_ptr.mpr rfl) (rs.rm.new k.fh hp aC)⟩
def Aw(to:TME)(t:TMA):TME:=λz M R=>to z M λd M1=>match d with| .dti a8=>(t z M1 λds M2=>match ds with|[.tup [.int i,.int j],.int x]=>R (.int ((lookD a8 i j).getD x)) M2|_=>False)|_=>False
def Ax(hu:X.A.units+1<Tc)(ho:ME X o to)(ha:MA X [e,f] t)(b9:autoParam (RZ o "get" X.env (R1 o X.env)=R1 o X.env) zA0)
  (d_:autoParam (zHF X cpos [e,f]) zA0)
  (c9:autoParam ((apos.endLine==cpos.line)=true) zA0) (m6:autoParam (zSE X e [f]) zA0) (c7:autoParam (zPL X cpos [f]) zA0):
  ME X (.Call (.Attribute o "get" apos) [e,f] [] cpos) (Aw to t):=⟨(dZ PySem.F.plainAttrs_dict PySem.F.slot_dict_get PySem.F.type_dict_get (Aq hu) ho.out ha.out b9 d_ c9 m6 c7).anti λs H Q h=>by
 obtain⟨F,z,M,k,rs,R,h1,h2⟩:=h;refine⟨F,z,M,k,rs,_,h1,λx u M1 F1 H1 g1 hx rx m1=>?_⟩;split at hx
 .rename_i a8;obtain⟨p,rfl,hp⟩:=rep_dti.mp rx;refine⟨.inr (.inr (.inl ⟨rfl,.inr ⟨_,g1.fh _ _ hp⟩⟩)),?_⟩;refine⟨F1,z,M1,k.growM rs.mb g1,rs.growM k.bh g1 m1,_,hx,λds vs M2 F2 H2 g2 hd rd m2=>?_⟩;split at hd
  .rename_i i j x;obtain⟨v1,r1,rfl,q1,q2⟩:=reps_cons.mp rd;obtain⟨v2,r2,rfl,q3,q4⟩:=reps_cons.mp q2;rw[reps_nil.mp q4,rep_int.mp q3];obtain⟨b,us,rfl,hb,ru⟩:=rep_tupS.mp q1;have M6:us=[.int i,.int j]:=(Reps.ints (ns:=[i,j])).mp ru;subst M6;exact⟨p,b,i,j,x,a8,rfl,rfl,g2.fh _ _ (g2.ff _ _ hp),g2.fh _ _ hb,h2 _ _ M2 F2 H2 (g1.trans g2) hd (rep_int.mpr rfl) m2⟩
  .exact hd.elim
 .exact hx.elim⟩
def mDsd(to:TME)(t:TMA):TME:=λz M R=>to z M λd M1=>match d with| .ptr a=>(∃ a8,mget M1 a=be (.dti a8))/\(t z M1 λds M2=>match ds with|[.tup [.int i,.int j],.int x]=>∃ a8,mget M2 a=be (.dti a8)/\a8.length<100000/\∀ w,R (.int w) (mput M2 a (.dti (sdD a8 i j x)))|_=>False)|_=>False
def Ay(hu:X.A.units+1<Tc)(ho:ME X o to)(ha:MA X [e,f] t)(b9:autoParam (RZ o "setdefault" X.env (R1 o X.env)=R1 o X.env) zA0)
  (d_:autoParam (zHF X cpos [e,f]) zA0)
  (c9:autoParam ((apos.endLine==cpos.line)=true) zA0) (m6:autoParam (zSE X e [f]) zA0) (c7:autoParam (zPL X cpos [f]) zA0):
  ME X (.Call (.Attribute o "setdefault" apos) [e,f] [] cpos) (mDsd to t):=⟨(dZ PySem.F.plainAttrs_dict PySem.F.slot_dict_setdefault PySem.F.type_dict_setdefault (As hu) ho.out ha.out b9 d_ c9 m6 c7).anti λs H Q h=>by
 obtain⟨F,z,M,k,rs,R,h1,h2⟩:=h;refine⟨F,z,M,k,rs,_,h1,λx u M1 F1 H1 g1 hx rx m1=>?_⟩;split at hx
 .rename_i a;obtain⟨⟨Ru,MX⟩,hx⟩:=hx;rw[rep_ptr.mp rx];refine⟨.inr (.inr (.inl ⟨rfl,.inr ⟨_,m1.ok _ _ (bT MX)⟩⟩)),?_⟩;refine⟨F1,z,M1,k.growM rs.mb g1,rs.growM k.bh g1 m1,_,hx,λds vs M2 F2 H2 g2 hd rd m2=>?_⟩;split at hd
  .rename_i i j x;obtain⟨a8,hm,hl,hR⟩:=hd;obtain⟨v1,r1,rfl,q1,q2⟩:=reps_cons.mp rd;obtain⟨v2,r2,rfl,q3,q4⟩:=reps_cons.mp q2;rw[reps_nil.mp q4,rep_int.mp q3];obtain⟨b,us,rfl,hb,ru⟩:=rep_tupS.mp q1;have M6:us=[.int i,.int j]:=(Reps.ints (ns:=[i,j])).mp ru;subst M6;refine⟨a,b,i,j,x,a8,rfl,rfl,m2.ok _ _ (bT hm),g2.fh _ _ hb,hl,λw=>?_⟩;exact h2 _ _ _ F2 _ (g1.trans (g2.trans (GrowM.put g2.fh (m2.fr a (cw (bT hm))) hm))) (hR w) (rep_int.mpr rfl) (m2.put hm aC)
  .exact hd.elim
 .exact hx.elim⟩
end
section
variable {P:P3}{w:RT}{K:Ex}{mg:D'->Option KB}{base:Heap}
open Classical in
def Cls.okIM{x qual:D'}{st:RO}{f C:KF}{fd:RY}{N:List D'}{p0:D'}{ps:List D'}{k:Nat}{S:SiD}(T:Fun K "__init__" qual st f fd)(hb:Binds K fd (p0::ps) [])(F:FnScope N (p0::ps) (ag st))(len:∀ ds R,S ds R->ds.length=ps.length)
  (hns:nsIn K Pi x=be (be (.ref C))) (m5:mg x=be (.ref C)) (mk:Mk K C f)
  (a9:∀ (cdv:KB) (A:RU) (outer:List SE) (s:KM) (H:Hp) (E:XK) (J:Jm),Room k (A.deeper (R7 qual (ag st) s.heap.objs.size f cdv))->XOkM (cxOf (CX1 P w) P w K mg base N qual (ag st) f cdv A outer s H E).nox->
   ∃ t,MSs (cxOf (CX1 P w) P w K mg base N qual (ag st) f cdv A outer s H E).nox (aK st) t/\∀ a ds R,(∀ z M x fs,¬ J.RM z M x fs)->S ds R->t {nx:=λ_ M'=>∃ fs,M'=[(a,.ins x fs)]/\R fs,rt:=λ_ _=>False} (startD N (.ptr a::ds)) [(a,.ins x [])]):CalM P w K mg base (k+1) x (p0::ps) S:=by
 refine⟨C,f,fd,hns,m5,mk,Fun.okC T F (λvs H Q E h=>?_) (λcdv A outer s H vs Q E hr h=>?_),hb⟩
 .obtain⟨a,dx,us,H1,F,ds,rfl,_,_,_,_,_,rs,R,h,_⟩:=h;rw[Fq,Fq,rs.length,len ds R h]
 .obtain⟨a,dx,us,H1,F1,ds,rfl,rfl,ha,v9,j3,fh,rs,R,h,q⟩:=h
  let H:Hp:=upd (upd H1 dx (.own a)) a (.ins C dx [])
  let B:Hp:=λb=>if b=a then m9 else H b
  have O1:B a=none:=if_pos rfl;have hB:∀ {b:KF},b≠a->B b=H b:=λ{b} h=>if_neg h;have IP:∀ {b:KF} {o:HO},H1 b=be o->b≠a/\H b=be o:=λ{b o} e=>by
   have n1:b≠a:=bQ e ha;exact⟨n1,by show upd _ _ _ b=_;rw[au n1,au (bQ e v9)];exact e⟩
  letI:Jm:={B:=B,F0:=F1,RX:=λ_ _ _=>False,RM:=λ_ _ _ _=>False}
  have hx:XOkM (cxOf (CX1 P w) P w K mg base N qual (ag st) f cdv A outer s H E).nox:=λσ z M' F' H' s' e C od y fs I kk rr hR er _=>hR.elim;obtain⟨t,ht,hq⟩:=a9 cdv A outer s H E inferInstance hr hx;have Fa:F1 a=none:=fh.free ha;have k0:Kept B F1 F1 H:=⟨λb o e=>by
   by_cases n:b=a
   .rw[n,O1] at e;cases e
   .rw[hB n] at e;exact e,λb o e=>(IP (fh b o e)).2,Same.refl F1,λ_ h _=>h,rfl,Same.refl F1,λ_ h _=>h⟩
  have Jk:Reps K F1 (.ptr a::ds) (.ref a::us):=reps_cons.mpr ⟨_,_,rfl,rep_ptr.mpr rfl,rs⟩;have Qs:RepM K F1 H [(a,.ins x [])]:=⟨by simp[az],λb o hb=>by
   have e:=Fl.mp hb;cases e;exact⟨C,dx,[],hns,aC,repf_nil.mpr rfl⟩,λb hb=>by
   have e:b=a:=by simpa[az] using hb
   rw[e];exact Fa⟩
  have r0:RepZ K B F1 H (startD N (.ptr a::ds)) (L2.start N (.ref a::us)) [(a,.ins x [])]:=⟨eg Jk,sK Jk,Qs,λb hb=>by
   have e:b=a:=by simpa[az] using hb
   rw[e];exact O1⟩
  refine⟨_,ht.out.nox,F1,F1,_,_,k0,r0,_,hq a ds R (λ_ _ _ _ z=>z) h,⟨λz' s' M' F' H' kk hn r=>?_,λd v M' F' H' kk hd rd OZ mb=>hd.elim,λ_ _ _ _ _ _ h _=>h.elim,λ_ _ _ _ _ _ h _=>h.elim⟩⟩;obtain⟨fs,rfl,hR⟩:=hn;obtain⟨C',IN,ws,k8,f7,rf⟩:=r.rm.ok a _ (Fl.mpr rfl);have A':nsIn K Pi x=be (be (.ref C')):=k8;rw[hns] at A';cases A';exact q fs ws IN F' H' ⟨kk.f0,kk.fh,λb o e=>kk.bh b o (by show B b=be o;rw[hB (IP e).1];exact(IP e).2),λb h1 h2=>kk.out b h1 (by
   show B b≠m9;cases e:H1 b with
   |none=>exact absurd e h2
   |some o=>rw[hB (IP e).1,(IP e).2];exact λz=>nomatch z)⟩ hR f7 (r.rm.fr a (by simp[az])) rf
end
section
variable {P:P3}{w:RT}{K:Ex}{mg:D'->Option KB}{base:Heap}{n:Nat}{x m:D'}{ps:List D'}
variable{S:SpM}
def CalMth.one(h:CalMth P w K mg base n x m ps (lSpM K S)):∀ y,y∈[x]->CalMth P w K mg base n y m ps (lSpM K ((λ_=>S) y)):=λy hy=>by
 rw[Fl.mp hy];exact h
def sQ{f:KF}{fd:RY}{sp:Sp}(h:∀ vs H Q E,¬ sp vs H Q E):FnOk P w K mg base (CX1 P w) n f fd ps sp:=⟨λvs H Q E q=>(h _ _ _ _ q).elim,λA outer s H args us vs Q E _ _ _ _ q=>(h _ _ _ _ q).elim⟩
def sR(h:∀ ds M R RX,¬ S ds M R RX):∀ vs H Q E,¬ lSpM K S vs H Q E:=by
 rintro vs H Q E ⟨F,ds,M,_,_,_,R,RX,q,_⟩;exact h ds M R RX q
def CalMth.never{qual:D'}{st:RO}(T:Txm K x m qual st ps)(h:∀ ds M R RX,¬ S ds M R RX):CalMth P w K mg base n x m ps (lSpM K S):=by
 obtain⟨C,f,fd,h1,h2,h3,T,hb⟩:=T;exact⟨C,f,fd,h1,h2,h3,sQ (sR h),hb⟩
def CalMM.never{st:RO}(T:Tx K mg x st ps)(h:∀ ds M R RX,¬ S ds M R RX):CalMM P w K mg base n x ps S:=by
 obtain⟨f,fd,T,hb,hm⟩:=T;exact⟨f,fd,sQ (sR h),hb,T.kp,hm⟩
end
def kr(S:SpM):SpM:=λds M R RX=>∃ M1 M2,M=M1++M2/\S ds M2 (λd M'=>R d (M1++M')) λx fs M'=>RX x fs (M1++M')
def keys_app{M1 M2:MS}{a:KF}:a∈az (M1++M2)↔a∈az M1\/a∈az M2:=by unfold az;rw[FX,FO]
def sS{K:Ex}{S:SpM}{vs:List V}{H:Hp}{Q:VK}{E:XK}(h:lSpM K (kr S) vs H Q E):lSpM K S vs H Q E:=by
 obtain⟨F,ds,M,fh,rs,rm,R,RX,⟨M1,M2,rfl,hS⟩,q,qx⟩:=h;have nd:(az M1++az M2).Nodup:=by have:=rm.nd;unfold az at this ⊢;rw[FX] at this;exact this
 have M7:∀ {a:KF},a∈az M1->a ∉ az M2:=λ{a} h1 h2=>(GQ.mp nd).2.2 a h1 a h2 rfl;have Qt:RepM K F H M2:=⟨(GQ.mp nd).2.1,λa o h=>rm.ok a o (FC _ h),λa h=>rm.fr a (keys_app.mpr (.inr h))⟩;have up:∀ {M':MS} {F' H':Hp},GrowM M2 M' F H F' H'->RepM K F' H' M'->GrowM (M1++M2) (M1++M') F H F' H'/\RepM K F' H' (M1++M'):=λ{M' F' H'} g r=>by
  have x8:∀ {a:KF},a∈az M1->H a≠none:=λ{a} h=>rm.here (keys_app.mpr (.inl h));have M8:∀ {a:KF},a∈az M1->a ∉ az M':=λ{a} h1 h2=>by
   rcases g.ks a h2 with z|z
   .exact M7 h1 z
   .exact x8 h1 z
  refine⟨⟨g.ff,g.fh,λb o nb e=>g.hh b o (λz=>nb (keys_app.mpr (.inr z))) e,λb nb h1 h2=>g.out b (λz=>nb (keys_app.mpr (.inr z))) h1 h2,λb hb=>?_⟩,⟨?_,λa o h=>?_,λa h=>?_⟩⟩
  .rcases keys_app.mp hb with z|z
   .exact .inl (keys_app.mpr (.inl z))
   .exact(g.ks b z).imp (λz=>keys_app.mpr (.inr z)) id
  .unfold az;rw[FX];exact GQ.mpr ⟨(GQ.mp nd).1,r.nd,λa h1 b h2 e=>M8 h1 (e ▸ h2)⟩
  .rcases FO.mp h with z|z
   .have ka:a∈az M1:=cw z;exact(rm.ok a o (Ge _ z)).mono g.ff λo e=>g.hh a o (M7 ka) e
   .exact r.ok a o z
  .rcases keys_app.mp h with z|z
   .exact g.out a (M7 z) (rm.fr a (keys_app.mpr (.inl z))) (x8 z)
   .exact r.fr a z
 exact⟨F,ds,M2,fh,rs,Qt,_,_,hS,λd v M' F' H' g hd rd m'=>q d v _ F' H' (up g m').1 hd rd (up g m').2,λx fs C od M' F' H' g hR er m'=>qx x fs C od _ F' H' (up g m').1 hR er (up g m').2⟩
section
variable {P:P3}{w:RT}{K:Ex}{mg:D'->Option KB}{base:Heap}{n:Nat}{x m:D'}{ps:List D'}{S:SpM}
def CalMM.frame(C:CalMM P w K mg base n x ps S):CalMM P w K mg base n x ps (kr S):=C.imp λ_ _ _ _ h=>sS h
def CalMth.frame(C:CalMth P w K mg base n x m ps (lSpM K S)):CalMth P w K mg base n x m ps (lSpM K (kr S)):=C.imp λ_ _ _ _ h=>sS h
end
def nilX(S:SpX):SpM:=λds M R RX=>M=[]/\∃ (R0:D->Prop) (IR:XD),S ds R0 IR/\(∀ d M',R0 d->R d M')/\∀ x fs M',IR x fs->RX x fs M'
def CalMM.nilX{P:P3}{w:RT}{K:Ex}{mg:D'->Option KB}{base:Heap}{n:Nat}{x:D'}{ps:List D'}{S:SpX}(C:CalMM P w K mg base n x ps (nilX S)):CalX P w K mg base n x ps S:=C.toX λ_ R RX h=>⟨rfl,R,RX,h,λ_ _ h=>h,λ_ _ _ h=>h⟩
end My
namespace My
section
variable {K:Ex}{h:Heap}{mg:D'->Option KB}{x y m q f:D'}{st:RO}{ps:List D'}
abbrev NsC(K:Ex)(x:D')(C:KF):Prop:=nsIn K Pi x=be (be (.ref C))
variable{C:KF}
def NsC.uniq{D:KF}(a:NsC K x C)(b:NsC K x D):C=D:=by
 have e:=a.symm.trans b;cases e;rfl
abbrev BindA(x q:D')(st:RO)(ps:List D'):Prop:=∀ (kV doc pm:KB) (an:Option KF) (cdv ct:KB) (us:List KB),us.length=ps.length->SB (fnOf x q (bF st) (aK st) (ag st) .none kV doc pm an cdv ct) ⟨us,[]⟩=pure (ps.zip us)
def FnIn(K:Ex)(x:D')(st:RO):Prop:=∃ f fd,NsC K x f/\Fun K x x st f fd
variable{oc kV dc pm cd ct:KB}{od an:Option KF}{sl:Array (Option KB)}
def fnIn_mk{f:KF}(a:nsIn K Pi x=be (be (.ref f)))(l:K.lookup f=be ⟨oc,od,.func (fnOf x x (bF st) (aK st) (ag st) .none kV dc pm an cd ct),sl⟩)(c:codeIn K cd x=true)(k:keepIn K (.ref f)=true):FnIn K x st:=⟨f,_,a,gA l c k⟩
def FnIn.tx(T:FnIn K x st)(X:K.In h)(G:h.Ns Pi mg)(b:BindA x x st ps):Tx K mg x st ps:=by
 obtain⟨f,fd,a,F⟩:=T;exact⟨f,fd,F,F.binds b,mg_of X G a⟩
def FnIn.law{p:D'}(T:FnIn K x st)(X:K.In h)(G:h.Ns Pi mg){fa:KF}(KW:mg x=be (.ref fa))(b:∀ (kV doc pm:KB) (an:Option KF) (cdv ct v:KB),SB (fnOf x x (bF st) (aK st) (ag st) .none kV doc pm an cdv ct) ⟨[v],[]⟩=pure [(p,v)]):∃ fd,(∀ (s:KM) (v:KB),S2 s fd ⟨[v],[]⟩ [(p,v)])/\Fun K x x st fa fd:=by
 obtain⟨f,fd,a,F⟩:=T;have e:=KW.symm.trans (mg_of X G a);cases e;refine⟨fd,λs v=>?_,F⟩;obtain⟨oc,od,kV,doc,pm,an,cdv,ct,osl,rfl,lk,gt⟩:=F.ex;exact .of_eq (b _ _ _ _ _ _ v)
variable{us:List KB}
def bI{x:D'}{xs:List D'}(h:us.length=(x::xs).length):∃ u t,us=u::t/\t.length=xs.length:=by
 cases us with
 |nil=>cases h
 |cons u t=>exact⟨u,t,rfl,Nat.succ.inj h⟩
def len_0(h:us.length=([]:List D').length):us=[]:=Hx h
variable{x0:D'}
def Az(b:∀ (kV doc pm:KB) (an:Option KF) (cdv ct u0:KB),SB (fnOf x q (bF st) (aK st) (ag st) .none kV doc pm an cdv ct) ⟨[u0],[]⟩=pure [(x0,u0)]):BindA x q st [x0]:=λkV doc pm an cdv ct us hl=>by
 obtain⟨u0,t0,rfl,h0⟩:=bI hl;cases len_0 h0;exact b kV doc pm an cdv ct u0
variable{x1:D'}
def bind2(b:∀ (kV doc pm:KB) (an:Option KF) (cdv ct u0 u1:KB),SB (fnOf x q (bF st) (aK st) (ag st) .none kV doc pm an cdv ct) ⟨[u0,u1],[]⟩=pure [(x0,u0),(x1,u1)]):BindA x q st [x0,x1]:=λkV doc pm an cdv ct us hl=>by
 obtain⟨u0,t0,rfl,h0⟩:=bI hl;obtain⟨u1,t1,rfl,h1⟩:=bI h0;cases len_0 h1;exact b kV doc pm an cdv ct u0 u1
variable{x2:D'}
def bind3(b:∀ (kV doc pm:KB) (an:Option KF) (cdv ct u0 u1 u2:KB),SB (fnOf x q (bF st) (aK st) (ag st) .none kV doc pm an cdv ct) ⟨[u0,u1,u2],[]⟩=pure [(x0,u0),(x1,u1),(x2,u2)]):BindA x q st [x0,x1,x2]:=λkV doc pm an cdv ct us hl=>by
 obtain⟨u0,t0,rfl,h0⟩:=bI hl;obtain⟨u1,t1,rfl,h1⟩:=bI h0;obtain⟨u2,t2,rfl,h2⟩:=bI h1;cases len_0 h2;exact b kV doc pm an cdv ct u0 u1 u2
def bind4{x3:D'}(b:∀ (kV doc pm:KB) (an:Option KF) (cdv ct u0 u1 u2 u3:KB),SB (fnOf x q (bF st) (aK st) (ag st) .none kV doc pm an cdv ct) ⟨[u0,u1,u2,u3],[]⟩=pure [(x0,u0),(x1,u1),(x2,u2),(x3,u3)]):BindA x q st [x0,x1,x2,x3]:=λkV doc pm an cdv ct us hl=>by
 obtain⟨u0,t0,rfl,h0⟩:=bI hl;obtain⟨u1,t1,rfl,h1⟩:=bI h0;obtain⟨u2,t2,rfl,h2⟩:=bI h1;obtain⟨u3,t3,rfl,h3⟩:=bI h2;cases len_0 h3;exact b kV doc pm an cdv ct u0 u1 u2 u3
def bind5{x3 x4:D'}(b:∀ (kV doc pm:KB) (an:Option KF) (cdv ct u0 u1 u2 u3 u4:KB),SB (fnOf x q (bF st) (aK st) (ag st) .none kV doc pm an cdv ct) ⟨[u0,u1,u2,u3,u4],[]⟩=pure [(x0,u0),(x1,u1),(x2,u2),(x3,u3),(x4,u4)]):BindA x q st [x0,x1,x2,x3,x4]:=λkV doc pm an cdv ct us hl=>by
 obtain⟨u0,t0,rfl,h0⟩:=bI hl;obtain⟨u1,t1,rfl,h1⟩:=bI h0;obtain⟨u2,t2,rfl,h2⟩:=bI h1;obtain⟨u3,t3,rfl,h3⟩:=bI h2;obtain⟨u4,t4,rfl,h4⟩:=bI h3;cases len_0 h4;exact b kV doc pm an cdv ct u0 u1 u2 u3 u4
structure ClF(K:Ex)(x:Str)(C:KF):Prop where
 ns:NsC K x C
 cl:Cls K C
 ha:Fw K (.ref C) "__class__"=be (be (.builtin "object.__class__"))
 hn:specialIn K (.builtin "object.__class__") "__get__"=be (be (.builtin "getset_descriptor.__get__"))
 ht:takesIn K (.builtin "object.__class__")=be true
 hm:Gb K C (.type "object")=be true
def ClIn(K:Ex)(x:D'):Prop:=∃ C,ClF K x C
def clIn_mk(a:nsIn K Pi x=be (be (.ref C)))(pg:plainGet K C Str.empty=true)(hd:hasDictIn K C=true)(po:plainOver K C=true)(sa:Fw K (.ref C) "__setattr__"=be (be (.builtin "object.__setattr__")))
  (ha:Fw K (.ref C) "__class__"=be (be (.builtin "object.__class__"))) (hn:specialIn K (.builtin "object.__class__") "__get__"=be (be (.builtin "getset_descriptor.__get__"))) (ht:takesIn K (.builtin "object.__class__")=be true) (hm:Gb K C (.type "object")=be true):ClIn K x:=⟨C,a,⟨pg,hd,po,sa⟩,ha,hn,ht,hm⟩
def ClIn.i(c:ClIn K x)(X:K.In h)(G:h.Ns Pi mg):∃ C,ClsI K mg x C:=by
 obtain⟨C,k⟩:=c;exact⟨C,k.ns,mg_of X G k.ns,k.cl,k.ha,k.hn,k.ht,k.hm,zo⟩
def NoIn(K:Ex)(x f:D'):Prop:=∃ C,NsC K x C/\Fw K (.ref C) f=be m9
def noIn_mk(a:nsIn K Pi x=be (be (.ref C)))(b:Fw K (.ref C) f=be m9):NoIn K x f:=⟨C,a,b⟩
def ClIn.a(c:ClIn K x)(n:NoIn K x f):ClsA K x f:=by
 obtain⟨C,k⟩:=c;obtain⟨D,a,b⟩:=n;cases NsC.uniq k.ns a;exact⟨C,a,k.cl,b⟩
def NoIn.all(n:NoIn K x f):∀ C,nsIn K Pi x=be (be (.ref C))->Fw K (.ref C) f=be none:=λC hC=>by
 obtain⟨D,a,b⟩:=n;cases NsC.uniq hC a;exact b
def MtIn(K:Ex)(x m q:D')(st:RO):Prop:=∃ C f fd,NsC K x C/\Meth K C m f/\Fun K m q st f fd
def mtIn_mk{f:KF}(a:nsIn K Pi x=be (be (.ref C)))(b:Fw K (.ref C) m=be (be (.ref f)))(i:isFn K (.ref f)=true)(l:K.lookup f=be ⟨oc,od,.func (fnOf m q (bF st) (aK st) (ag st) .none kV dc pm an cd ct),sl⟩)(c:codeIn K cd q=true)(k:keepIn K (.ref f)=true):MtIn K x m q st:=⟨C,f,_,a,⟨b,i,k⟩,gA l c k⟩
def MtIn.txm(T:MtIn K x m q st)(c:ClIn K x)(b:BindA m q st ps):Txm K x m q st ps:=by
 obtain⟨C,k⟩:=c;obtain⟨D,f,fd,a,mt,F⟩:=T;cases NsC.uniq k.ns a;exact⟨C,f,fd,a,k.cl,mt,F,F.binds b⟩
def InIn(K:Ex)(x q:D')(st:RO):Prop:=∃ C f fd,NsC K x C/\Mk K C f/\Fun K "__init__" q st f fd
def inIn_mk{f:KF}(a:nsIn K Pi x=be (be (.ref C)))(mk:makesIn K C=true)(b:Fw K (.ref C) "__init__"=be (be (.ref f)))(i:isFn K (.ref f)=true)(kp:keepIn K (.ref C)=true)(l:K.lookup f=be ⟨oc,od,.func (fnOf "__init__" q (bF st) (aK st) (ag st) .none kV dc pm an cd ct),sl⟩)(c:codeIn K cd q=true)(k:keepIn K (.ref f)=true):InIn K x q st:=⟨C,f,_,a,⟨mk,b,i,kp⟩,gA l c k⟩
def Txi(K:Ex)(mg:D'->Option KB)(x q:D')(st:RO)(ps:List D'):Prop:=∃ C f fd,NsC K x C/\mg x=be (.ref C)/\Mk K C f/\Fun K "__init__" q st f fd/\Binds K fd ps []
def InIn.txi(T:InIn K x q st)(X:K.In h)(G:h.Ns Pi mg)(b:BindA "__init__" q st ps):Txi K mg x q st ps:=by
 obtain⟨C,f,fd,a,mk,F⟩:=T;exact⟨C,f,fd,a,mg_of X G a,mk,F,F.binds b⟩
def CiIn(K:Ex)(x:D')(i:Int):Prop:=∃ t,nsIn K Pi x=be (be (.int i t))
def CsIn(K:Ex)(x y:D'):Prop:=∃ t,nsIn K Pi x=be (be (.str y t))
def ciIn_mk{i:Int}{t:Tok}(a:nsIn K Pi x=be (be (.int i t))):CiIn K x i:=⟨t,a⟩
def csIn_mk{t:Tok}(a:nsIn K Pi x=be (be (.str y t))):CsIn K x y:=⟨t,a⟩
def CiIn.g{i:Int}(c:CiIn K x i)(X:K.In h)(G:h.Ns Pi mg):∃ t,mg x=be (.int i t):=let ⟨t,a⟩:=c;⟨t,mg_of X G a⟩
def CsIn.g(c:CsIn K x y)(X:K.In h)(G:h.Ns Pi mg):∃ t,mg x=be (.str y t):=let ⟨t,a⟩:=c;⟨t,mg_of X G a⟩
def NnIn(K:Ex)(x:D'):Prop:=nsIn K Pi x=be m9
def nnIn_mk(a:nsIn K Pi x=be m9):NnIn K x:=a
structure ErF(K:Ex)(x:Str)(bm:List KB)(C N:KF):Prop where
 ns:NsC K x C
 kp:keepIn K (.ref C)=true
 ob:∃ nm q bs sn sub ab col dd k0 k1 k2 k3 k5,K.lookup C=be (Sb nm q C N bs bm true sn sub ab col dd k0 k1 k2 k3 k5 "ValueError.__new__")
structure ErN(K:Ex)(N:KF):Prop where
 ok:nsOkIn K N=true
 no:nsIn K N "__init__"=be m9
def EbIn(K:Ex):Prop:=∃ C N,ErF K "MotifError" Exc.veLine C N/\ErN K N
def EdIn(K:Ex)(x:D')(C N:KF):Prop:=∃ B,NsC K "MotifError" B/\ErF K x (.ref B::Exc.veLine) C N
def E0In(K:Ex)(x:D'):Prop:=∃ C N,EdIn K x C N/\ErN K N
def E1In(K:Ex)(x q:D')(st:RO):Prop:=∃ C N f fd,EdIn K x C N/\Fw K (.ref C) "__init__"=be (be (.ref f))/\isFn K (.ref f)=true/\Fun K "__init__" q st f fd
def EaIn(K:Ex)(x:D'):Prop:=∃ C,NsC K x C/\Fw K (.ref C) "__setattr__"=be (be (.builtin "object.__setattr__"))
def EgIn(K:Ex)(x:D'):Prop:=∃ C,NsC K x C/\Fw K (.ref C) "__getattribute__"=be (be (.builtin "BaseException.__getattribute__"))/\Fw K (.ref C) "__getattr__"=be m9
def EiIn(K:Ex)(x:D'):Prop:=∃ M,NsC K x M/\readsIn K M (.type "type")=true/\findCls K (.ref M) (.type "type") "__init__"=be (.val (.builtin "ValueError.__init__"))/\specialIn K (.ref M) "__getattribute__"=be (be (.builtin "type.__getattribute__"))
def EmIn(K:Ex)(x y:D'):Prop:=∃ C D,NsC K x C/\NsC K y D/\Gb K C (.ref D)=be (subE x y)
section
variable {B C D N:KF}{nm qn:D'}{bs:List KB}{sn:List D'}{sub:List KB}{ab:Bool}{col:Option Bool}{dd:Option KF}{k0 k1 k2 k3 k5:Option KB}{nc:KB}{nd:Option KF}{ne:Array DictEntry}{np:Nat}{nl:Array (Option KB)}
def ebIn_mk(a:nsIn K Pi "MotifError"=be (be (.ref C)))(kp:keepIn K (.ref C)=true)(o:K.lookup C=be (Sb nm qn C N bs Exc.veLine true sn sub ab col dd k0 k1 k2 k3 k5 "ValueError.__new__"))(nk:K.lookup N=be ⟨nc,nd,.dict ne np,nl⟩)(al:ne.toList.all (λe=>match e.key with| .str _ _=>true|_=>false)=true)(ni:nsIn K N "__init__"=be m9):EbIn K:=⟨C,N,⟨a,kp,_,_,_,_,_,_,_,_,_,_,_,_,_,o⟩,si nk al,ni⟩
def e0In_mk(b:nsIn K Pi "MotifError"=be (be (.ref B)))(a:nsIn K Pi x=be (be (.ref C)))(kp:keepIn K (.ref C)=true)(o:K.lookup C=be (Sb nm qn C N bs (.ref B::Exc.veLine) true sn sub ab col dd k0 k1 k2 k3 k5 "ValueError.__new__"))(nk:K.lookup N=be ⟨nc,nd,.dict ne np,nl⟩)(al:ne.toList.all (λe=>match e.key with| .str _ _=>true|_=>false)=true)(ni:nsIn K N "__init__"=be m9):E0In K x:=⟨C,N,⟨B,b,a,kp,_,_,_,_,_,_,_,_,_,_,_,_,_,o⟩,si nk al,ni⟩
def e1In_mk{f:KF}{oc:KB}{od an:Option KF}{sl:Array (Option KB)}{kV dc pm cd ct:KB}(b:nsIn K Pi "MotifError"=be (be (.ref B)))(a:nsIn K Pi x=be (be (.ref C)))(kp:keepIn K (.ref C)=true)(o:K.lookup C=be (Sb nm qn C N bs (.ref B::Exc.veLine) true sn sub ab col dd k0 k1 k2 k3 k5 "ValueError.__new__"))
  (j:Fw K (.ref C) "__init__"=be (be (.ref f))) (i:isFn K (.ref f)=true) (l:K.lookup f=be ⟨oc,od,.func (fnOf "__init__" q (bF st) (aK st) (ag st) .none kV dc pm an cd ct),sl⟩) (c:codeIn K cd q=true) (k:keepIn K (.ref f)=true):E1In K x q st:=⟨C,N,f,_,⟨B,b,a,kp,_,_,_,_,_,_,_,_,_,_,_,_,_,o⟩,j,i,gA l c k⟩
def eaIn_mk(a:nsIn K Pi x=be (be (.ref C)))(b:Fw K (.ref C) "__setattr__"=be (be (.builtin "object.__setattr__"))):EaIn K x:=⟨C,a,b⟩
def eiIn_mk(a:nsIn K Pi x=be (be (.ref C)))(b:readsIn K C (.type "type")=true)(c:findCls K (.ref C) (.type "type") "__init__"=be (.val (.builtin "ValueError.__init__")))(d:specialIn K (.ref C) "__getattribute__"=be (be (.builtin "type.__getattribute__"))):EiIn K x:=⟨C,a,b,c,d⟩
def emIn_mkT(e:subE x y=true)(a:nsIn K Pi x=be (be (.ref C)))(c:nsIn K Pi y=be (be (.ref D)))(d:Gb K C (.ref D)=be true):EmIn K x y:=⟨C,D,a,c,e ▸ d⟩
def emIn_mkF(e:subE x y=false)(a:nsIn K Pi x=be (be (.ref C)))(c:nsIn K Pi y=be (be (.ref D)))(d:Gb K C (.ref D)=be false):EmIn K x y:=⟨C,D,a,c,e ▸ d⟩
end
def EbIn.k(e:EbIn K)(X:K.In h)(G:h.Ns Pi mg):∃ C N bm,ErrK K mg "MotifError" C N bm/\ErrN K N:=by
 obtain⟨C,N,k,n⟩:=e;exact⟨C,N,_,⟨k.ns,mg_of X G k.ns,k.kp,k.ob,sf⟩,n.ok,n.no⟩
def EdIn.k{N:KF}(e:EdIn K x C N)(b:EbIn K)(X:K.In h)(G:h.Ns Pi mg):∃ bm,ErrK K mg x C N bm:=by
 obtain⟨B,hB,k⟩:=e;obtain⟨B',N',kb,n⟩:=b;cases NsC.uniq kb.ns hB;obtain⟨_,_,_,_,_,_,_,_,_,_,_,_,_,o⟩:=kb.ob;exact⟨_,k.ns,mg_of X G k.ns,k.kp,k.ob,zn o rfl n.ok n.no⟩
def E0In.k(e:E0In K x)(b:EbIn K)(X:K.In h)(G:h.Ns Pi mg):∃ C N bm,ErrK K mg x C N bm/\ErrN K N:=by
 obtain⟨C,N,k,n⟩:=e;obtain⟨bm,z⟩:=k.k b X G;exact⟨C,N,bm,z,n.ok,n.no⟩
def Txe(K:Ex)(mg:D'->Option KB)(x q:D')(st:RO)(ps:List D'):Prop:=∃ C N bm f fd,ErrK K mg x C N bm/\Fw K (.ref C) "__init__"=be (be (.ref f))/\isFn K (.ref f)=true/\Fun K "__init__" q st f fd/\Binds K fd ps []
def E1In.txe(e:E1In K x q st)(b:EbIn K)(X:K.In h)(G:h.Ns Pi mg)(bi:BindA "__init__" q st ps):Txe K mg x q st ps:=by
 obtain⟨C,N,f,fd,k,i,j,F⟩:=e;obtain⟨bm,z⟩:=k.k b X G;exact⟨C,N,bm,f,fd,z,i,j,F,F.binds bi⟩
def ErrK.a'{N:KF}{bm:List KB}(k:ErrK K mg x C N bm)(a:EaIn K x):∃ C cd,ErrA K x C cd:=by
 obtain⟨D,hD,sa⟩:=a;cases NsC.uniq k.ns hD;exact⟨C,k.a sa⟩
def E1In.a(e:E1In K x q st)(b:EbIn K)(a:EaIn K x)(X:K.In h)(G:h.Ns Pi mg):∃ C cd,ErrA K x C cd:=by
 obtain⟨C,N,f,fd,k,_⟩:=e;obtain⟨bm,z⟩:=k.k b X G;exact z.a' a
def E1In.c(e:E1In K x q st)(b:EbIn K)(X:K.In h)(G:h.Ns Pi mg):∃ C N bm,ErrK K mg x C N bm:=by
 obtain⟨C,N,f,fd,k,_⟩:=e;obtain⟨bm,z⟩:=k.k b X G;exact⟨C,N,bm,z⟩
def EiIn.b(e:EiIn K x)(X:K.In h)(G:h.Ns Pi mg):∃ M,BaseK K mg x M:=by
 obtain⟨M,a,b,c,d⟩:=e;exact⟨M,mg_of X G a,b,c,d⟩
def EgIn.g(e:EgIn K x)(a:∃ C cd,ErrA K x C cd)(n:NoIn K x f):ErrG K f x:=by
 obtain⟨C,h1,h2,h3⟩:=e;obtain⟨D,cd,ea⟩:=a;cases NsC.uniq ea.ns h1;exact⟨C,cd,ea,h2,h3,n.all C h1⟩
def AllP(p:D'->Prop):List D'->Prop
 |[]=>True
 |a::l=>p a/\AllP p l
def AllP.mem{p:D'->Prop}:∀ {l:List D'},AllP p l->∀ x∈l,p x
 |_::_,h,_,.head _=>h.1
 |_::_,h,_,.tail _ m=>AllP.mem h.2 _ m
def AA{es:List D'}(c:AllP (λx=>∃ C N bm,ErrK K mg x C N bm) es)(s:AllP (λx=>AllP (λy=>EmIn K x y) es) es):ErrsK K mg es:=by
 refine⟨c.mem,λx hx y hy C C' h1 h2=>?_⟩;obtain⟨A,B,a,b,m⟩:=(s.mem x hx).mem y hy;cases NsC.uniq a h1;cases NsC.uniq b h2;exact m
end
structure Bx where
 P:P3
 w:RT
 K:Ex
 mg:D'->Option KB
 base:Heap
abbrev Bx.T(V:Bx)(x:D')(st:RO)(ps:List D'):Prop:=Tx V.K V.mg x st ps
abbrev Bx.Tm(V:Bx)(x m q:D')(st:RO)(ps:List D'):Prop:=Txm V.K x m q st ps
abbrev Bx.Ti(V:Bx)(x q:D')(st:RO)(ps:List D'):Prop:=Txi V.K V.mg x q st ps
abbrev Bx.Te(V:Bx)(x q:D')(st:RO)(ps:List D'):Prop:=Txe V.K V.mg x q st ps
abbrev Bx.Ek(V:Bx)(es:List D'):Prop:=ErrsK V.K V.mg es
abbrev Bx.m(V:Bx)(x:D'):Prop:=V.mg x=m9
abbrev Bx.gi(V:Bx)(x:D')(i:Int):Prop:=∃ t,V.mg x=be (.int i t)
abbrev Bx.gs(V:Bx)(x y:D'):Prop:=∃ t,V.mg x=be (.str y t)
abbrev Bx.a(V:Bx)(x f:D'):Prop:=ClsA V.K x f
abbrev Bx.i(V:Bx)(x:D'):Prop:=∃ C,ClsI V.K V.mg x C
abbrev Bx.D(V:Bx)(n:Nat)(x:D')(ps:List D')(S:SpD):Prop:=CalD V.P V.w V.K V.mg V.base n x ps S
abbrev Bx.X(V:Bx)(n:Nat)(x:D')(ps:List D')(S:SpX):Prop:=CalX V.P V.w V.K V.mg V.base n x ps S
abbrev Bx.MM(V:Bx)(n:Nat)(x:D')(ps:List D')(S:SpM):Prop:=CalMM V.P V.w V.K V.mg V.base n x ps S
abbrev Bx.M(V:Bx)(n:Nat)(x:D')(ps:List D')(S:SiD):Prop:=CalM V.P V.w V.K V.mg V.base n x ps S
abbrev Bx.E(V:Bx)(n:Nat)(x:D')(ps:List D')(S:SiD):Prop:=CalE V.P V.w V.K V.mg V.base n x ps S
abbrev Bx.Q(V:Bx)(n:Nat)(x m:D')(ps:List D')(S:SpM):Prop:=CalMth V.P V.w V.K V.mg V.base n x m ps (lSpM V.K S)
abbrev Bx.n(V:Bx)(x:D'):Prop:=∃ C N bm,ErrK V.K V.mg x C N bm/\ErrN V.K N
abbrev Bx.b(V:Bx)(x:D'):Prop:=∃ M,BaseK V.K V.mg x M
abbrev Bx.ea(V:Bx)(x:D'):Prop:=∃ C cd,ErrA V.K x C cd
abbrev Bx.xf(V:Bx)(x f:D'):Prop:=∀ C,nsIn V.K Pi x=be (be (.ref C))->Fw V.K (.ref C) f=be m9
abbrev Bx.x(V:Bx)(f:D')(ys:List D'):Prop:=∀ y∈ys,ErrG V.K f y
section
variable {P:P3}{w:RT}{K:Ex}{mg:D'->Option KB}{base:Heap}
variable{x qual p0:D'}{st:RO}{N ps:List D'}{k:Nat}{S:SiD}
def Txi.okI(T:Txi K mg x qual st (p0::ps))(F:FnScope (p0::N) (p0::ps) (ag st))(len:∀ ds R,S ds R->ds.length=ps.length)
  (a9:∀ (f:KF) (cdv:KB) (A:RU) (outer:List SE) (s:KM) (H:Hp) (E:XK) (J:Jx),Room k (A.deeper (R7 qual (ag st) s.heap.objs.size f cdv))->
   ∃ t,WDI (cxOf (Exc.CX1 P w) P w K mg base (p0::N) qual (ag st) f cdv A outer s H E).nox x (aK st) t/\∀ ds R,S ds R->t (m9::startD N ds) [] R):CalM P w K mg base (k+1) x (p0::ps) S:=by
 obtain⟨C,f,fd,a,b,c,d,e⟩:=T;exact Cls.okIW d e F len a b c (a9 f)
def Txi.okIM(T:Txi K mg x qual st (p0::ps))(F:FnScope N (p0::ps) (ag st))(len:∀ ds R,S ds R->ds.length=ps.length)
  (a9:∀ (f:KF) (cdv:KB) (A:RU) (outer:List SE) (s:KM) (H:Hp) (E:XK) (J:Jm),Room k (A.deeper (R7 qual (ag st) s.heap.objs.size f cdv))->XOkM (cxOf (Exc.CX1 P w) P w K mg base N qual (ag st) f cdv A outer s H E).nox->
   ∃ t,MSs (cxOf (Exc.CX1 P w) P w K mg base N qual (ag st) f cdv A outer s H E).nox (aK st) t/\∀ a ds R,(∀ z M x fs,¬ J.RM z M x fs)->S ds R->t {nx:=λ_ M'=>∃ fs,M'=[(a,.ins x fs)]/\R fs,rt:=λ_ _=>False} (startD N (.ptr a::ds)) [(a,.ins x [])]):CalM P w K mg base (k+1) x (p0::ps) S:=by
 obtain⟨C,f,fd,a,b,c,d,e⟩:=T;exact Cls.okIM d e F len a b c (a9 f)
def Txe.okE(T:Txe K mg x qual st (p0::ps))(F:FnScope (p0::N) (p0::ps) (ag st))(len:∀ ds R,S ds R->ds.length=ps.length)
  (a9:∀ (f:KF) (cdv:KB) (A:RU) (outer:List SE) (s:KM) (H:Hp) (E:XK) (J:Jx),Room k (A.deeper (R7 qual (ag st) s.heap.objs.size f cdv))->
   ∃ t,WDX (cxOf (Exc.CX1 P w) P w K mg base (p0::N) qual (ag st) f cdv A outer s H E).nox x (aK st) t/\∀ ds R,S ds R->t (m9::startD N ds) [] R):CalE P w K mg base (k+1) x (p0::ps) S:=by
 obtain⟨C,N',bm,f,fd,a,b,c,d,e⟩:=T;exact Cls.okEW d e F len a b c (a9 f)
end
section
variable {X:Cx}[J:Jx]{a b c e o ge iter:RP}{es:List RP}{ta tb tc te to ti tj:TD}{tt:TDT}{t:TDA}{pos px:R5}{x:D'}{scope:Sk}
variable{K:Ex}
def itR2:ItOk K (qe (gx (lE K ti) (gx (lE K tj) tNil))) (rS ti tj):=λ{s H B F z P Q} kf rs h1 h2=>by
 refine⟨B,F,z,kf,rs,_,h1,λd1 v1 F1 H1 g1 h1 r1=>?_⟩;refine⟨B,F1,z,kf.grow g1,rs.grow g1,_,h1,λd2 v2 F2 H2 g2 hd r2=>?_⟩;split at hd
 .rename_i lo g_;obtain⟨bd,hd⟩:=hd;have hl:((Ft (g_ - lo).toNat).map λk=>D.int (lo+((k:Nat):Int))).length=(g_ - lo).toNat:=by simp
  refine⟨lo,g_,by rw[rep_int.mp r1,rep_int.mp r2],bd,h2 _ _ F2 H2 (g1.trans g2) hd ⟨λk F' H' G hk=>by rw[hl] at hk;exact hk,λk F' H' x H'' G hk hy=>?_,λF' H' G=>by show(g_ - lo).toNat<=_;rw[hl];exact Fo _⟩⟩;rw[hl] at hk;obtain⟨e,rfl⟩:=hy;exact⟨e,.int (lo+(k:Int)),by simp[hk],rep_int.mpr rfl⟩
 .exact hd.elim
def sT(hc:X.calm=true)(S:CompScope X scope x)(hi:WDE X iter ti)(hq:∀ cl s₀ H₀ fp,WDT (bS X scope cl x s₀ H₀ fp) c tt)(he:∀ cl s₀ H₀ fp,WDE (bS X scope cl x s₀ H₀ fp) ge te)(hs:autoParam (∀ y,zFS X iter y) zA2):
  WDE X (.ListComp ge [⟨.Name x px,iter,[c],0⟩] scope pos) (rL (dItL ti) tt te):=⟨(pe_comp hc S (gq hi.out) (λa b c d=>rN (hq a b c d).out) (λa b c d=>(he a b c d).out) hs).anti λs H Q q=>gO (λ_ _ _=>cmpF.g) itL q⟩
variable{p2:R5}
def AB{p1:R5}(hc:X.calm=true)(S:CompScope X scope x)(hm:X.mg "range"=m9)(ha:WDE X a ti)(hb:WDE X b tj)(hq:∀ cl s₀ H₀ fp,WDT (bS X scope cl x s₀ H₀ fp) c tt)(he:∀ cl s₀ H₀ fp,WDE (bS X scope cl x s₀ H₀ fp) ge te)(hg:autoParam (Gl X "range") zA0)
  (hs:autoParam (∀ y,zFS X (.Call (.Name "range" p1) [a,b] [] p2) y) zA2) (t6:autoParam (zSE X a [b]) zA0) (M9:autoParam (zSE X b []) zA0) (f_:autoParam (RV [a,b] X.env=[(false,R1 a X.env),(false,R1 b X.env)]) zA0) (M_:autoParam (RV [b] X.env=[(false,R1 b X.env)]) zA0):
  WDE X (.ListComp ge [⟨.Name x px,.Call (.Name "range" p1) [a,b] [] p2,[c],0⟩] scope pos) (rL (rS ti tj) tt te):=⟨(pe_comp hc S (vZ hg hm (bx ha.out (bx hb.out pa_nil M9) t6) f_ M_) (λa b c d=>rN (hq a b c d).out) (λa b c d=>(he a b c d).out) hs).anti λs H Q q=>gO (λ_ _ _=>cmpF.g) itR2 q⟩
def Fi(ix:Nat)(J3:TDI)(te:TD):TSD:=λE z=>J3 z (cmpP te z λd=>match d with| .lst ys=>E.nx (z.set ix (be (.own ys)))|_=>False)
def intsAre_of:∀ {ns:List Int} {us:List KB},Vals (ns.map V.int) us->S1 us ns:=by
 intro ns;induction ns with
 |nil=>intro us h;cases h;exact .nil
 |cons n ns e=>
  intro us h;cases h with
  |cons r t=>
   obtain⟨_,rfl⟩:=r;exact .cons _ _ (e t)
def AC(hc:X.calm=true):bE X (.builtin "min") (λxs H Q=>∃ (p:KF) (ns:List Int),xs=[.ref p]/\SqL X.K H p (ns.map V.int)/\0<ns.length/\∀ m,m∈ns->(∀ a∈ns,m<=a)->Q (.int m) H):=by
 intro pins s σ H xs us Q I r h;obtain⟨p,ns,rfl,hq,j3,q⟩:=h;obtain⟨u,rfl,rx⟩:=bY r;cases rx;obtain⟨its,r',pl,hz⟩:=I.list hq;have hi:=intsAre_of r';have hl:=pl.isList;obtain⟨xs,e⟩:=hi.allInts.items;have hns:ns=xs.toList.map (·.1):=by rw[<- hi.numsOf,<- nums_intItems,<- e]
 have g6:0<xs.size:=by
  have h3:=j3;rw[hns,Fs,GA] at h3;exact h3
 rw[e] at hl;refine min_intList (I.ok.hd hc) hl g6 λv h' tk hv hk=>?_;obtain⟨t,rfl⟩:=intItems_at hv;obtain⟨h1,h2⟩:=argBest_lt (numAt xs) (xs.size - 1);refine⟨.int _,H,I.kept hk,⟨t,rfl⟩,q _ ?_ λa ha=>?_⟩
 .rw[hns,numAt_eq];exact getD_mem (by rw[Fs,GA];lia)
 .rw[hns] at ha;obtain⟨j,hj,rfl⟩:=mem_getD ha;rw[Fs,GA] at hj;rw[<- numAt_eq];exact h2 j (by lia)
def rdMinL:RDn:=λds R=>match ds with|[.lst xs]=>∃ ns:List Int,xs=ns.map D.int/\0<ns.length/\∀ m,m∈ns->(∀ a∈ns,m<=a)->R (.int m)|_=>False
def AD:cu K (λxs H Q=>∃ (p:KF) (ns:List Int),xs=[.ref p]/\SqL K H p (ns.map V.int)/\0<ns.length/\∀ m,m∈ns->(∀ a∈ns,m<=a)->Q (.int m) H) rdMinL:=by
 intro ds vs F H R Q fh h rx q;unfold rdMinL at h;split at h
 .obtain⟨ns,rfl,hl,h⟩:=h;obtain⟨v,r,rfl,h1,h2⟩:=reps_cons.mp rx;rw[reps_nil.mp h2];obtain⟨a,us,rfl,hq,rs⟩:=rep_lst.mp h1;rw[Reps.ints.mp rs] at hq;exact⟨a,ns,rfl,fh.seq (SqL.of hq),hl,λm h1 h2=>q _ _ F H (Grow.refl fh) (h m h1 h2) (rep_int.mpr rfl)⟩
 .exact h.elim
def sU{p:R5}(hc:X.calm=true)(hm:X.mg "min"=m9)(ha:WDA X [e] t)(hg:autoParam (Gl X "min") zA0)(he:autoParam (zSE X e []) zA0)(c7:autoParam (zPL X pos []) zA0):WDE X (.Call (.Name "min" p) [e] [] pos) (dCB rdMinL t):=⟨gE (AC hc) AD hm PyProof.Rows.boot_min ha.out hg (by decide) (by decide) he c7⟩
def Fj:RDn:=λds R=>match ds with|[.lst xs]=>R (.tup xs)|[.tup xs]=>R (.tup xs)|_=>False
def AE(is:List Nat)(ti:TDI)(tb:TSD):TSD:=λE z=>ti z λds=>∃ W:Nat->SD->Prop,W 0 z/\(∀ (k:Nat) x z,ds[k]?=be x->W k z->tb {E with nx:=W (k+1),ct:=W (k+1),bk:=E.nx} (aV is [.int k,x] z))/\∀ z,W ds.length z->E.nx z
variable{is:List Nat}
def AF{B F0 F1 H1:Hp}{z:SD}{s:L2.St}{E:Ends}{ED:EndsD}{It':It}{g:TG}{tb:TSD}{tbv:TS}{ds:List D}(k1:Kept B F0 F1 H1)(u9:RepS K B F1 H1 z s)(e:EndsOk K B F0 ED E)
  (go:∀ k F' H',Same F1 F'->Same F' H'->k<ds.length->It'.go k H') (stop:∀ F' H',Same F1 F'->Same F' H'->It'.stop ds.length H')
  (yld:∀ k F' H' x H'',Same F1 F'->Same F' H'->k<ds.length->It'.yld k H' x H''->∃ T d v,H' T=m9/\x= .ref T/\H''=upd H' T (.tup [.int k,v])/\ds[k]?=be d/\Rep K F' d v)
  (hg:∀ (dd:List D) (vs:List V) (T:KF) (z:SD) (s:L2.St) (F H:Hp) (Q:L2.St->Hp->Prop),dd.length=2->H T=be (.tup vs)->Reps K F dd vs->RepS K B F H z s->(∀ s',RepS K B F H (aV is dd z) s'->Q s' H)->g (.ref T) s H Q)
  (M4:∀ E s H,lS K tb E s H->tbv E s H)
  (hd:∃ W:Nat->SD->Prop,W 0 z/\(∀ (k:Nat) x z,ds[k]?=be x->W k z->tb {ED with nx:=W (k+1),ct:=W (k+1),bk:=ED.nx} (aV is [.int k,x] z))/\∀ z,W ds.length z->ED.nx z):
  ∃ W:Nat->Nat->L2.St->Hp->Prop,(∃ m,W 0 m s H1)/\∀ i m σ H,W i m σ H->
   (It'.stop i H/\E.nx σ H)\/(It'.go i H/\∃ N:L2.St->Hp->Prop,(∀ σ' H',N σ' H'->∃ m',m'<m/\W (i+1) m' σ' H')/\∀ x H',It'.yld i H x H'->g x σ H' λσ2 H2=>tbv {E with nx:=N,ct:=N,bk:=E.nx} σ2 H2):=by
 obtain⟨W,w0,c5,out⟩:=hd;refine⟨λk m s' H'=>m=ds.length - k/\k<=ds.length/\∃ F' z',Kept B F0 F' H'/\Same F1 F'/\RepS K B F' H' z' s'/\W k z',⟨ds.length,by simp,FR _,F1,z,k1,Same.refl F1,u9,w0⟩,?_⟩;rintro k m s' H' ⟨rfl,hk,F',z',k',g',r',w'⟩;by_cases g5:k<ds.length
 .refine .inr ⟨go k F' H' g' k'.fh g5,λs3 H3=>∃ F3 z3,Kept B F0 F3 H3/\Same F1 F3/\RepS K B F3 H3 z3 s3/\W (k+1) z3,λs3 H3 h3=>⟨ds.length - (k+1),by lia,rfl,g5,h3⟩,λx H'' hy=>?_⟩;obtain⟨T,d,v,hT,rfl,rfl,hd,rd⟩:=yld k F' H' x H'' g' k'.fh g5 hy;have gn:=Grow.new k'.fh hT (.tup [.int k,v]);have k2:=k'.grow gn;have rp:Reps K (upd F' T (.tup [.int k,v])) [.int k,d] [.int k,v]:=reps_cons.mpr ⟨_,_,rfl,rep_int.mpr rfl,eL (rd.mono gn.ff)⟩;refine hg [.int k,d] _ T z' s' _ _ _ rfl aC rp (r'.grow gn) λs2 Jj=>M4 _ _ _ ?_;have gF:Same F1 (upd F' T (.tup [.int k,v])):=g'.trans gn.ff;refine⟨B,upd F' T (.tup [.int k,v]),upd F' T (.tup [.int k,v]),_,⟨k2.bh,k2.fh,Same.refl _,λb h1 _=>h1,k2.eb,k2.jf.trans k2.f0,λb h1 h2=>k2.out b (k2.jo b h1 h2) h2⟩,Jj,_,c5 k d z' hd w',?_⟩;have up:∀ {F3 H3:Hp},Kept B (upd F' T (.tup [.int k,v])) F3 H3->Kept B F0 F3 H3:=λk3=>⟨k3.bh,k3.fh,k2.f0.trans k3.f0,λb h1 h2=>k3.out b (k2.out b h1 h2) h2,k2.eb,k2.jf,k2.jo⟩;exact⟨λz3 s3 F3 H3 k3 h3 r3=>⟨F3,z3,up k3,gF.trans k3.f0,r3,h3⟩,λd v F3 H3 k3=>e.rt d v F3 H3 (up k3),λz3 s3 F3 H3 k3=>e.nx z3 s3 F3 H3 (up k3),λz3 s3 F3 H3 k3 h3 r3=>⟨F3,z3,up k3,gF.trans k3.f0,r3,h3⟩⟩
 .have ek:k=ds.length:=by lia
  subst ek;exact .inl ⟨stop F' H' g' k'.fh,e.nx z' s' F' H' k' (out z' w') r'⟩
variable{body:List RO}
def AG{es:List RP}{x1:Nat}{tp p1:R5}{tb:TSD}(hp:Se (RR X.prog X.w) X.A X.env X.xe)(hc:X.calm=true)(hm:X.mg "enumerate"=m9)(he:WDE X e te)(hG:DGs X es is)(hb:WDSs X body tb)(a_:autoParam (is.length=2) zA0)(hg:autoParam (Gl X "enumerate") zA0)
  (hn:autoParam ((RW es X.env).length=2) zA0) (l_:autoParam ((RW es X.env).findIdx? (·.1)=none) zA0)
  (hs:autoParam (∀ y,zFS X (.Call (.Name "enumerate" p1) [e] [] p2) y) zA2) (t6:autoParam (zSE X e []) zA0) (f_:autoParam (RV [e] X.env=[(false,R1 e X.env)]) zA0):
  WDS X (.For (.Tuple es x1 tp) (.Call (.Name "enumerate" p1) [e] [] p2) body [] pos) (AE is (dItL te) tb):=by
 obtain⟨ug,JQ,kk⟩:=hG;refine⟨(dB hp hc (sM hg hm (bx he.out pa_nil t6) f_) (fD hc JQ hn l_) hb.out hs).anti λE s H q=>?_⟩;obtain⟨B,F0,F,z,kp,rs,ED,h,e⟩:=q;refine⟨B,F,z,kp.kf,rs,_,h,λd v F1 H1 g1 hd rd=>?_⟩;have key:∀ (ds:List D) (p:KF) (vs:List V),SqL X.K F1 p vs->Reps X.K F1 ds vs->(∃ W:Nat->SD->Prop,W 0 z/\(∀ (k:Nat) x z,ds[k]?=be x->W k z->tb {ED with nx:=W (k+1),ct:=W (k+1),bk:=ED.nx} (aV is [.int k,x] z))/\∀ z,W ds.length z->ED.nx z)->_:=λds p vs hq rr hd=>
  AF (It':=Itel X.K p) (g:=gTup X.K 2 ug) (tbv:=lS X.K tb) (E:=E) (kp.grow g1) (rs.grow g1) e (λk F' H' s1 s2 hk=>⟨vs,vs[k]'(by rw[rr.length];exact hk),s2.seq (s1.seq hq),by simp[rr.length,hk]⟩) (λF' H' s1 s2=>⟨vs,s2.seq (s1.seq hq),by rw[rr.length];exact Fo _⟩) (λk F' H' x H'' s1 s2 hk hy=>by
   obtain⟨T,v,hT,e1,e2,hv⟩:=hy;obtain⟨d,hd,rd⟩:=rr.get' (hv vs (s2.seq (s1.seq hq)));exact⟨T,d,v,hT,e1,e2,hd,rd.mono s1⟩) (λdd q9 T z s F H Q hl hT rp Jk hQ=>⟨T,q9,rfl,SqT.of hT,by rw[rp.length];exact hl,kk dd q9 z s B F H Q (by rw[hl,a_]) rp Jk hQ⟩) (λ_ _ _ h=>h) hd
 split at hd
 .obtain⟨p,vs,rfl,hq,rr⟩:=rep_lst.mp rd;exact⟨p,rfl,⟨vs,g1.fh.seq (SqL.of hq)⟩,key _ p vs (SqL.of hq) rr hd⟩
 .obtain⟨p,vs,rfl,hq,rr⟩:=rep_rol.mp rd;exact⟨p,rfl,⟨vs,g1.fh.seq hq⟩,key _ p vs hq rr hd⟩
 .exact hd.elim
def EqE(K:Ex)(H:Hp)(x y:V)(b:Bool):Prop:=(bR x=true/\bR y=true/\b=eqV x y)\/∃ a a' xs ys,x= .ref a/\y= .ref a'/\((SqT K H a xs/\SqT K H a' ys)\/(SqL K H a xs/\SqL K H a' ys))/\xs.all bR=true/\ys.all bR=true/\b=eqVs xs ys
def sh2(x y:D):Bool:=(br x && br y)||match x,y with| .tup a,.tup b=>a.all br && b.all br| .lst a,.lst b=>a.all br && b.all br|_,_=>false
def eq2(x y:D):Bool:=match x,y with| .tup a,.tup b=>eqFs a b| .lst a,.lst b=>eqFs a b|x,y=>eqF x y
def EqE.of{F H:Hp}(fh:Same F H){x y:D}{u v:V}(rx:Rep K F x u)(ry:Rep K F y v)(h:sh2 x y=true):EqE K H u v (eq2 x y):=by
 unfold sh2 at h;rw[Bool.or_eq_true,FS] at h;rcases h with⟨f1,f2⟩|h
 .refine .inl ⟨eI rx f1,eI ry f2,?_⟩;rw[eqV_of rx ry f1 f2];unfold eq2;split
  .cases f1
  .cases f1
  .rfl
 .split at h
  .rw[FS] at h;obtain⟨a,us,rfl,hq,rr⟩:=rep_tup_mp rx;obtain⟨b,vs,rfl,td,u7⟩:=rep_tup_mp ry;exact .inr ⟨a,b,us,vs,rfl,rfl,.inl ⟨fh.tup hq,fh.tup td⟩,cX rr h.1,cX u7 h.2,(jO rr u7 h.1 h.2).symm⟩
  .rw[FS] at h;obtain⟨a,us,rfl,hq,rr⟩:=rep_lst.mp rx;obtain⟨b,vs,rfl,td,u7⟩:=rep_lst.mp ry;exact .inr ⟨a,b,us,vs,rfl,rfl,.inr ⟨SqL.of (fh _ _ hq),SqL.of (fh _ _ td)⟩,cX rr h.1,cX u7 h.2,(jO rr u7 h.1 h.2).symm⟩
  .cases h
def sh2s:List D->List D->Bool
 |[],[]=>true
 |x::xs,y::ys=>sh2 x y && sh2s xs ys
 |_,_=>false
def eq2s(xs ys:List D):List Bool:=List.zipWith eq2 xs ys
def EqE.all{F H:Hp}(fh:Same F H):∀ {xs ys:List D} {us vs:List V},Reps K F xs us->Reps K F ys vs->sh2s xs ys=true->us.length=vs.length/\(eq2s xs ys).length=us.length/\∀ j,j<us.length->EqE K H (us.getD j .non) (vs.getD j .non) ((eq2s xs ys).getD j true):=by
 intro xs;induction xs with
 |nil=>
  intro ys us vs r1 r2 h;cases ys with
  |nil=>
   rw[reps_nil.mp r1,reps_nil.mp r2];exact⟨rfl,rfl,λj h=>absurd h (Gw j)⟩
  |cons y ys=>exact absurd h Fz
 |cons x xs ih=>
  intro ys us vs r1 r2 h;cases ys with
  |nil=>exact absurd h Fz
  |cons y ys=>
   obtain⟨u,ur,rfl,a1,a2⟩:=reps_cons.mp r1;obtain⟨v,vr,rfl,b1,b2⟩:=reps_cons.mp r2;rw[sh2s,FS] at h;obtain⟨q1,q2,q3⟩:=ih a2 b2 h.2;refine⟨by rw[Fq,Fq,q1],by show(eq2s xs ys).length+1=_;rw[q2,Fq],λj hj=>?_⟩;cases j with
   |zero=>exact EqE.of fh a1 b1 h.1
   |succ j=>exact q3 j (Ic hj)
def AH(i:Nat)(t:TDA):TSD:=λE z=>t z λds=>match ds with
 |[.lst xs]=>E.nx (z.set i (be (.own xs)))
 |[.tup xs]=>E.nx (z.set i (be (.own xs)))
 |_=>False
def AI[Jx](i:Nat){x:D'}{c8 p:R5}{t:TDA}(hm:X.mg "list"=m9)(hN:X.N.Nodup)(ha:WDA X [e] t)(hi:autoParam (X.N[i]?=be x) zA0)(hx:autoParam (Loc X.env.scope x) zA4)(hg:autoParam (Gl X "list") zA0)(he:autoParam (zSE X e []) zA0)(hs:autoParam (Sa (.Call (.Name "list" p) [e] [] p2) (be (.Name x c8)) pos.line X.env=pure false) zA0)
  (hf:autoParam (zFN X x) zA3):WDS X (.Assign [.Name x c8] (.Call (.Name "list" p) [e] [] p2) pos) (AH i t):=⟨have ha:=ha.out;(gp hN hi hx (jD qM hg hm PyProof.Rows.boot_list ha (by decide) (by decide) he) hs hf).anti λE s H q=>by
 obtain⟨B,F0,F,z,k,rs,ED,h,e⟩:=q;refine⟨B,F,z,k.kf,rs,_,h,λds vs F1 H1 g hd rd=>?_⟩;have k1:=k.grow g;have r1:=rs.grow g;have c_:∀ {xs:List D} {us:List V},Reps X.K F1 xs us->ED.nx (z.set i (be (.own xs)))->∀ l,H1 l=m9->E.nx (s.set i (be (.ref l))) (upd H1 l (.lst us)):=λ{xs us} rr hn p hp=>by
  have hB:B p=none:=k1.bh.free hp;have hF:F1 p=none:=k1.fh.free hp;refine e.nx _ _ F1 _ ⟨k1.bh.trans (aU hp _),k1.fh.trans (aU hp _),k1.f0,k1.out,k1.eb,k1.jf,k1.jo⟩ hn (r1.setOwn hB hF rr λj dj hj e1 e2=>?_);obtain⟨a,us,q1,q2,_⟩:=r1.own j dj e1;rw[e2] at q1;cases q1;rw[hp] at q2;cases q2
 split at hd
 .obtain⟨v,r,rfl,h1,h2⟩:=reps_cons.mp rd;rw[reps_nil.mp h2];obtain⟨a,us,rfl,hq,rr⟩:=rep_lst.mp h1;exact⟨a,us,rfl,.inl (g.fh.seq (SqL.of hq)),c_ rr hd⟩
 .obtain⟨v,r,rfl,h1,h2⟩:=reps_cons.mp rd;rw[reps_nil.mp h2];obtain⟨a,us,rfl,hq,rr⟩:=rep_tup_mp h1;exact⟨a,us,rfl,.inr (g.fh.tup hq),c_ rr hd⟩
 .exact hd.elim⟩
def AJ(is:List Nat)(ti:TDI)(tb:TSD):TSD:=λE z=>ti z λds=>∃ W:Nat->SD->Prop,W 0 z/\(∀ (k:Nat) x z,ds[k]?=be x->W k z->∃ dd,x= .tup dd/\dd.length=is.length/\tb {E with nx:=W (k+1),ct:=W (k+1),bk:=E.nx} (aV is dd z))/\∀ z,W ds.length z->E.nx z
def AK{es:List RP}{x1:Nat}{tp:R5}{tb:TSD}(hp:Se (RR X.prog X.w) X.A X.env X.xe)(hc:X.calm=true)(he:WDE X e te)(hG:DGs X es is)(hb:WDSs X body tb)
  (hn:autoParam ((RW es X.env).length=is.length) zA0) (l_:autoParam ((RW es X.env).findIdx? (·.1)=none) zA0) (hs:autoParam (∀ y,zFS X e y) zA2):
  WDS X (.For (.Tuple es x1 tp) e body [] pos) (AJ is (dItL te) tb):=by
 obtain⟨ug,JQ,kk⟩:=hG;refine⟨(dB hp hc (gq he.out) (fD hc JQ hn l_) hb.out hs).anti λE s H q=>?_⟩;obtain⟨B,F0,F,z,kp,rs,ED,h,e⟩:=q;refine⟨B,F,z,kp.kf,rs,_,h,λd v F1 H1 g1 hd rd=>?_⟩;have key:∀ (ds:List D) (p:KF) (vs:List V),SqL X.K F1 p vs->Reps X.K F1 ds vs->(∃ W:Nat->SD->Prop,W 0 z/\(∀ (k:Nat) x z,ds[k]?=be x->W k z->∃ dd,x= .tup dd/\dd.length=is.length/\tb {ED with nx:=W (k+1),ct:=W (k+1),bk:=ED.nx} (aV is dd z))/\∀ z,W ds.length z->ED.nx z)->∃ W:Nat->Nat->L2.St->Hp->Prop,(∃ m,W 0 m s H1)/\∀ i m σ H,W i m σ H->
   ((Itl X.K p).stop i H/\E.nx σ H)\/((Itl X.K p).go i H/\∃ N:L2.St->Hp->Prop,(∀ σ' H',N σ' H'->∃ m',m'<m/\W (i+1) m' σ' H')/\∀ x H',(Itl X.K p).yld i H x H'->gTup X.K is.length ug x σ H' λσ2 H2=>lS X.K tb {E with nx:=N,ct:=N,bk:=E.nx} σ2 H2):=λds p vs hq rr hd=>by
  obtain⟨W,w0,c5,out⟩:=hd;refine jw (K:=X.K) (a:=p) (xs:=vs) (g:=gTup X.K is.length ug) (tb:=lS X.K tb) (D:=E) (λk s' H'=>∃ F' z',Kept B F0 F' H'/\Same F1 F'/\RepS X.K B F' H' z' s'/\W k z') ⟨F1,z,kp.grow g1,Same.refl F1,rs.grow g1,w0⟩ (λk s' H' _ ⟨F',z',k',g',r',w'⟩=>k'.fh.seq (g'.seq hq)) ?_ ?_
  .rintro k y s' H' hk ⟨F',z',k',g',r',w'⟩;obtain⟨d,hd,ry⟩:=rr.get' hk;obtain⟨dd,rfl,hl,tt⟩:=c5 k d z' hd w';obtain⟨T,us,rfl,hT,ru⟩:=rep_tup_mp (ry.mono g');refine⟨T,us,rfl,k'.fh.tup hT,by rw[ru.length];exact hl,kk dd us z' s' B F' H' _ hl ru r' λs2 Jj=>?_⟩;refine⟨B,F',F',_,⟨k'.bh,k'.fh,Same.refl F',λb h1 _=>h1,k'.eb,k'.jf.trans k'.f0,λb h1 h2=>k'.out b (k'.jo b h1 h2) h2⟩,Jj,_,tt,?_⟩;have up:∀ {F2 H2:Hp},Kept B F' F2 H2->Kept B F0 F2 H2:=λk2=>⟨k2.bh,k2.fh,k'.f0.trans k2.f0,λb h1 h2=>k2.out b (k'.out b h1 h2) h2,k'.eb,k'.jf,k'.jo⟩;exact⟨λz3 s3 F3 H3 k3 h3 r3=>⟨F3,z3,up k3,g'.trans k3.f0,r3,h3⟩,λd v F3 H3 k3=>e.rt d v F3 H3 (up k3),λz3 s3 F3 H3 k3=>e.nx z3 s3 F3 H3 (up k3),λz3 s3 F3 H3 k3 h3 r3=>⟨F3,z3,up k3,g'.trans k3.f0,r3,h3⟩⟩
  .rintro s' H' ⟨F',z',k',g',r',w'⟩;exact e.nx z' s' F' H' k' (out z' (by rw[<- rr.length];exact w')) r'
 split at hd
 .obtain⟨p,vs,rfl,hq,rr⟩:=rep_lst.mp rd;exact⟨p,rfl,⟨vs,g1.fh.seq (SqL.of hq)⟩,key _ p vs (SqL.of hq) rr hd⟩
 .obtain⟨p,vs,rfl,hq,rr⟩:=rep_rol.mp rd;exact⟨p,rfl,⟨vs,g1.fh.seq hq⟩,key _ p vs hq rr hd⟩
 .exact hd.elim
end
end My
end
section
namespace My
open PySem PySem.Spec PyProof.Rows L2
variable{w:Int}
def b64B(h:0<w)(h':w<=33554432): -(2 ^ 64)<w/\w<2 ^ 64:=by lia
variable{s:Int}
def s64B(h:0<=s)(h':s<w)(Rv:w<=33554432): -(2 ^ 64)<s/\s<2 ^ 64:=by lia
def d30B(h:0<w)(h':w<=33554432):0<w/\w<1073741824:=by lia
variable{x y:Int}
def ab24(h:x.natAbs<=12)(h':y.natAbs<=12):(x+y).natAbs<=24:=by lia
def sq0(a:Int):0<=a*a:=(Ie 0 a).elim (λq=>Hy q q) (λq=>Int.mul_nonneg_of_nonpos_of_nonpos q q)
def u64(h:w=1\/w=-1\/w=0): -(2 ^ 64)<w/\w<2 ^ 64:=by lia
variable{k:Nat}
def n64(h:w.natAbs<=k)(hk:autoParam (k<=1073741823) zA1): -(2 ^ 64)<w/\w<2 ^ 64:=by lia
variable{a b:Int}
def i64(h:a<=w)(h':w<=b)(ha:autoParam ( -1000000000001<=a) zA1)(hb:autoParam (b<=1000000000001) zA1): -(2 ^ 64)<w/\w<2 ^ 64:=by lia
def fdm(a b:Int)(hb:b≠0):(a - a.fdiv b*b).natAbs<b.natAbs/\(a.fdiv b).natAbs<=a.natAbs+1:=by
 have e:=Int.fmod_def a b;have e2:a - a.fdiv b*b=a.fmod b:=by rw[e,FK]
 rw[e2];have r:(a.fmod b).natAbs<b.natAbs:=by
  rcases(by lia:0<b\/b<0) with h|h
  .have h1:=Ig a h;have h2:=Ih a h;lia
  .have h1:=Ig (-a) (show 0< -b by lia);have h2:=Ih (-a) (show 0< -b by lia);rw[Int.neg_fmod_neg] at h1 h2;lia
 refine⟨r,?_⟩;have e3:(b*a.fdiv b).natAbs=b.natAbs*(a.fdiv b).natAbs:=Gx _ _;have e4:=Int.mul_fdiv_self a b;rcases GE (a.natAbs+1) (a.fdiv b).natAbs with c|c
 .have h1:b.natAbs*(a.natAbs+2)<=b.natAbs*(a.fdiv b).natAbs:=Nat.mul_le_mul_left _ c;have h2:b.natAbs*(a.natAbs+2)=b.natAbs*a.natAbs+2*b.natAbs:=by rw[Nat.mul_add,Nat.mul_comm _ 2]
  have h3:1*a.natAbs<=b.natAbs*a.natAbs:=Ii _ (by lia);lia
 .exact c
def Uni(a b c d p0 p1 q0 q1:Int):Prop:=∃ m n k l:Int,(m*l - n*k=1\/m*l - n*k=-1)/\p0=m*a+n*c/\p1=m*b+n*d/\q0=k*a+l*c/\q1=k*b+l*d
def Uni.refl(a b c d:Int):Uni a b c d a b c d:=⟨1,0,0,1,.inl (by decide),by lia,by lia,by lia,by lia⟩
variable{c d p0 p1 q0 q1:Int}
def Uni.step(t:Int)(h:Uni a b c d p0 p1 q0 q1):Uni a b c d q0 q1 (p0 - t*q0) (p1 - t*q1):=by
 obtain⟨m,n,k,l,hd,rfl,rfl,rfl,rfl⟩:=h;refine⟨k,l,m - t*k,n - t*l,?_,rfl,rfl,by grind,by grind⟩;rcases hd with h|h
 .right;grind
 .left;grind
def Uni.neg(h:Uni a b c d p0 p1 q0 q1):Uni a b c d (-p0) (-p1) q0 q1:=by
 obtain⟨m,n,k,l,hd,rfl,rfl,rfl,rfl⟩:=h;refine⟨-m,-n,k,l,?_,by grind,by grind,rfl,rfl⟩;rcases hd with h|h
 .right;grind
 .left;grind
def Uni.inv(h:Uni a b c d p0 p1 q0 q1):Uni p0 p1 q0 q1 a b c d:=by
 obtain⟨m,n,k,l,hd,rfl,rfl,rfl,rfl⟩:=h;rcases hd with h|h
 .exact⟨l,-n,-k,m,.inl (by grind),by grind,by grind,by grind,by grind⟩
 .exact⟨-l,n,k,-m,.inr (by grind),by grind,by grind,by grind,by grind⟩
def Uni.det(h:Uni a b c d p0 p1 q0 q1):p0*q1 - p1*q0=a*d - b*c\/p0*q1 - p1*q0=-(a*d - b*c):=by
 obtain⟨m,n,k,l,hd,rfl,rfl,rfl,rfl⟩:=h;rcases hd with h|h
 .left;grind
 .right;grind
def Lev(a b c d p0 p1 q0:Int):Prop:=0<=p1/\Uni a b c d p0 p1 q0 0
def FamOf(a b c d w h s:Int):Prop:=0<w/\0<h/\0<=s/\s<w/\Uni a b c d w 0 s h
def AL(x:Int):(if x<0 then -x else x)=x\/(if x<0 then -x else x)=-x:=by
 split<;>simp
def AM(h:x≠0):0<(if x<0 then -x else x):=by split<;>lia
def fQ(hn:¬ a*d=b*c)(h:Lev a b c d p0 p1 q0):FamOf a b c d (if q0<0 then -q0 else q0) p1 (p0 % (if q0<0 then -q0 else q0)):=by
 obtain⟨hp,hu⟩:=h;have dt:=hu.det;have Qu:q0≠0:=by
  rintro rfl;simp at dt;lia
 have Rw:p1≠0:=by
  rintro rfl;simp at dt;lia
 have hw:=AM Qu;have hs:=AL q0;generalize (if q0<0 then -q0 else q0)=w at hw hs;refine⟨hw,by lia,FU _ (by lia),FV _ hw,?_⟩;have em:=F6 p0 w;generalize p0 % w=s at em;generalize p0 / w=t at em;obtain⟨m,n,k,l,hd,e1,e2,e3,e4⟩:=hu;rcases hs with e|e
 .refine⟨k,l,m - t*k,n - t*l,?_,by grind,by grind,by grind,by grind⟩;rcases hd with h|h
  .right;grind
  .left;grind
 .refine⟨-k,-l,m+t*k,n+t*l,?_,by grind,by grind,by grind,by grind⟩;rcases hd with h|h
  .left;grind
  .right;grind
variable{h i j:Int}
def in_fam(hh:0<h)(ex:x=i*w+j*s)(ey:y=j*h):y % h=0/\(x - y / h*s) % w=0:=by
 subst ex ey;rw[FY _ (by lia)];refine⟨G7 _ _,?_⟩;have e:i*w+j*s - j*s=i*w:=by lia
 rw[e];exact G7 _ _
def FamOf.first(f:FamOf a b c d w h s):b % h=0/\(a - b / h*s) % w=0:=by
 obtain⟨hw,hh,_,_,hu⟩:=f;obtain⟨m,n,k,l,_,e1,e2,e3,e4⟩:=hu.inv;exact in_fam (i:=m) (j:=n) hh e1 (by lia)
def FamOf.second(f:FamOf a b c d w h s):d % h=0/\(c - d / h*s) % w=0:=by
 obtain⟨hw,hh,_,_,hu⟩:=f;obtain⟨m,n,k,l,_,e1,e2,e3,e4⟩:=hu.inv;exact in_fam (i:=k) (j:=l) hh e3 (by lia)
variable{u v:Int}
def sV(eu:u=i*a+j*c)(ev:v=i*b+j*d):(u*d - v*c).fmod (a*d - b*c)=0/\(a*v - b*u).fmod (a*d - b*c)=0:=by
 subst eu ev;refine⟨Hz ⟨i,by grind⟩,Hz ⟨j,by grind⟩⟩
def FamOf.cells(f:FamOf a b c d w h s):w*h=a*d - b*c\/w*h=-(a*d - b*c):=by
 have:=f.2.2.2.2.det;simpa using this
def bA{A B:Nat}(h1:a.natAbs<=A)(h2:d.natAbs<=B):(a*d).natAbs<=A*B:=by
 rw[Gx];exact G8 h1 h2
variable{g:Int}
def AN{gap:Int}{N:Nat}(hg:0<g)(c0:0<=c)(cg:c<=g)(h:gap.natAbs<=N):(c*gap / g).natAbs<=N:=by
 have h1:(c*gap).natAbs<=g.natAbs*N:=by rw[Gx];exact G8 (by omega) h
 have e:((g.natAbs*N:Nat):Int)=N*g:=by rw[HA,Int.natAbs_of_nonneg (by omega),FK]
 have l1:=Int.le_ediv_of_mul_le (a:=-(N:Int)) (b:=c*gap) hg (by rw[Gy];omega);have l2:=Int.ediv_le_of_le_mul (a:=c*gap) (b:=(N:Int)) hg (by omega);omega
def ci(hw:0<w)(hh:0<h):w<=w*h/\h<=w*h:=by
 have h1:=G9 (show 1<=h by lia) (show 0<=w by lia);have h2:=FH (show 1<=w by lia) (show 0<=h by lia);lia
def FamOf.bd(f:FamOf a b c d w h s){N:Nat}(hN:(a*d - b*c).natAbs<=N):w<=N/\h<=N/\s<N:=by
 obtain⟨h1,h2⟩:=ci f.1 f.2.1;have h3:=f.cells;have h4:=f.2.2.2.1;lia
def Meas(x y g u:Int):Prop:=0<=g/\(∃ i,x=i*g)/\(∃ j,y=j*g)/\∃ n,g=u*x+n*y
def sW{q:Int}(h:0<=g/\∃ m n k l:Int,(m*l - n*k=1\/m*l - n*k=-1)/\u=m*1+n*0/\g=m*x+n*y/\q=k*1+l*0/\0=k*x+l*y):Meas x y g u:=by
 obtain⟨h0,m,n,k,l,hd,e1,e2,e3,e4⟩:=h;refine⟨h0,?_,?_,n,by grind⟩
 .rcases hd with h|h
  .exact⟨l,by grind⟩
  .exact⟨-l,by grind⟩
 .rcases hd with h|h
  .exact⟨-k,by grind⟩
  .exact⟨k,by grind⟩
def Meas.pos(h:Meas x y g u)(hx:0<x):0<g:=by
 obtain⟨h0,⟨i,hi⟩,_⟩:=h;rcases(by lia:g=0\/0<g) with e|e
 .subst e;simp at hi;lia
 .exact e
def Meas.le(h:Meas x y g u)(hx:0<x):g<=x:=by
 have hg:=h.pos hx;obtain⟨h0,⟨i,hi⟩,_⟩:=h;have Rx:0<i:=by
  rcases(by lia:i<=0\/0<i) with e|e
  .have:=Gm e h0;lia
  .exact e
 have:=FH (show 1<=i by lia) h0;lia
structure MetR(w1 h1 s1 w2 h2 s2 w h s A:Int):Prop where
 w0:0<w
 h0:0<h
 s0:0<=s
 sw:s<w
 in1:∃ i,w=i*w1
 in2:∃ i,w=i*w2
 up1:∃ i j,s=i*w1+j*s1/\h=j*h1
 up2:∃ i j,s=i*w2+j*s2/\h=j*h2
 A0:0<A
 cells:w*h*A=w1*h1*w2*h2
 d11:A∣w1*h1
 d12:A∣w1*h2
 d21:A∣w2*h1
 d22:A∣w2*h2
 ds:A∣s1*h2 - h1*s2
 all:∀ x y:Int,(∃ i j,x=i*w1+j*s1/\y=j*h1)->(∃ i j,x=i*w2+j*s2/\y=j*h2)->∃ i j,x=i*w+j*s/\y=j*h
 comb:∀ G:Int,G∣w1*h1->G∣w1*h2->G∣w2*h1->G∣w2*h2->G∣s1*h2 - h1*s2->G∣A
def dL(h:0<x*y)(hy:0<y):0<x:=by
 rcases(by lia:x<=0\/0<x) with e|e
 .have:=Gm e (show 0<=y by lia);lia
 .exact e
def ku(ha:0<a)(h:a*b=a*c):b=c:=HB (by lia) h
def r1(k j c:Int):k*(j*c)=j*(c*k):=by grind
def r2(j u c n d:Int):j*(u*c+n*d)=u*(j*c)+n*d*j:=by grind
def r3(u j d n j1:Int):u*(j*d)+n*d*j1=d*(u*j+n*j1):=by grind
def r4(j u c n d:Int):j*(u*c+n*d)=u*c*j+n*(j*d):=by grind
def r5(u c j n j1:Int):u*c*j+n*(j1*c)=c*(u*j+n*j1):=by grind
def r6(g e i1 a i2 b d T s1 c s2:Int)(q:i1*(a*(e*g))+d*T*s1=i2*(b*(e*g))+c*T*s2):g*(e*(i1*a - i2*b))=T*(c*s2 - d*s1):=by grind
def r7(g T f:Int):g*(T*f)=T*(f*g):=by grind
def r8(T v e q f:Int):T*(v*e+q*f)=v*T*e+q*(T*f):=by grind
def r9(v T e q m:Int):v*T*e+q*(e*m)=e*(v*T+q*m):=by grind
def r10(e r f:Int):e*r*f=e*(r*f):=by grind
def r11(i u a n b:Int):i*(u*a+n*b)=u*(i*a)+n*b*i:=by grind
def r12(u r f i2 b n i1:Int):u*(r*f+i2*b)+n*b*i1=u*(r*f)+b*(u*i2+n*i1):=by grind
def r13(u r f b M a e g d s1 t:Int):(u*(r*f)+b*M)*(a*(e*g))+d*(e*r)*s1=(M+r*t)*(a*b*(e*g))+r*(e*(d*s1)+f*u*(a*(e*g)) - a*b*(e*g)*t):=by grind
def r14(d e r c k:Int):d*(e*r)*(c*k)=r*(c*d*k*e):=by grind
variable{e f gg u' s1 s2:Int}
def AO{k n n' q t i1 j1 i2 j2:Int}(hk:0<k)(IS:0<gg)(he:0<e)
  (t_:u*a+n*b=1) (p6:u'*c+n'*d=1) (gap:c*s2 - d*s1=f*gg) (u5:v*e+q*f=1)
  (hs:s=e*(d*s1)+f*u*(a*(e*gg)) - a*b*(e*gg)*t) (x1:x=i1*(a*(e*gg))+j1*s1) (y1:y=j1*(c*k)) (x2:x=i2*(b*(e*gg))+j2*s2) (y2:y=j2*(d*k)):
  ∃ i j,x=i*(a*b*(e*gg))+j*s/\y=j*(c*d*k*e):=by
 have h1:j1*c=j2*d:=ku hk (by rw[r1 k j1 c,r1 k j2 d,<- y1,<- y2]);have LR:j1=d*(u'*j2+n'*j1):=by
  have p:=r2 j1 u' c n' d;rw[p6,h1,r3] at p;lia
 have O2:j2=c*(u'*j2+n'*j1):=by
  have p:=r4 j2 u' c n' d;rw[p6,<- h1,r5] at p;lia
 generalize u'*j2+n'*j1=T at LR O2;have q1:i1*(a*(e*gg))+d*T*s1=i2*(b*(e*gg))+c*T*s2:=by rw[<- LR,<- O2,<- x1,<- x2]
 have h2:e*(i1*a - i2*b)=T*f:=ku IS (by rw[r6 gg e i1 a i2 b d T s1 c s2 q1,r7,gap]);have eT:T=e*(v*T+q*(i1*a - i2*b)):=by
  have p:=r8 T v e q f;rw[u5,<- h2,r9] at p;lia
 generalize hr:v*T+q*(i1*a - i2*b)=r at eT;have h3:i1*a - i2*b=r*f:=ku he (by rw[h2,eT,r10]);have h4:i1=u*(r*f)+b*(u*i2+n*i1):=by
  have p:=r11 i1 u a n b;have q3:i1*a=r*f+i2*b:=by lia
  rw[t_,q3,r12] at p;lia
 generalize u*i2+n*i1=M at h4;refine⟨M+r*t,r,?_,?_⟩
 .rw[hs,x1,LR,eT,<- r13,<- h4]
 .rw[y1,LR,eT,r14]
def AQ{k n n' q t:Int}(ha:0<a)(hb:0<b)(hc:0<c)(hd:0<d)(he:0<e)(hk:0<k)(IS:0<gg)
  (t_:u*a+n*b=1) (p6:u'*c+n'*d=1) (gap:c*s2 - d*s1=f*gg) (u5:v*e+q*f=1)
  (hs:s=e*(d*s1)+f*u*(a*(e*gg)) - a*b*(e*gg)*t) (m1:0<=s) (m2:s<a*b*(e*gg)):
  MetR (a*(e*gg)) (c*k) s1 (b*(e*gg)) (d*k) s2 (a*b*(e*gg)) (c*d*k*e) s (k*gg):=by
 have hg:0<e*gg:=FE he IS;have hW:0<a*b*(e*gg):=FE (FE ha hb) hg;have Na:d*s1=c*s2 - f*gg:=by lia
 have ua:u*a=1 - n*b:=by lia
 refine⟨hW,FE (FE (FE hc hd) hk) he,m1,m2,⟨b,?_⟩,⟨a,?_⟩,⟨f*u - t*b,d*e,?_,?_⟩,⟨-(f*n) - t*a,c*e,?_,?_⟩,FE hk IS,?_,⟨a*e*c,?_⟩,⟨a*e*d,?_⟩,⟨b*e*c,?_⟩,⟨b*e*d,?_⟩,⟨-f,?_⟩,?_,?_⟩
 .grind
 .grind
 .grind
 .grind
 .rw[hs,Na];have x2:f*u*(a*(e*gg))=f*(u*a)*(e*gg):=by grind
  rw[x2,ua];grind
 .grind
 .grind
 .grind
 .grind
 .grind
 .grind
 .have:s1*(d*k) - c*k*s2=-(k*(c*s2 - d*s1)):=by grind
  rw[this,gap];grind
 .rintro x y ⟨i1,j1,x1,z1⟩ ⟨i2,j2,x2,z2⟩;exact AO hk IS he t_ p6 gap u5 hs x1 z1 x2 z2
 .rintro G ⟨y1,z1⟩ ⟨y2,z2⟩ ⟨y3,z3⟩ ⟨y4,z4⟩ ⟨y5,z5⟩;refine⟨v*(u'*u*y1+n'*u*y2+u'*n*y3+n'*n*y4) - q*y5,?_⟩;have k1:k*(e*gg)=G*(u'*u*y1+n'*u*y2+u'*n*y3+n'*n*y4):=by
   have p1:k*(e*gg)=(u'*c+n'*d)*(u*a+n*b)*(k*(e*gg)):=by rw[t_,p6];grind
   have p2:(u'*c+n'*d)*(u*a+n*b)*(k*(e*gg))=u'*u*(a*(e*gg)*(c*k))+n'*u*(a*(e*gg)*(d*k))+u'*n*(b*(e*gg)*(c*k))+n'*n*(b*(e*gg)*(d*k)):=by grind
   rw[p1,p2,z1,z2,z3,z4];grind
  have k2:k*(f*gg)=-(G*y5):=by
   rw[<- z5,<- gap];grind
  have k3:k*gg=(v*e+q*f)*(k*gg):=by rw[u5];grind
  have k4:(v*e+q*f)*(k*gg)=v*(k*(e*gg))+q*(k*(f*gg)):=by grind
  rw[k3,k4,k1,k2];grind
variable{w1 h1 w2 h2:Int}
def ky{k u_:Int}(p7:0<w1)(x9:0<w2)(O3:0<h1)(B_:0<h2)
  (M1:Meas w1 w2 g u) (M2:Meas h1 h2 k u')
  (M3:Meas g (h1*h2 / k / h2*s2 - h1*h2 / k / h1*s1) gg u_):
  MetR w1 h1 s1 w2 h2 s2 (w1*w2 / g) (h1*h2 / k*(g / gg)) ((g / gg*(h1*h2 / k / h1*s1)+g / gg*(h1*h2 / k / h2*s2 - h1*h2 / k / h1*s1) / g*u*w1) % (w1*w2 / g)) (k*gg):=by
 have hg:=M1.pos p7;have hk:=M2.pos O3;have IS:=M3.pos hg;obtain⟨_,⟨a,ea⟩,⟨b,eb⟩,n,en⟩:=M1;obtain⟨_,⟨c,ec⟩,⟨d,ed⟩,n',Ry⟩:=M2;have ha:0<a:=dL (ea ▸ p7) hg;have hb:0<b:=dL (eb ▸ x9) hg;have hc:0<c:=dL (ec ▸ O3) hk;have hd:0<d:=dL (ed ▸ B_) hk;have t_:u*a+n*b=1:=by
  have p:(u*a+n*b)*g=1*g:=by
   have:(u*a+n*b)*g=u*(a*g)+n*(b*g):=by grind
   rw[this,<- ea,<- eb];lia
  exact GF (by lia) p
 have p6:u'*c+n'*d=1:=by
  have p:(u'*c+n'*d)*k=1*k:=by
   have:(u'*c+n'*d)*k=u'*(c*k)+n'*(d*k):=by grind
   rw[this,<- ec,<- ed];lia
  exact GF (by lia) p
 have eW:w1*w2 / g=a*b*g:=by
  have:w1*w2=(a*b*g)*g:=by rw[ea,eb];grind
  rw[this];exact FY _ (by lia)
 have eR:h1*h2 / k=c*d*k:=by
  have:h1*h2=(c*d*k)*k:=by rw[ec,ed];grind
  rw[this];exact FY _ (by lia)
 have Qv:h1*h2 / k / h1=d:=by
  rw[eR];have:c*d*k=d*h1:=by rw[ec];grind
  rw[this];exact FY _ (by lia)
 have Qw:h1*h2 / k / h2=c:=by
  rw[eR];have:c*d*k=c*h2:=by rw[ed];grind
  rw[this];exact FY _ (by lia)
 rw[Qv,Qw] at M3 ⊢;obtain⟨_,⟨e,ee⟩,⟨f,ef⟩,q,eq⟩:=M3;have he:0<e:=dL (ee ▸ hg) IS;have u5:u_*e+q*f=1:=by
  have p:(u_*e+q*f)*gg=1*gg:=by
   have:(u_*e+q*f)*gg=u_*(e*gg)+q*(f*gg):=by grind
   rw[this,<- ee,<- ef];lia
  exact GF (by lia) p
 have eC:g / gg=e:=by rw[ee];exact FY _ (by lia)
 have eS:e*(c*s2 - d*s1) / g=f:=by
  have:e*(c*s2 - d*s1)=f*g:=by rw[ef,ee];grind
  rw[this];exact FY _ (by lia)
 rw[eC,eS,eW,eR];have hW:0<a*b*g:=FE (FE ha hb) hg;have em:=F6 (e*(d*s1)+f*u*w1) (a*b*g);have m1:=FU (e*(d*s1)+f*u*w1) (show a*b*g≠0 by lia);have m2:=FV (e*(d*s1)+f*u*w1) hW;generalize (e*(d*s1)+f*u*w1) % (a*b*g)=s at em m1 m2 ⊢;generalize (e*(d*s1)+f*u*w1) / (a*b*g)=t at em;subst ea eb ec ed;subst ee;exact AQ ha hb hc hd he hk IS t_ p6 ef u5 em m1 m2
def kz(hx:0<x)(hy:0<y)(M:Meas x y g u):0<x*y / g/\x*y / g<=x*y/\x*y / g / x*1<=y/\0<=x*y / g / x/\x*y / g / y<=x/\0<=x*y / g / y:=by
 have hg:=M.pos hx;obtain⟨_,⟨a,ea⟩,⟨b,eb⟩,_⟩:=M;have ha:0<a:=dL (ea ▸ hx) hg;have hb:0<b:=dL (eb ▸ hy) hg;have e1:x*y / g=a*b*g:=by
  have:x*y=(a*b*g)*g:=by rw[ea,eb];grind
  rw[this];exact FY _ (by lia)
 have e2:a*b*g / x=b:=by
  have:a*b*g=b*x:=by rw[ea];grind
  rw[this];exact FY _ (by lia)
 have e3:a*b*g / y=a:=by
  have:a*b*g=a*y:=by rw[eb];grind
  rw[this];exact FY _ (by lia)
 have p1:0<a*b*g:=FE (FE ha hb) hg;have q1:=(ci (w:=b) (h:=g) hb hg).1;have q2:=(ci (w:=a) (h:=g) ha hg).1;have q3:x*y=a*b*g*g:=by rw[ea,eb];grind
 have q4:=(ci (w:=a*b*g) (h:=g) p1 hg).1;rw[e1,e2,e3];lia
def cell(ns:List Int)(k:Int):Int:=ns.getD k.toNat 0
variable{ns:List Int}
def sX{k:Int}(h0:0<=k)(h1:k<(ns.length:Int)):atI (ns.map D.int) k=be (.int (cell ns k)):=by
 obtain⟨j,rfl⟩:∃ j:Nat,k=(j:Int):=⟨k.toNat,by lia⟩;have hk:j<ns.length:=by lia
 refine bZ ?_;rw[FF,FJ hk];simp[cell,Gk,FJ hk]
def AR{k:Int}(h1:(ns.length:Int)<=k):cell ns k=0:=by
 have hk:ns.length<=k.toNat:=by lia
 simp[cell,Gk,Gn hk]
def Fk(k:Int):∃ m,atI [D.int 12,D.int 720] (k % 2)=be (.int m)/\(m=12\/m=720):=by
 rcases(by lia:k % 2=0\/k % 2=1) with e|e
 .rw[e];exact⟨12,rfl,.inl rfl⟩
 .rw[e];exact⟨720,rfl,.inr rfl⟩
def bU(h:0<b):0<=a % b:=FU a (by lia)
def bV(h:0<b):a % b<b:=FV a h
def AS:SpD:=λds R=>∃ (ns:List Int) (k:Int),ds=[.rol (ns.map D.int),.int k]/\0<=k/\R (.int (cell ns k))
def AT:SpD:=λds R=>∃ i:Int,ds=[.int i]/\R (.bl true)
def AU:SpD:=λds R=>∃ w h s x y:Int,ds=[.tup [.int w,.int h,.int s],.int x,.int y]/\0<w/\0<h/\h<1073741824/\0<=s/\s<1073741824/\
 R (.bl (decide (y % h=0/\(x - y / h*s) % w=0)))
def AV:SpD:=λds R=>∃ a b c d u v:Int,ds=[.tup [.int a,.int b],.tup [.int c,.int d],.int u,.int v]/\a.natAbs<1073741824/\b.natAbs<1073741824/\c.natAbs<1073741824/\d.natAbs<1073741824/\
 ¬ a*d=b*c/\R (.bl (decide ((u*d - v*c).fmod (a*d - b*c)=0/\(a*v - b*u).fmod (a*d - b*c)=0)))
def AW:SpD:=λds R=>∃ x y:Int,ds=[.int x,.int y]/\∀ g:Int,0<=g->g∣x->g∣y->(∀ e,e∣x->e∣y->e∣g)->R (.int g)
def sY:e∣(if x<0 then -x else x)↔e∣x:=by
 split
 .exact Int.dvd_neg
 .exact Iff.rfl
def sZ(hb:e∣b):e∣a % b↔e∣a:=by
 have e1:=F6 a b;rw[e1];constructor
 .intro h;have:=HC h (Ij (c:=a / b) hb);simpa using this
 .intro h;exact Int.dvd_sub h (Ij hb)
def AX:SpD:=λds R=>∃ w h s x y:Int,ds=[.tup [.int w,.int h,.int s],.int x,.int y]/\0<w/\0<h/\h<1073741824/\0<=s/\s<1073741824/\
 R (.tup [.int ((x - y / h*s) % w),.int (y % h)])
def AY:SpD:=λds R=>∃ a b c d:Int,ds=[.tup [.int a,.int b],.tup [.int c,.int d]]/\b.natAbs<4611686018427387904/\d.natAbs<4611686018427387904/\
 ∀ p0 p1 q0,Lev a b c d p0 p1 q0->R (.tup [.tup [.int p0,.int p1],.tup [.int q0,.int 0]])
def AZ:SpD:=λds R=>∃ a b c d:Int,ds=[.tup [.int a,.int b],.tup [.int c,.int d]]/\a.natAbs<4611686018427387904/\b.natAbs<4611686018427387904/\c.natAbs<4611686018427387904/\d.natAbs<4611686018427387904/\
 (a*d=b*c->R .non)/\(¬ a*d=b*c->∀ w h s,FamOf a b c d w h s->R (.tup [.int w,.int h,.int s]))
def A1:SpD:=λds R=>∃ w h s:Int,ds=[.tup [.int w,.int h,.int s]]/\0<w/\R (.tup [.int w,.int h,.int (-s % w)])
def A2:SpD:=λds R=>∃ w h s:Int,ds=[.tup [.int w,.int h,.int s]]/\0<w/\0<h/\w<4611686018427387904/\h<4611686018427387904/\0<=s/\s<4611686018427387904/\
 ∀ w' h' s',FamOf 0 w (-h) s w' h' s'->R (.tup [.int w',.int h',.int s'])
def A3:SpD:=λds R=>∃ x y:Int,ds=[.int x,.int y]/\x.natAbs<4611686018427387904/\y.natAbs<4611686018427387904/\∀ g u,Meas x y g u->R (.tup [.int g,.int u])
def A5:SpD:=λds R=>∃ w1 h1 s1 w2 h2 s2:Int,ds=[.tup [.int w1,.int h1,.int s1],.tup [.int w2,.int h2,.int s2]]/\0<w1/\w1<=33554432/\0<h1/\h1<=33554432/\0<=s1/\s1<w1/\0<w2/\w2<=33554432/\0<h2/\h2<=33554432/\0<=s2/\s2<w2/\
 ∀ w h s A,MetR w1 h1 s1 w2 h2 s2 w h s A->R (.tup [.int w,.int h,.int s])
def Drawn(xs:List Int):Prop:=∀ x∈xs,0<=x/\x<5040
variable{xs:List Int}
def Drawn.at(h:Drawn xs)(k:Int):0<=cell xs k/\cell xs k<5040:=by
 by_cases hk:k.toNat<xs.length
 .have:cell xs k=xs[k.toNat]:=by simp[cell,Gk,FJ hk]
  rw[this];exact h _ (FT hk)
 .have:cell xs k=0:=by simp[cell,Gk,Gn (G3 hk)]
  lia
def cF{k:Int}(h0:0<=k)(h:k.toNat<xs.length):atI (xs.map D.int) k=be (.int (cell xs k)):=sX h0 (by lia)
def tf:xs.map D.int++[D.int v]=(xs++[v]).map D.int:=by simp
def tm(h:Drawn xs)(h1:0<=v)(h2:v<5040):Drawn (xs++[v]):=by
 intro x hx;rcases FO.mp hx with q|q
 .exact h x q
 .rw[Fl.mp q];exact⟨h1,h2⟩
def A6:SpD:=λds R=>∃ (ns:List Int) (k:Int) (n:Nat),ds=[.rol (ns.map D.int),.int k,.int n]/\0<=k/\n<=100/\∀ xs:List Int,xs.length=n->Drawn xs->R (.lst (xs.map D.int))
def A7:SpD:=λds R=>∃ xs:List Int,ds=[.lst (xs.map D.int)]/\8<=xs.length/\Drawn xs/\
 ∀ a b c d:Int,(-12<=a/\a<=12)->(-12<=b/\b<=12)->(-12<=c/\c<=12)->(-12<=d/\d<=12)->¬ a*d=b*c->R (.lst [.tup [.int a,.int b],.tup [.int c,.int d]])
abbrev cs(x:D'):List Nat:=x.cps.toList
def bp(x:D'):(cs x).length=x.length:=by simp[Str.length]
def tw:cs ""=[]:=rfl
def bv(x y:D'):cs (x++y)=cs x++cs y:=by
 show((x++y:D')).cps.toList=_;rw[show(x++y:D').cps=x.cps++y.cps from rfl,Array.toList_append]
def aA(x y:D'):(x++y).length=x.length+y.length:=by rw[<- bp,bv,Fx,bp,bp]
def aF(c:Nat):Prop:=c=46\/(49<=c/\c<=54)
def hU:∀ (L:List D'),cZ (L.map D.str)=be L
 |[]=>rfl
 |x::L=>by simp[cZ,hU L]
def eV(x:D'):Prop:=0<x.length/\x.length<=7/\∀ c∈cs x,aF c
def A8{x:D'}(h:eV x)(v:Int):∃ c,(x.length<=1000000/\atI (cs x) (v % (x.length:Int))=be c)/\aF c:=by
 have h1:=bU (a:=v) (show 0<(x.length:Int) by have:=h.1;lia);have h2:=bV (a:=v) (show 0<(x.length:Int) by have:=h.1;lia);obtain⟨j,ej⟩:∃ j:Nat,v % (x.length:Int)=(j:Int):=⟨(v % (x.length:Int)).toNat,by lia⟩;have hj:j<(cs x).length:=by rw[bp];lia
 refine⟨(cs x)[j],⟨by have:=h.2.1;lia,?_⟩,h.2.2 _ (FT hj)⟩;rw[ej];exact bZ (FJ hj)
def A9:eV "1.23456":=⟨by decide+kernel,by decide+kernel,by unfold aF;decide+kernel⟩
def Ba:eV "12":=⟨by decide+kernel,by decide+kernel,by unfold aF;decide+kernel⟩
def Bb:eV "1.":=⟨by decide+kernel,by decide+kernel,by unfold aF;decide+kernel⟩
def Bc:eV "...2":=⟨by decide+kernel,by decide+kernel,by unfold aF;decide+kernel⟩
def Bd(k:Int):∃ x,atI [D.str "1.23456",D.str "12",D.str "1.",D.str "...2"] (k % 4)=be (.str x)/\eV x:=by
 rcases(by lia:k % 4=0\/k % 4=1\/k % 4=2\/k % 4=3) with e|e|e|e<;>rw[e]
 .exact⟨_,rfl,A9⟩
 .exact⟨_,rfl,Ba⟩
 .exact⟨_,rfl,Bb⟩
 .exact⟨_,rfl,Bc⟩
def Be(k:Int):∃ m,atI [D.int 1,D.int 70] (k % 2)=be (.int m)/\(m=1\/m=70):=by
 rcases(by lia:k % 2=0\/k % 2=1) with e|e<;>rw[e]
 .exact⟨1,rfl,.inl rfl⟩
 .exact⟨70,rfl,.inr rfl⟩
structure Rows(L:List Str):Prop where
 many:1<=L.length/\L.length<=8
 wide:∃ w,(1<=w/\w<=8)/\∀ l∈L,l.length=w/\∀ c∈cs l,aF c
variable{L:List D'}
def Rows.of{w t:Nat}(h1:1<=t)(h2:t<=8)(hl:L.length=t)(w1:1<=w)(w2:w<=8)(h:∀ l∈L,l.length=w/\∀ c∈cs l,aF c):Rows L:=⟨by lia,w,⟨w1,w2⟩,h⟩
def Bf{x:D'}{c:Nat}{i:Nat}(h1:x.length=i)(h2:∀ c∈cs x,aF c)(hc:aF c):(x++⟨#[c]⟩:D').length=i+1/\∀ c'∈cs (x++⟨#[c]⟩),aF c':=by
 refine⟨by rw[aA,h1];rfl,λc' q=>?_⟩;rw[bv] at q;rcases FO.mp q with q|q
 .exact h2 _ q
 .have:c'=c:=by simpa[cs] using q
  rw[this];exact hc
def Bg{x:D'}:L.map D.str++[D.str x]=(L++[x]).map D.str:=by simp
def cQ(L:List D')(a b c d:Int):Str:=("["++Txt.join "/" L)++((((((((";":D')++(toString a:String))++",")++(toString b:String))++";")++(toString c:String))++",")++(toString d:String))++"]"
def bw(h: -12<=a/\a<=12):((toString a:String):D').length<=3:=by
 have key:∀ k:Fin 25,((toString (((k.val:Nat):Int) - 12):String):D').length<=3:=by decide+kernel
 have:=key ⟨(a+12).toNat,by lia⟩;have e:(((a+12).toNat:Nat):Int) - 12=a:=by lia
 rw[e] at this;exact this
def B12(a:Int):Prop:=-12<=a/\a<=12
def B12.lt(h:B12 a):a.natAbs<1073741824:=by unfold B12 at h;lia
def kA{w:Nat}(h:∀ l∈L,l.length=w):(L.map (·.length)).sum=L.length*w:=by
 induction L with
 |nil=>simp
 |cons x L ih=>
  rw[FB,List.sum_cons,ih (λl hl=>h l (Fu _ hl)),h x Fv,Fq,GR,Nat.add_comm]
def tz(h:Rows L):(L.map (·.length)).sum+L.length*("/":D').length<=72:=by
 obtain⟨h1,w,hw,h2⟩:=h;rw[kA (λl hl=>(h2 l hl).1)];have e:("/":D').length=1:=rfl;rw[e];have:=G8 h1.2 hw.2;lia
def Bh:SpD:=λds R=>∃ xs:List Int,ds=[.lst (xs.map D.int)]/\40<=xs.length/\Drawn xs/\∀ L:List D',Rows L->R (.lst (L.map D.str))
def Bi:SpD:=λds R=>∃ (L:List D') (a b c d:Int),ds=[.lst (L.map D.str),.tup [.int a,.int b],.tup [.int c,.int d]]/\Rows L/\B12 a/\B12 b/\B12 c/\B12 d/\R (.str (cQ L a b c d))
structure Leaf where
 rows:List D'
 a:Int
 b:Int
 c:Int
 d:Int
 w0:Int
 w1:Int
 w2:Int
 w3:Int
 w4:Int
 w5:Int
 hues:List Int
def Leaf.D(l:Leaf):My.D:= .tup [.lst (l.rows.map D.str),.tup [.int l.a,.int l.b],.tup [.int l.c,.int l.d],.tup [.int l.w0,.int l.w1,.int l.w2,.int l.w3,.int l.w4,.int l.w5],.lst (l.hues.map D.int)]
structure Leaf.Ok(l:Leaf):Prop where
 rows:Rows l.rows
 a:B12 l.a
 b:B12 l.b
 c:B12 l.c
 d:B12 l.d
 ne:¬ l.a*l.d=l.b*l.c
 w0:l.w0.natAbs<=1
 w1:l.w1.natAbs<=1
 w2:l.w2.natAbs<=1
 w3:l.w3.natAbs<=1
 w4:l.w4.natAbs<=1000
 w5:l.w5.natAbs<=1000
 many:l.hues.length=7
 hue:∀ h∈l.hues,0<=h/\h<=6
def onB(a b c d u v:Int):Bool:=decide ((u*d - v*c).fmod (a*d - b*c)=0/\(a*v - b*u).fmod (a*d - b*c)=0)
def scanRow(f:Int->Bool):Nat->List Nat->Option Nat
 |_,[]=>m9
 |i,c::r=>if c≠46/\f i=true then be c else scanRow f (i+1) r
def bJ(f:Int->Int->Bool):Nat->List D'->Option Nat
 |_,[]=>m9
 |j,l::r=>match scanRow (λi=>f i j) 0 (cs l) with|some c=>be c|none=>bJ f (j+1) r
def Leaf.hit(l:Leaf)(x y:Int):Option Nat:=bJ (λi j=>onB l.a l.b l.c l.d (l.w0*x+l.w1*y+l.w4 - i) (l.w2*x+l.w3*y+l.w5 - j)) 0 l.rows
def Leaf.shows(l:Leaf)(x y:Int):Int:=match l.hit x y with|some c=>cell l.hues ((c:Int) - 48)|none=>0
def one_sign{c:Nat}:(⟨#[c]⟩:D')="."↔c=46:=by
 constructor
 .intro h;have:(#[c]:Array Nat)=(".":D').cps:=congrArg Str.cps h;have e:(#[c]:Array Nat).toList=(".":D').cps.toList:=by rw[this]
  have e2:(".":D').cps.toList=[46]:=rfl;rw[e2] at e;simpa using e
 .rintro rfl;rfl
def digit_of{c:Nat}(h:49<=c/\c<=54):PySem.intText? (⟨#[c]⟩:D')=be ((c:Int) - 48):=by
 rcases(by lia:c=49\/c=50\/c=51\/c=52\/c=53\/c=54) with e|e|e|e|e|e<;>subst e<;>decide+kernel
def at_str{j:Nat}{x:D'}(h:L[j]?=be x):atI (L.map D.str) (j:Int)=be (.str x):=bZ (by rw[FF,h];rfl)
def bK{n:Int}{x:D}(h:((Ft n.toNat).map λk=>D.int ((k:Nat):Int))[k]?=be x):k<n.toNat/\x= .int (k:Int):=by
 have hk:k<n.toNat:=by simpa using(FG.mp h).1
 refine⟨hk,?_⟩;simp[hk] at h;exact h.symm
def bB{n:Int}:((Ft n.toNat).map λk=>D.int ((k:Nat):Int)).length=n.toNat:=by simp
def aX:List Leaf->Int->Int->Int
 |[],_,_=>0
 |l::r,x,y=>if l.shows x y≠0 then l.shows x y else aX r x y
variable{hs:List Int}
def Bj(h:∀ h∈hs,0<=h/\h<=6)(k:Int):0<=cell hs k/\cell hs k<=6:=by
 by_cases hk:k.toNat<hs.length
 .have:cell hs k=hs[k.toNat]:=by simp[cell,Gk,FJ hk]
  rw[this];exact h _ (FT hk)
 .have:cell hs k=0:=by simp[cell,Gk,Gn (G3 hk)]
  lia
def Leaf.shows_le{l:Leaf}(h:l.Ok)(x y:Int):0<=l.shows x y/\l.shows x y<=6:=by
 unfold Leaf.shows;split
 .exact Bj h.hue _
 .lia
def tD:∀ {ls:List Leaf} (x y:Int),(∀ l∈ls,l.Ok)->0<=aX ls x y/\aX ls x y<=6
 |[],_,_,_=>by simp[aX]
 |l::r,x,y,h=>by
  unfold aX;split
  .exact Leaf.shows_le (h l Fv) x y
  .exact tD x y λl' q=>h l' (Fu _ q)
def bo(L:List D')(a b c d:Int):Leaf:=⟨L,a,b,c,d,1,0,0,1,0,0,[0,1,2,3,4,5,6]⟩
def Bk:SpD:=λds R=>∃ (ns:List Int) (k:Int),ds=[.rol (ns.map D.int),.int k]/\0<=k/\
 ∀ (L:List D') (a b c d:Int),Rows L->B12 a->B12 b->B12 c->B12 d->¬ a*d=b*c->R (.lst [.str (cQ L a b c d),.int 0,.lst [(bo L a b c d).D]])
def Bl:SpD:=λds R=>∃ (l:Leaf) (x y:Int),ds=[l.D,.int x,.int y]/\l.Ok/\R (.int (l.shows x y))
def Bm:SpD:=λds R=>∃ (ls:List Leaf) (x y:Int),ds=[.lst (ls.map Leaf.D),.int x,.int y]/\(∀ l∈ls,l.Ok)/\R (.int (aX ls x y))
inductive Pat where
 |mot (L:List Str) (a b c d:Int)
 |over (p q:Pat)
 |sh (a b:Int) (p:Pat)
 |mir (p:Pat)
 |tur (p:Pat)
 |hue (f g:Int) (p:Pat)
def Pat.text:Pat->D'
 | .mot L a b c d=>cQ L a b c d
 | .over p q=>(((("(":D')++p.text)++"|")++q.text)++")"
 | .sh a b p=>((((("s":D')++(toString a:String))++",")++(toString b:String))++":")++p.text
 | .mir p=>("m":D')++p.text
 | .tur p=>("t":D')++p.text
 | .hue f g p=>((("h":D')++(toString f:String))++(toString g:String))++p.text
def Pat.depth:Pat->Nat
 | .mot ..=>0
 | .over p q=>1+max p.depth q.depth
 | .sh _ _ p=>p.depth+1
 | .mir p=>p.depth+1
 | .tur p=>p.depth+1
 | .hue _ _ p=>p.depth+1
def Leaf.by(l:Leaf)(b0 b1 b2 b3 b4 b5:Int):Leaf:=
 {l with w0:=l.w0*b0+l.w1*b2,w1:=l.w0*b1+l.w1*b3,w2:=l.w2*b0+l.w3*b2,w3:=l.w2*b1+l.w3*b3,w4:=l.w4+l.w0*b4+l.w1*b5,w5:=l.w5+l.w2*b4+l.w3*b5}
def bC(f g h:Int):Int:=if h=f then g else h
def Leaf.dye(l:Leaf)(f g:Int):Leaf:={l with hues:=l.hues.map (bC f g)}
def Pat.leaves:Pat->List Leaf
 | .mot L a b c d=>[bo L a b c d]
 | .over p q=>p.leaves++q.leaves
 | .sh a b p=>p.leaves.map (λl=>l.by 1 0 0 1 (-a) (-b))
 | .mir p=>p.leaves.map (λl=>l.by (-1) 0 0 1 0 0)
 | .tur p=>p.leaves.map (λl=>l.by 0 1 (-1) 0 0 0)
 | .hue f g p=>p.leaves.map (λl=>(l.by 1 0 0 1 0 0).dye f g)
def Pat.show:Pat->Int->Int->Int
 | .mot L a b c d,x,y=>(bo L a b c d).shows x y
 | .over p q,x,y=>if p.show x y≠0 then p.show x y else q.show x y
 | .sh a b p,x,y=>p.show (x - a) (y - b)
 | .mir p,x,y=>p.show (-x) y
 | .tur p,x,y=>p.show y (-x)
 | .hue f g p,x,y=>bC f g (p.show x y)
def Pat.Wf:Pat->Prop
 | .mot L a b c d=>Rows L/\B12 a/\B12 b/\B12 c/\B12 d/\¬ a*d=b*c
 | .over p q=>p.Wf/\q.Wf
 | .sh a b p=>B12 a/\B12 b/\p.Wf
 | .mir p=>p.Wf
 | .tur p=>p.Wf
 | .hue f g p=>(1<=f/\f<=6)/\(1<=g/\g<=6)/\p.Wf
def Leaf.by_shows(l:Leaf)(b0 b1 b2 b3 b4 b5 x y:Int):(l.by b0 b1 b2 b3 b4 b5).shows x y=l.shows (b0*x+b1*y+b4) (b2*x+b3*y+b5):=by
 have e1:(l.w0*b0+l.w1*b2)*x+(l.w0*b1+l.w1*b3)*y+(l.w4+l.w0*b4+l.w1*b5)=l.w0*(b0*x+b1*y+b4)+l.w1*(b2*x+b3*y+b5)+l.w4:=by grind
 have e2:(l.w2*b0+l.w3*b2)*x+(l.w2*b1+l.w3*b3)*y+(l.w5+l.w2*b4+l.w3*b5)=l.w2*(b0*x+b1*y+b4)+l.w3*(b2*x+b3*y+b5)+l.w5:=by grind
 simp only[Leaf.shows,Leaf.hit,Leaf.by,e1,e2]
def fR(b0 b1 b2 b3 b4 b5 x y:Int):∀ ls:List Leaf,aX (ls.map (λl=>l.by b0 b1 b2 b3 b4 b5)) x y=aX ls (b0*x+b1*y+b4) (b2*x+b3*y+b5)
 |[]=>rfl
 |l::r=>by
  rw[FB,aX,aX,Leaf.by_shows,fR b0 b1 b2 b3 b4 b5 x y r]
def scanRow_sign{f:Int->Bool}:∀ {cs:List Nat} {i c:Nat},(∀ c∈cs,aF c)->scanRow f i cs=be c->49<=c/\c<=54
 |[],_,_,_,h=>by cases h
 |a::r,i,c,hs,h=>by
  rw[scanRow] at h;split at h
  .rename_i q;cases h;have:=hs a Fv;unfold aF at this;have:=q.1;lia
  .exact scanRow_sign (λc q=>hs c (Fu _ q)) h
def kB{f:Int->Int->Bool}:∀ {L:List D'} {j c:Nat},(∀ l∈L,∀ c∈cs l,aF c)->bJ f j L=be c->49<=c/\c<=54
 |[],_,_,_,h=>by cases h
 |a::r,j,c,hs,h=>by
  rw[bJ] at h;split at h
  .rename_i q;cases h;exact scanRow_sign (hs a Fv) q
  .exact kB (λl q=>hs l (Fu _ q)) h
def Bn{k:Int}(h:k.toNat<hs.length):cell (hs.map (bC f g)) k=bC f g (cell hs k):=by
 simp[cell,Gk,FF,FJ h]
def Leaf.dye_shows{l:Leaf}(ok:l.Ok)(hf:1<=f)(x y:Int):(l.dye f g).shows x y=bC f g (l.shows x y):=by
 have e:(l.dye f g).hit x y=l.hit x y:=rfl;unfold Leaf.shows;rw[e];cases h:l.hit x y with
 |none=>simp[bC];lia
 |some c=>
  have hc:49<=c/\c<=54:=kB (λl' q=>let ⟨_,_,_,h⟩:=ok.rows;(h l' q).2) h;exact Bn (by rw[ok.many];lia)
def tE(hf:1<=f)(hg:1<=g):bC f g h=0↔h=0:=by
 unfold bC;split<;>lia
def tF{f g:Int}(hf:1<=f)(hg:1<=g)(x y:Int):∀ ls:List Leaf,(∀ l∈ls,l.Ok)->aX (ls.map (λl=>l.dye f g)) x y=bC f g (aX ls x y)
 |[],_=>by simp[aX,bC];lia
 |l::r,h=>by
  rw[FB,aX,aX,Leaf.dye_shows (h l Fv) hf,tF hf hg x y r λl q=>h l (Fu _ q)];by_cases z:l.shows x y=0
  .rw[if_neg (λq=>q ((tE hf hg).mpr z)),if_neg (λq=>q z)]
  .rw[if_pos (λq=>z ((tE hf hg).mp q)),if_pos z]
def tG(x y:Int):∀ (a b:List Leaf),aX (a++b) x y=if aX a x y≠0 then aX a x y else aX b x y
 |[],b=>by simp[aX]
 |l::r,b=>by
  rw[F9,aX,aX];by_cases z:l.shows x y≠0
  .rw[if_pos z,if_pos z,if_pos z]
  .rw[if_neg z,if_neg z,tG x y r b]
structure Leaf.Near(l:Leaf)(n:Nat):Prop where
 u0:(l.w0.natAbs=1/\l.w1=0/\l.w2=0/\l.w3.natAbs=1)\/(l.w0=0/\l.w1.natAbs=1/\l.w2.natAbs=1/\l.w3=0)
 w4:l.w4.natAbs<=24*n
 w5:l.w5.natAbs<=24*n
variable{n:Nat}
def Leaf.Near.mono{l:Leaf}{m:Nat}(h:l.Near n)(k:n<=m):l.Near m:=⟨h.u0,by have:=h.w4;lia,by have:=h.w5;lia⟩
def Leaf.Near.unit{l:Leaf}(h:l.Near n):(l.w0=1\/l.w0=-1\/l.w0=0)/\(l.w1=1\/l.w1=-1\/l.w1=0)/\(l.w2=1\/l.w2=-1\/l.w2=0)/\(l.w3=1\/l.w3=-1\/l.w3=0):=by
 have:=h.u0;lia
def tH(h:e.natAbs<=24*n)(hw:w=1\/w=-1\/w=0)(hv:v=1\/v=-1\/v=0)(ha:B12 a)(hb:B12 b):(e+w* -a+v* -b).natAbs<=24*(n+1):=by
 have m:∀ {w a:Int},(w=1\/w=-1\/w=0)->B12 a->(w* -a).natAbs<=12:=λhw ha=>by
  unfold B12 at ha;rcases hw with rfl|rfl|rfl<;>lia
 have:=m hw ha;have:=m hv hb;generalize w* -a=x at*;generalize v* -b=y at*;clear m hw hv ha hb;lia
def Bo{l:Leaf}(h:l.Near n)(ha:B12 a)(hb:B12 b):(l.by 1 0 0 1 (-a) (-b)).Near (n+1):=by
 obtain⟨h0,h1,h2,h3⟩:=h.unit;exact⟨by simpa[Leaf.by] using h.u0,tH h.w4 h0 h1 ha hb,tH h.w5 h2 h3 ha hb⟩
def Bp{l:Leaf}(h:l.Near n):(l.by (-1) 0 0 1 0 0).Near (n+1):=by
 have p:=h.w4;have q:=h.w5;exact⟨by simpa[Leaf.by] using h.u0,by simp[Leaf.by];lia,by simp[Leaf.by];lia⟩
def Bq{l:Leaf}(h:l.Near n):(l.by 0 1 (-1) 0 0 0).Near (n+1):=by
 have p:=h.w4;have q:=h.w5;refine⟨?_,by simp[Leaf.by];lia,by simp[Leaf.by];lia⟩;rcases h.u0 with⟨a,b,c,d⟩|⟨a,b,c,d⟩
 .exact .inr (by simp[Leaf.by,a,b,c,d])
 .exact .inl (by simp[Leaf.by,a,b,c,d])
def tI{l:Leaf}(h:l.Near n):((l.by 1 0 0 1 0 0).dye f g).Near (n+1):=by
 have p:=h.w4;have q:=h.w5;exact⟨by simpa[Leaf.by,Leaf.dye] using h.u0,by simp[Leaf.by,Leaf.dye];lia,by simp[Leaf.by,Leaf.dye];lia⟩
structure Leaf.Good(l:Leaf):Prop where
 rows:Rows l.rows
 a:B12 l.a
 b:B12 l.b
 c:B12 l.c
 d:B12 l.d
 ne:¬ l.a*l.d=l.b*l.c
 many:l.hues.length=7
 hue:∀ h∈l.hues,0<=h/\h<=6
def Leaf.ok_of{l:Leaf}(g:l.Good)(h:l.Near n)(hn:n<=40):l.Ok:=by
 have:=h.u0;have:=h.w4;have:=h.w5;exact⟨g.rows,g.a,g.b,g.c,g.d,g.ne,by lia,by lia,by lia,by lia,by lia,by lia,g.many,g.hue⟩
def Pat.leaf_good:∀ {p:Pat},p.Wf->∀ l∈p.leaves,l.Good/\l.Near p.depth
 | .mot L a b c d,h,l,q=>by
  have:l=bo L a b c d:=by simpa[Pat.leaves] using q
  subst this;obtain⟨h1,h2,h3,h4,h5,h6⟩:=h;exact⟨⟨h1,h2,h3,h4,h5,h6,rfl,by intro h q;simp[bo] at q;lia⟩,⟨by simp[bo],by simp[bo],by simp[bo]⟩⟩
 | .over p r,h,l,q=>by
  rcases FO.mp q with q|q
  .obtain⟨g,n⟩:=Pat.leaf_good h.1 l q;exact⟨g,n.mono (by simp only[Pat.depth];lia)⟩
  .obtain⟨g,n⟩:=Pat.leaf_good h.2 l q;exact⟨g,n.mono (by simp only[Pat.depth];lia)⟩
 | .sh a b p,h,l,q=>by
  obtain⟨l',q',rfl⟩:=FP.mp q;obtain⟨g,n⟩:=Pat.leaf_good h.2.2 l' q';exact⟨⟨g.rows,g.a,g.b,g.c,g.d,g.ne,g.many,g.hue⟩,Bo n h.1 h.2.1⟩
 | .mir p,h,l,q=>by
  obtain⟨l',q',rfl⟩:=FP.mp q;obtain⟨g,n⟩:=Pat.leaf_good (p:=p) h l' q';exact⟨⟨g.rows,g.a,g.b,g.c,g.d,g.ne,g.many,g.hue⟩,Bp n⟩
 | .tur p,h,l,q=>by
  obtain⟨l',q',rfl⟩:=FP.mp q;obtain⟨g,n⟩:=Pat.leaf_good (p:=p) h l' q';exact⟨⟨g.rows,g.a,g.b,g.c,g.d,g.ne,g.many,g.hue⟩,Bq n⟩
 | .hue f k p,h,l,q=>by
  obtain⟨l',q',rfl⟩:=FP.mp q;obtain⟨g,n⟩:=Pat.leaf_good (p:=p) h.2.2 l' q';refine⟨⟨g.rows,g.a,g.b,g.c,g.d,g.ne,?_,λv hv=>?_⟩,tI n⟩
  .show(l'.hues.map _).length=7;rw[Fs];exact g.many
  .obtain⟨u,hu,rfl⟩:=FP.mp hv;have:=g.hue u hu;have:=h.2.1;unfold bC;split<;>lia
variable{p:Pat}
def Pat.leaf_ok(h:p.Wf)(hd:p.depth<=40):∀ l∈p.leaves,l.Ok:=λl q=>Leaf.ok_of (Pat.leaf_good h l q).1 (Pat.leaf_good h l q).2 hd
def Pat.show_leaves:∀ {p:Pat},p.Wf->p.depth<=40->∀ x y,aX p.leaves x y=p.show x y
 | .mot L a b c d,_,_,x,y=>by
  simp only[Pat.leaves,Pat.show,aX];split
  .rfl
  .lia
 | .over p q,h,hd,x,y=>by
  simp only[Pat.depth] at hd;rw[Pat.leaves,tG,Pat.show_leaves h.1 (by lia),Pat.show_leaves h.2 (by lia),Pat.show]
 | .sh a b p,h,hd,x,y=>by
  simp only[Pat.depth] at hd;rw[Pat.leaves,fR,Pat.show_leaves h.2.2 (by lia),Pat.show];congr 1<;>lia
 | .mir p,h,hd,x,y=>by
  simp only[Pat.depth] at hd;rw[Pat.leaves,fR,Pat.show_leaves (p:=p) h (by lia),Pat.show];congr 1<;>lia
 | .tur p,h,hd,x,y=>by
  simp only[Pat.depth] at hd;rw[Pat.leaves,fR,Pat.show_leaves (p:=p) h (by lia),Pat.show];congr 1<;>lia
 | .hue f g p,h,hd,x,y=>by
  simp only[Pat.depth] at hd;have e:p.leaves.map (λl=>(l.by 1 0 0 1 0 0).dye f g)=(p.leaves.map (λl=>l.by 1 0 0 1 0 0)).map (λl=>l.dye f g):=by rw[Ha];rfl
  rw[Pat.leaves,e,tF h.1.1 h.2.1.1,fR,Pat.show_leaves h.2.2 (by lia),Pat.show]
  .congr 2<;>lia
  .intro l q;obtain⟨l',q',rfl⟩:=FP.mp q;obtain⟨g',n⟩:=Pat.leaf_good h.2.2 l' q';have n':=tI (f:=f) (g:=g) n;have:(l'.by 1 0 0 1 0 0).Near (p.depth+1):=⟨n'.u0,n'.w4,n'.w5⟩;exact Leaf.ok_of ⟨g'.rows,g'.a,g'.b,g'.c,g'.d,g'.ne,g'.many,g'.hue⟩ this (by lia)
def Pat.D(p:Pat):My.D:= .lst [.str p.text,.int p.depth,.lst (p.leaves.map Leaf.D)]
def Leaf.T(dy:Bool)(d9 new b0 b1 b2 b3 b4 b5:Int)(l:Leaf):Leaf:=if dy then(l.by b0 b1 b2 b3 b4 b5).dye d9 new else l.by b0 b1 b2 b3 b4 b5
def db(h:1<=a/\a<=6):((toString a:String):D').length<=3:=bw (by lia)
def Wraps(p:Pat)(H:Prop)(R:My.D->Prop):Prop:=(5<=p.depth->R p.D)/\(p.depth<5->R (Pat.mir p).D/\R (Pat.tur p).D/\(∀ a b,B12 a->B12 b->R (Pat.sh a b p).D)/\(H->∀ f g:Int,(1<=f/\f<=6)->(1<=g/\g<=6)->R (Pat.hue f g p).D))
variable{A:Int}
def Br{R:My.D->Prop}(h:Wraps p (j=3) R)(hd:p.depth<5){k B d9 new:Int}(hA:B12 A)(hB:B12 B)(ho:1<=d9/\d9<=6)(hn:1<=new/\new<=6)(hj:0<=j/\j<4):
  ∃ (hs:D') (b0 b1 b2 b3 b4 b5:Int),atI [D.str "m",D.str "t",D.str ((((("s":D')++(toString A:String))++",")++(toString B:String))++":"),D.str ((("h":D')++(toString d9:String))++(toString new:String))] j=be (.str hs)/\
   atI ([D.tup [.int (-1),.int 0,.int 0,.int 1,.int 0,.int 0],D.tup [.int 0,.int 1,.int (-1),.int 0,.int 0,.int 0]]++[D.tup [.int 1,.int 0,.int 0,.int 1,.int (-A),.int (-B)],D.tup [.int 1,.int 0,.int 0,.int 1,.int 0,.int 0]]) j=be (.tup [.int b0,.int b1,.int b2,.int b3,.int b4,.int b5])/\
   (b0.natAbs<=1/\b1.natAbs<=1/\b2.natAbs<=1/\b3.natAbs<=1/\b4.natAbs<=12/\b5.natAbs<=12)/\hs.length<=20/\
   R (.lst [.str (hs++p.text),.int (p.depth+1),.lst ((p.leaves.map (Leaf.T (decide (j=3)) d9 new b0 b1 b2 b3 b4 b5)).map Leaf.D)]):=by
 obtain⟨h1,h2,h3,h4⟩:=h.2 hd;have l1:("s":D').length=1:=rfl;have l2:(",":D').length=1:=rfl;have l3:(":":D').length=1:=rfl;have l4:("h":D').length=1:=rfl;have lA:=bw hA;have lB:=bw hB;have lo:=db ho;have ln:=db hn;have eD:∀ n:Nat,D.int ((n+1:Nat):Int)=D.int ((n:Int)+1):=λn=>by congr 1
 unfold B12 at hA hB;rcases(by lia:j=0\/j=1\/j=2\/j=3) with rfl|rfl|rfl|rfl
 .exact⟨_,_,_,_,_,_,_,rfl,rfl,by lia,by decide,h1⟩
 .exact⟨_,_,_,_,_,_,_,rfl,rfl,by lia,by decide,h2⟩
 .refine⟨_,_,_,_,_,_,_,rfl,rfl,by lia,?_,h3 A B hA hB⟩
  repeat rw[aA]
  lia
 .refine⟨_,_,_,_,_,_,_,rfl,rfl,by lia,?_,h4 rfl d9 new ho hn⟩
  repeat rw[aA]
  lia
def Bs(h d9 new:Int):atI [D.int h,D.int new] (if decide (h=d9)=true then(1:Int) else 0)=be (.int (bC d9 new h)):=by
 unfold bC;by_cases e:h=d9
 .rw[if_pos e,if_pos (by simpa using e)];rfl
 .rw[if_neg e,if_neg (by simpa using e)];rfl
def kC{α:Type}{xs:List α}{x:α}(h:xs[k]?=be x):xs.take (k+1)=xs.take k++[x]:=by
 have hk:k<xs.length:=(FG.mp h).1;rw[H9,h];rfl
def Pat.leaves_len:∀ (p:Pat),p.leaves.length<=2 ^ p.depth
 | .mot ..=>Fo _
 | .over p q=>by
  have h1:=p.leaves_len;have h2:=q.leaves_len;have m1:2 ^ p.depth<=2 ^ (max p.depth q.depth):=Gc (by decide) (HD _ _);have m2:2 ^ q.depth<=2 ^ (max p.depth q.depth):=Gc (by decide) (HE _ _);rw[Pat.leaves,Fx,Pat.depth,HF];lia
 | .sh a b p=>by rw[Pat.leaves,Fs,Pat.depth,FZ];have:=p.leaves_len;lia
 | .mir p=>by rw[Pat.leaves,Fs,Pat.depth,FZ];have:=p.leaves_len;lia
 | .tur p=>by rw[Pat.leaves,Fs,Pat.depth,FZ];have:=p.leaves_len;lia
 | .hue f g p=>by rw[Pat.leaves,Fs,Pat.depth,FZ];have:=p.leaves_len;lia
def Pat.leaves_32(h:p.depth<=5):p.leaves.length<=32:=FA p.leaves_len (Gc (by decide) h)
def Bt:SpD:=λds R=>∃ (p:Pat) (draw:Int),ds=[p.D,.int draw]/\p.Wf/\p.depth<=5/\p.text.length<=100000/\Wraps p (draw % 4=3) R
def tJ(hn:¬ a*d=b*c)(h:(u*d - v*c).fmod (a*d - b*c)=0/\(a*v - b*u).fmod (a*d - b*c)=0):∃ i j,u=i*a+j*c/\v=i*b+j*d:=by
 have hz:a*d - b*c≠0:=by omega
 obtain⟨i,ei⟩:(a*d - b*c)∣(u*d - v*c):=⟨_,(Ik h.1).symm⟩;obtain⟨j,ej⟩:(a*d - b*c)∣(a*v - b*u):=⟨_,(Ik h.2).symm⟩;refine⟨i,j,?_,?_⟩
 .have:(a*d - b*c)*u=(a*d - b*c)*(i*a+j*c):=by
   have q1:(a*d - b*c)*u=a*(u*d - v*c)+c*(a*v - b*u):=by grind
   rw[q1,ei,ej];grind
  exact HB hz this
 .have:(a*d - b*c)*v=(a*d - b*c)*(i*b+j*d):=by
   have q1:(a*d - b*c)*v=b*(u*d - v*c)+d*(a*v - b*u):=by grind
   rw[q1,ei,ej];grind
  exact HB hz this
def Uni.trans{x0 x1 y0 y1:Int}(h:Uni a b c d p0 p1 q0 q1)(k:Uni p0 p1 q0 q1 x0 x1 y0 y1):Uni a b c d x0 x1 y0 y1:=by
 obtain⟨m,n,k1,l,hd,rfl,rfl,rfl,rfl⟩:=h;obtain⟨m',n',k',l',e8,rfl,rfl,rfl,rfl⟩:=k;have dt:(m'*m+n'*k1)*(k'*n+l'*l) - (m'*n+n'*l)*(k'*m+l'*k1)=(m'*l' - n'*k')*(m*l - n*k1):=by grind
 refine⟨m'*m+n'*k1,m'*n+n'*l,k'*m+l'*k1,k'*n+l'*l,?_,by grind,by grind,by grind,by grind⟩;rw[dt];rcases hd with e|e<;>rcases e8 with e'|e'<;>rw[e,e']<;>decide
def eX:∀ (n:Nat) (a b c d:Int),d.natAbs<=n->∃ p0 p1 q0,Lev a b c d p0 p1 q0
 |n,a,b,c,d,hn=>by
  by_cases hd:d=0
  .subst hd;by_cases hb:0<=b
   .exact⟨a,b,c,hb,Uni.refl a b c 0⟩
   .exact⟨-a,-b,c,by lia,(Uni.refl a b c 0).neg⟩
  .match n,hn with
   |0,hn=>exact absurd (by lia:d=0) hd
   |n+1,hn=>
    have lt:=(fdm b d hd).1;obtain⟨p0,p1,q0,h0,hu⟩:=eX n c d (a - b.fdiv d*c) (b - b.fdiv d*d) (by lia);exact⟨p0,p1,q0,h0,((Uni.refl a b c d).step (b.fdiv d)).trans hu⟩
def Bu(hn:¬ a*d=b*c)(g0:0<=g)(g1:g∣b)(g2:g∣d)(g3:∀ e,e∣b->e∣d->e∣g):
  ∃ w s,FamOf a b c d w g s:=by
 obtain⟨p0,p1,q0,hL⟩:=eX d.natAbs a b c d (Fo _);have hF:=fQ hn hL;have hp:=hF.2.1;obtain⟨m,n,k,l,_,e1,e2,e3,e4⟩:=hL.2;obtain⟨m',n',k',l',_,f1,f2,f3,f4⟩:=hL.2.inv;have d1:p1∣g:=g3 p1 ⟨m',by rw[f2];grind⟩ ⟨k',by rw[f4];grind⟩;have d2:g∣p1:=by
  rw[e2];exact HC (Hb g1) (Hb g2)
 have:p1=g:=Il (by lia) g0 d1 d2;subst this;exact⟨_,_,hF⟩
def FamOf.uniq_lean(f:FamOf a b c d w h s)(e1:x=i*a+j*c)(e2:h=i*b+j*d)(h0:0<=x)(h1:x<=s):x=s:=by
 obtain⟨hw,hh,hs,JI,hu⟩:=f;obtain⟨m,n,k,l,_,f1,f2,f3,f4⟩:=hu.inv;have ex:x=(i*m+j*k)*w+(i*n+j*l)*s:=by rw[e1,f1,f3];grind
 have eh:h=(i*n+j*l)*h:=by
  have:i*b+j*d=(i*n+j*l)*h:=by rw[f2,f4];grind
  rw[<- this];exact e2
 have one:i*n+j*l=1:=by
  have:(i*n+j*l)*h=1*h:=by lia
  exact GF (by lia) this
 rw[one] at ex;generalize i*m+j*k=t at ex;have:t*w=x - s:=by lia
 rcases(by lia:t<=-1\/t=0\/1<=t) with z|z|z
 .have:=FH z (show 0<=w by lia);lia
 .subst z;lia
 .have:=FH z (show 0<=w by lia);lia
def notT{c:Prop}[Decidable c](h:(!decide c)=true):¬ c:=by
 intro q;rw[decide_eq_true q] at h;cases h
def notF{c:Prop}[Decidable c](h:¬ (!decide c)=true):c:=by
 rcases Classical.em c with q|q
 .exact q
 .rw[decide_eq_false q] at h;exact absurd rfl h
def Leaf.o0(l:Leaf):Int:=l.w0*l.a+l.w2*l.b
def Leaf.o1(l:Leaf):Int:=l.w1*l.a+l.w3*l.b
def Leaf.t0(l:Leaf):Int:=l.w0*l.c+l.w2*l.d
def Leaf.t1(l:Leaf):Int:=l.w1*l.c+l.w3*l.d
def de(h:w=1\/w=-1\/w=0)(ha:B12 a):(w*a).natAbs<=12:=by
 unfold B12 at ha;rcases h with e|e|e<;>rw[e]<;>lia
def mul12(ha:B12 a)(hb:B12 b):(a*b).natAbs<=144:=by
 unfold B12 at ha hb;rw[Gx];exact FA (G8 (show a.natAbs<=12 by lia) (show b.natAbs<=12 by lia)) (by decide)
def Leaf.sizes{l:Leaf}(g:l.Good)(h:l.Near n):l.o0.natAbs<=24/\l.o1.natAbs<=24/\l.t0.natAbs<=24/\l.t1.natAbs<=24/\¬ l.o0*l.t1=l.o1*l.t0/\(l.o0*l.t1 - l.o1*l.t0).natAbs<=288:=by
 obtain⟨h0,h1,h2,h3⟩:=h.unit;have a0:=de h0 g.a;have a1:=de h1 g.a;have b2:=de h2 g.b;have b3:=de h3 g.b;have c0:=de h0 g.c;have c1:=de h1 g.c;have d2:=de h2 g.d;have d3:=de h3 g.d;have dt:l.o0*l.t1 - l.o1*l.t0=(l.w0*l.w3 - l.w1*l.w2)*(l.a*l.d - l.b*l.c):=by unfold Leaf.o0 Leaf.o1 Leaf.t0 Leaf.t1;grind
 have dw:(l.w0*l.w3 - l.w1*l.w2).natAbs=1:=by
  rcases h.u0 with⟨p,q,r,t⟩|⟨p,q,r,t⟩
  .rw[q,GS,Hc,Gx,p,t]
  .rw[p,GS,Int.zero_sub,Int.natAbs_neg,Gx,q,r]
 have da:(l.o0*l.t1 - l.o1*l.t0).natAbs=(l.a*l.d - l.b*l.c).natAbs:=by rw[dt,Gx,dw,Nat.one_mul]
 refine⟨ab24 a0 b2,ab24 a1 b3,ab24 c0 d2,ab24 c1 d3,λz=>g.ne ?_,?_⟩
 .rw[z,Im] at da;exact Int.sub_eq_zero.mp (HX.mp da.symm)
 .rw[da];have m1:=mul12 g.a g.d;have m2:=mul12 g.b g.c;generalize l.a*l.d=x at*;generalize l.b*l.c=y at*;clear da dw dt d3 d2 c1 c0 b3 b2 a1 a0 h3 h2 h1 h0 h g;lia
def Bv:SpD:=λds R=>∃ (l:Leaf) (n:Nat),ds=[l.D]/\l.Good/\l.Near n/\∀ w h s:Int,FamOf l.o0 l.o1 l.t0 l.t1 w h s->w*h<=288->R (.tup [.int w,.int h,.int s])
def Bw(h1:y % h=0/\(x - y / h*s) % w=0):∃ i j,x=i*w+j*s/\y=j*h:=by
 refine⟨(x - y / h*s) / w,y / h,?_,?_⟩
 .have:=GH (x - y / h*s) w;rw[h1.2] at this;rw[FK w] at this;lia
 .have:=GH y h;rw[h1.1,FK h] at this;lia
def eY(x y:Int):∃ g u,Meas x y g u:=by
 obtain⟨p0,p1,q0,hL⟩:=eX y.natAbs 1 x 0 y (Fo _);exact⟨p1,p0,sW ⟨hL.1,hL.2⟩⟩
def Meas.gcd{G:Int}(h:Meas x y g u)(g0:0<=G)(g1:G∣x)(g2:G∣y)(g3:∀ e,e∣x->e∣y->e∣G):G=g:=by
 obtain⟨h0,⟨i,ei⟩,⟨j,ej⟩,n,en⟩:=h;refine Il g0 h0 ?_ (g3 g ⟨i,by rw[ei,FK]⟩ ⟨j,by rw[ej,FK]⟩);rw[en];exact HC (Hb g1) (Hb g2)
structure Fm(w h s:Int):Prop where
 w0:0<w
 w1:w<=720
 h0:0<h
 h1:h<=720
 s0:0<=s
 sw:s<w
def By(f:Fm w1 h1 s1)(k:Fm w2 h2 s2):∃ g u w h s A,Meas w1 w2 g u/\w=w1*w2 / g/\MetR w1 h1 s1 w2 h2 s2 w h s A:=by
 obtain⟨g,u,M1⟩:=eY w1 w2;obtain⟨k',u',M2⟩:=eY h1 h2;obtain⟨gg,u_,M3⟩:=eY g (h1*h2 / k' / h2*s2 - h1*h2 / k' / h1*s1);exact⟨g,u,_,_,_,_,M1,rfl,ky f.w0 k.w0 f.h0 k.h0 M1 M2 M3⟩
def MetR.high(M:MetR w1 h1 s1 w2 h2 s2 w h s A)(hh:0<h1)(hj:1<=j)(e1:∃ i,x=i*w1+j*s1)(e2:∃ i k,x=i*w2+k*s2/\j*h1=k*h2):h<=j*h1/\(j*h1=h->0<=x->x<w->x=s):=by
 obtain⟨i,e1⟩:=e1;obtain⟨i',k,e3,e4⟩:=e2;obtain⟨a,b,e5,e6⟩:=M.all x (j*h1) ⟨i,j,e1,rfl⟩ ⟨i',k,e3,e4⟩;have hp:0<j*h1:=FE (by lia) hh;have hb:1<=b:=by
  rcases(by lia:b<=0\/1<=b) with z|z
  .have:=Gm z (show 0<=h by have:=M.h0;lia);lia
  .exact z
 refine⟨?_,λe x0 x1=>?_⟩
 .have:=FH hb (show 0<=h by have:=M.h0;lia);lia
 .have ob:b=1:=by
   have:b*h=1*h:=by lia
   exact GF (by have:=M.h0;lia) this
  rw[ob] at e5;have s0:=M.s0;have sw:=M.sw;have:a*w=x - s:=by lia
  rcases(by lia:a<=-1\/a=0\/1<=a) with z|z|z
  .have:=FH z (show 0<=w by lia);lia
  .subst z;lia
  .have:=FH z (show 0<=w by lia);lia
def Bz:SpD:=λds R=>∃ w1 h1 s1 w2 h2 s2:Int,ds=[.tup [.int w1,.int h1,.int s1],.tup [.int w2,.int h2,.int s2]]/\Fm w1 h1 s1/\Fm w2 h2 s2/\
 ∀ w h s A,MetR w1 h1 s1 w2 h2 s2 w h s A->(w*h<=720->R (.tup [.int w,.int h,.int s]))/\(720<w*h->R .non)
def BA{S:Int}(hw:0<w1)(hx:x<w1)(x0:0<=x)(hS:0<=S)(e:S=i*w1+s)(e2:∃ i',x=i'*w1+s):∃ k,S=x+k*w1/\0<=k:=by
 obtain⟨i',e2⟩:=e2;refine⟨i - i',by grind,?_⟩;rcases(by lia:i - i'<=-1\/0<=i - i') with z|z
 .have:=FH z (show 0<=w1 by lia);have:(i - i')*w1=S - x:=by grind
  lia
 .exact z
def InF(w h s x y:Int):Prop:=∃ i j,x=i*w+j*s/\y=j*h
def Leaf.Lat(l:Leaf)(x y:Int):Prop:=∃ i j,x=i*l.o0+j*l.t0/\y=i*l.o1+j*l.t1
def FamOf.lat(f:FamOf a b c d w h s)(x y:Int):InF w h s x y↔∃ i j,x=i*a+j*c/\y=i*b+j*d:=by
 obtain⟨_,_,_,_,hu⟩:=f;obtain⟨m,n,k,l,_,e1,e2,e3,e4⟩:=id hu;obtain⟨m',n',k',l',_,f1,f2,f3,f4⟩:=hu.inv;constructor
 .rintro⟨i,j,rfl,rfl⟩;refine⟨i*m+j*k,i*n+j*l,by rw[e1,e3];grind,?_⟩;have z:i*0+j*h=(i*m+j*k)*b+(i*n+j*l)*d:=by rw[e2,e4];grind
  lia
 .rintro⟨i,j,rfl,rfl⟩;refine⟨i*m'+j*k',i*n'+j*l',by rw[f1,f3];grind,by rw[f2,f4];grind⟩
def MetR.lat(M:MetR w1 h1 s1 w2 h2 s2 w h s A)(x y:Int):InF w h s x y↔InF w1 h1 s1 x y/\InF w2 h2 s2 x y:=by
 constructor
 .rintro⟨i,j,rfl,rfl⟩;obtain⟨a1,e1⟩:=M.in1;obtain⟨a2,e2⟩:=M.in2;obtain⟨b1,c1,e3,e4⟩:=M.up1;obtain⟨b2,c2,e5,e6⟩:=M.up2;refine⟨⟨i*a1+j*b1,j*c1,?_,?_⟩,⟨i*a2+j*b2,j*c2,?_,?_⟩⟩
  .rw[e1,e3];grind
  .rw[e4];grind
  .rw[e2,e5];grind
  .rw[e6];grind
 .rintro⟨h1,h2⟩;exact M.all x y h1 h2
variable{w' h' s':Int}
def InF.le(hw:0<w)(hh:0<h)(Nb:0<w')(Nd:0<h')(sub:∀ x y,InF w' h' s' x y->InF w h s x y):w*h<=w'*h'/\w<=w'/\h<=h':=by
 obtain⟨i,j,e1,e2⟩:=sub w' 0 ⟨1,0,by lia,by lia⟩;have j0:j=0:=by
  rcases GT.mp e2.symm with z|z
  .exact z
  .lia
 subst j0;have i1:1<=i:=by
  rcases(by lia:i<=0\/1<=i) with z|z
  .have:=Gm z (show 0<=w by lia);lia
  .exact z
 obtain⟨i',j',e3,e4⟩:=sub s' h' ⟨0,1,by lia,by lia⟩;have j1:1<=j':=by
  rcases(by lia:j'<=0\/1<=j') with z|z
  .have:=Gm z (show 0<=h by lia);lia
  .exact z
 have a1:=FH i1 (show 0<=w by lia);have a2:=FH j1 (show 0<=h by lia);have b1:w<=w':=by lia
 have b2:h<=h':=by lia
 exact⟨Io b1 b2 (by lia) (by lia),b1,b2⟩
def InF.uniq(hw:0<w)(hh:0<h)(hs:0<=s)(JI:s<w)(Nb:0<w')(Nd:0<h')(A_:0<=s')(Qx:s'<w')(e:∀ x y,InF w h s x y↔InF w' h' s' x y):w=w'/\h=h'/\s=s':=by
 obtain⟨_,a1,a2⟩:=InF.le hw hh Nb Nd (λx y q=>(e x y).mpr q);obtain⟨_,b1,b2⟩:=InF.le Nb Nd hw hh (λx y q=>(e x y).mp q);have ew:w=w':=by lia
 have eh:h=h':=by lia
 subst ew eh;refine⟨rfl,rfl,?_⟩;obtain⟨i,j,e1,e2⟩:=(e s h).mp ⟨0,1,by lia,by lia⟩;have j1:j=1:=by
  have:j*h=1*h:=by lia
  exact GF (by lia) this
 subst j1;have:i*w=s - s':=by lia
 rcases(by lia:i<=-1\/i=0\/1<=i) with z|z|z
 .have:=FH z (show 0<=w by lia);lia
 .subst z;lia
 .have:=FH z (show 0<=w by lia);lia
structure Fam0(w h s:Int):Prop where
 w0:0<w
 h0:0<h
 s0:0<=s
 sw:s<w
def tK(f:Fam0 w1 h1 s1)(k:Fam0 w2 h2 s2):∃ w h s,Fam0 w h s/\∀ x y,InF w h s x y↔InF w1 h1 s1 x y/\InF w2 h2 s2 x y:=by
 obtain⟨g,u,M1⟩:=eY w1 w2;obtain⟨k',u',M2⟩:=eY h1 h2;obtain⟨gg,u_,M3⟩:=eY g (h1*h2 / k' / h2*s2 - h1*h2 / k' / h1*s1);have M:=ky f.w0 k.w0 f.h0 k.h0 M1 M2 M3;exact⟨_,_,_,⟨M.w0,M.h0,M.s0,M.sw⟩,M.lat⟩
def Leaf.fam_ex{l:Leaf}(g:l.Good)(h:l.Near n):∃ w k s,Fam0 w k s/\∀ x y,InF w k s x y↔l.Lat x y:=by
 obtain⟨_,_,_,_,ne,_⟩:=Leaf.sizes g h;obtain⟨p0,p1,q0,hL⟩:=eX l.t1.natAbs l.o0 l.o1 l.t0 l.t1 (Fo _);have f:=fQ ne hL;exact⟨_,_,_,⟨f.1,f.2.1,f.2.2.1,f.2.2.2.1⟩,f.lat⟩
def bL(ls:List Leaf)(x y:Int):Prop:=∀ l∈ls,l.Lat x y
def tL{n:Nat}:∀ (ls:List Leaf) (w h s:Int),Fam0 w h s->(∀ l∈ls,l.Good/\l.Near n)->∃ w' h' s',Fam0 w' h' s'/\∀ x y,InF w' h' s' x y↔InF w h s x y/\bL ls x y
 |[],w,h,s,f,_=>⟨w,h,s,f,λx y=>⟨λq=>⟨q,λl z=>by cases z⟩,λq=>q.1⟩⟩
 |l::r,w,h,s,f,g=>by
  obtain⟨w1,h1,s1,f1,e1⟩:=Leaf.fam_ex (g l Fv).1 (g l Fv).2;obtain⟨w2,h2,s2,f2,e2⟩:=tK f f1;obtain⟨w3,h3,s3,f3,e3⟩:=tL r w2 h2 s2 f2 λl' q=>g l' (Fu _ q);refine⟨w3,h3,s3,f3,λx y=>?_⟩;rw[e3,e2,e1];constructor
  .rintro⟨⟨a,b⟩,c⟩;exact⟨a,λl' q=>(Fp.mp q).elim (λz=>z ▸ b) (c l')⟩
  .rintro⟨a,b⟩;exact⟨⟨a,b l Fv⟩,λl' q=>b l' (Fu _ q)⟩
def cut1(d:D)(ds:List D):cutD (d::ds) (be 1) m9=ds:=by
 unfold cutD;have e1:HT.sIx (d::ds).length 0 (be 1)=1:=by simp[HT.sIx]
 have e2:HT.sIx (d::ds).length (d::ds).length m9=(d::ds).length:=by simp[HT.sIx]
 rw[e1,e2,List.drop_one,List.tail_cons,Fq,Ip,Hd]
def kD:SpD:=λds R=>∃ (ls:List Leaf) (n:Nat),ds=[.lst (ls.map Leaf.D)]/\ls≠[]/\(∀ l∈ls,l.Good/\l.Near n)/\
 ∀ w h s:Int,Fam0 w h s->(∀ x y,InF w h s x y↔bL ls x y)->(w*h<=720->R (.tup [.int w,.int h,.int s]))/\(720<w*h->R .non)
def Pat.Lat:Pat->Int->Int->Prop
 | .mot _ a b c d,x,y=>∃ i j,x=i*a+j*c/\y=i*b+j*d
 | .over p q,x,y=>p.Lat x y/\q.Lat x y
 | .sh _ _ p,x,y=>p.Lat x y
 | .mir p,x,y=>p.Lat (-x) y
 | .tur p,x,y=>p.Lat y (-x)
 | .hue _ _ p,x,y=>p.Lat x y
def Leaf.by_lat(l:Leaf)(b0 b1 b2 b3 b4 b5 x y:Int):(l.by b0 b1 b2 b3 b4 b5).Lat x y↔∃ u v,l.Lat u v/\x=b0*u+b2*v/\y=b1*u+b3*v:=by
 have e0:(l.by b0 b1 b2 b3 b4 b5).o0=b0*l.o0+b2*l.o1:=by simp only[Leaf.o0,Leaf.o1,Leaf.by];grind
 have e1:(l.by b0 b1 b2 b3 b4 b5).o1=b1*l.o0+b3*l.o1:=by simp only[Leaf.o0,Leaf.o1,Leaf.by];grind
 have e2:(l.by b0 b1 b2 b3 b4 b5).t0=b0*l.t0+b2*l.t1:=by simp only[Leaf.t0,Leaf.t1,Leaf.by];grind
 have e3:(l.by b0 b1 b2 b3 b4 b5).t1=b1*l.t0+b3*l.t1:=by simp only[Leaf.t0,Leaf.t1,Leaf.by];grind
 unfold Leaf.Lat;rw[e0,e1,e2,e3];generalize l.o0=o0;generalize l.o1=o1;generalize l.t0=t0;generalize l.t1=t1;constructor
 .rintro⟨i,j,rfl,rfl⟩;exact⟨_,_,⟨i,j,rfl,rfl⟩,by grind,by grind⟩
 .rintro⟨_,_,⟨i,j,rfl,rfl⟩,rfl,rfl⟩;exact⟨i,j,by grind,by grind⟩
def Leaf.dye_lat(l:Leaf)(f g x y:Int):(l.dye f g).Lat x y↔l.Lat x y:=Iff.rfl
def BB(a b:List Leaf)(x y:Int):bL (a++b) x y↔bL a x y/\bL b x y:=by
 constructor
 .intro h;exact⟨λl q=>h l (Ge _ q),λl q=>h l (FC _ q)⟩
 .rintro⟨h1,h2⟩ l q;rcases FO.mp q with q|q
  .exact h1 l q
  .exact h2 l q
def latAll_map{f:Leaf->Leaf}(hf:∀ l:Leaf,(f l).Lat x y↔l.Lat u v)(ls:List Leaf):bL (ls.map f) x y↔bL ls u v:=by
 constructor
 .intro h l q;exact(hf l).mp (h _ (FP.mpr ⟨l,q,rfl⟩))
 .intro h l q;obtain⟨l',q',rfl⟩:=FP.mp q;exact(hf l').mpr (h l' q')
def tM(l:Leaf)(e f x y:Int):(l.by 1 0 0 1 e f).Lat x y↔l.Lat x y:=by
 rw[Leaf.by_lat];constructor
 .rintro⟨u,v,h,e1,e2⟩;have e1:x=u:=by lia
  have e2:y=v:=by lia
  rw[e1,e2];exact h
 .intro h;exact⟨x,y,h,by lia,by lia⟩
def Pat.lat_leaves:∀ (p:Pat) (x y:Int),bL p.leaves x y↔p.Lat x y
 | .mot L a b c d,x,y=>by
  have e0:(bo L a b c d).o0=a:=by simp[Leaf.o0,bo]
  have e1:(bo L a b c d).o1=b:=by simp[Leaf.o1,bo]
  have e2:(bo L a b c d).t0=c:=by simp[Leaf.t0,bo]
  have e3:(bo L a b c d).t1=d:=by simp[Leaf.t1,bo]
  have e:(bo L a b c d).Lat x y↔(Pat.mot L a b c d).Lat x y:=by
   unfold Leaf.Lat;rw[e0,e1,e2,e3];exact Iff.rfl
  rw[<- e];constructor
  .intro h;exact h _ Fv
  .intro h l q;rw[Fl.mp q];exact h
 | .over p q,x,y=>by rw[Pat.leaves,BB,Pat.lat_leaves p,Pat.lat_leaves q,Pat.Lat]
 | .sh a b p,x,y=>by rw[Pat.leaves,latAll_map (λl=>tM l _ _ x y),Pat.lat_leaves p,Pat.Lat]
 | .mir p,x,y=>by
  have e:∀ l:Leaf,(l.by (-1) 0 0 1 0 0).Lat x y↔l.Lat (-x) y:=λl=>by
   rw[Leaf.by_lat];constructor
   .rintro⟨u,v,h,e1,e2⟩;have e1: -x=u:=by lia
    have e2:y=v:=by lia
    rw[e1,e2];exact h
   .intro h;exact⟨-x,y,h,by lia,by lia⟩
  rw[Pat.leaves,latAll_map e,Pat.lat_leaves p,Pat.Lat]
 | .tur p,x,y=>by
  have e:∀ l:Leaf,(l.by 0 1 (-1) 0 0 0).Lat x y↔l.Lat y (-x):=λl=>by
   rw[Leaf.by_lat];constructor
   .rintro⟨u,v,h,e1,e2⟩;have e1: -x=v:=by lia
    have e2:y=u:=by lia
    rw[e1,e2];exact h
   .intro h;exact⟨y,-x,h,by lia,by lia⟩
  rw[Pat.leaves,latAll_map e,Pat.lat_leaves p,Pat.Lat]
 | .hue f g p,x,y=>by
  rw[Pat.leaves,latAll_map (λl=>(Leaf.dye_lat _ f g x y).trans (tM l _ _ x y)),Pat.lat_leaves p,Pat.Lat]
structure Pat.Fam(p:Pat)(w h s:Int):Prop where
 f:Fam0 w h s
 lat:∀ x y,InF w h s x y↔p.Lat x y
def Pat.Fam.uniq(a:p.Fam w h s)(b:p.Fam w' h' s'):w=w'/\h=h'/\s=s':=
 InF.uniq a.f.w0 a.f.h0 a.f.s0 a.f.sw b.f.w0 b.f.h0 b.f.s0 b.f.sw λx y=>(a.lat x y).trans (b.lat x y).symm
def Pat.Fam.mot(k:FamOf a b c d w h s):(Pat.mot L a b c d).Fam w h s:=⟨⟨k.1,k.2.1,k.2.2.1,k.2.2.2.1⟩,k.lat⟩
def Pat.Fam.sh(a b:Int)(k:p.Fam w h s):(Pat.sh a b p).Fam w h s:=⟨k.f,k.lat⟩
def Pat.Fam.hue(a b:Int)(k:p.Fam w h s):(Pat.hue a b p).Fam w h s:=⟨k.f,k.lat⟩
def Pat.Fam.mir(k:p.Fam w h s):(Pat.mir p).Fam w h (-s % w):=by
 refine⟨⟨k.f.w0,k.f.h0,bU k.f.w0,bV k.f.w0⟩,λx y=>?_⟩;show _↔p.Lat (-x) y;rw[<- k.lat];have e:=F6 (-s) w;generalize -s % w=r at e;generalize -s / w=t at e;constructor
 .rintro⟨i,j,rfl,rfl⟩;exact⟨j*t - i,j,by rw[e];grind,rfl⟩
 .rintro⟨i,j,ex,rfl⟩;exact⟨j*t - i,j,by rw[e];grind,rfl⟩
def Pat.Fam.tur(k:p.Fam w h s)(f:FamOf 0 w (-h) s w' h' s'):(Pat.tur p).Fam w' h' s':=by
 refine⟨⟨f.1,f.2.1,f.2.2.1,f.2.2.2.1⟩,λx y=>?_⟩;show _↔p.Lat y (-x);rw[<- k.lat,f.lat];constructor
 .rintro⟨i,j,rfl,rfl⟩;exact⟨i,j,by grind,by grind⟩
 .rintro⟨i,j,ex,ey⟩;exact⟨i,j,by grind,by grind⟩
variable{q:Pat}
def Pat.Fam.over(k1:p.Fam w1 h1 s1)(k2:q.Fam w2 h2 s2)(M:MetR w1 h1 s1 w2 h2 s2 w h s A):(Pat.over p q).Fam w h s:=by
 refine⟨⟨M.w0,M.h0,M.s0,M.sw⟩,λx y=>?_⟩;rw[M.lat,k1.lat,k2.lat];exact Iff.rfl
def fS(hw:0<w)(hh:0<h):∃ w' h' s',FamOf 0 w (-h) s w' h' s'/\w'*h'=w*h:=by
 have hp:0<w*h:=FE hw hh;have hn:¬ 0*s=w* -h:=by rw[Go];lia
 obtain⟨p0,p1,q0,hL⟩:=eX s.natAbs 0 w (-h) s (Fo _);have f:=fQ hn hL;refine⟨_,_,_,f,?_⟩;have J4:=FE f.1 f.2.1;have c:=f.cells;rw[Go] at c;lia
def tN(hn:¬ a*d=b*c):∃ w h s,FamOf a b c d w h s/\(Pat.mot L a b c d).Fam w h s:=by
 obtain⟨p0,p1,q0,hL⟩:=eX d.natAbs a b c d (Fo _);have f:=fQ hn hL;exact⟨_,_,_,f,.mot f⟩
def Pat.fam_ex:∀ {p:Pat},p.Wf->∃ w h s,p.Fam w h s
 | .mot L a b c d,h=>by
  obtain⟨w,k,s,_,f⟩:=tN (L:=L) h.2.2.2.2.2;exact⟨w,k,s,f⟩
 | .over p q,h=>by
  obtain⟨w1,h1,s1,f1⟩:=Pat.fam_ex h.1;obtain⟨w2,h2,s2,f2⟩:=Pat.fam_ex h.2;obtain⟨w,k,s,f,e⟩:=tK f1.f f2.f;refine⟨w,k,s,f,λx y=>?_⟩;rw[e,f1.lat,f2.lat];exact Iff.rfl
 | .sh a b p,h=>by
  obtain⟨w,k,s,f⟩:=Pat.fam_ex h.2.2;exact⟨w,k,s,f.sh a b⟩
 | .mir p,h=>by
  obtain⟨w,k,s,f⟩:=Pat.fam_ex (p:=p) h;exact⟨w,k,_,f.mir⟩
 | .tur p,h=>by
  obtain⟨w,k,s,f⟩:=Pat.fam_ex (p:=p) h;obtain⟨w',k',s',f',_⟩:=fS (s:=s) f.f.w0 f.f.h0;exact⟨w',k',s',f.tur f'⟩
 | .hue a b p,h=>by
  obtain⟨w,k,s,f⟩:=Pat.fam_ex h.2.2;exact⟨w,k,s,f.hue a b⟩
def Pat.Fits(p:Pat):Prop:=∃ w h s,p.Fam w h s/\w*h<=720
def Pat.fits_mot(ha:B12 a)(hb:B12 b)(hc:B12 c)(hd:B12 d)(hn:¬ a*d=b*c):(Pat.mot L a b c d).Fits:=by
 obtain⟨w,h,s,k,f⟩:=tN (L:=L) hn;refine⟨w,h,s,f,?_⟩;have kc:=k.cells;unfold B12 at*;have m1:=bA (a:=a) (d:=d) (A:=12) (B:=12) (by lia) (by lia);have m2:=bA (a:=b) (d:=c) (A:=12) (B:=12) (by lia) (by lia);lia
def Pat.Fits.sh(a b:Int)(k:p.Fits):(Pat.sh a b p).Fits:=by
 obtain⟨w,h,s,f,q⟩:=k;exact⟨w,h,s,f.sh a b,q⟩
def Pat.Fits.hue(a b:Int)(k:p.Fits):(Pat.hue a b p).Fits:=by
 obtain⟨w,h,s,f,q⟩:=k;exact⟨w,h,s,f.hue a b,q⟩
def Pat.Fits.mir(k:p.Fits):(Pat.mir p).Fits:=by
 obtain⟨w,h,s,f,q⟩:=k;exact⟨w,h,_,f.mir,q⟩
def Pat.Fits.tur(k:p.Fits):(Pat.tur p).Fits:=by
 obtain⟨w,h,s,f,q⟩:=k;obtain⟨w',k',s',f',e⟩:=fS (s:=s) f.f.w0 f.f.h0;exact⟨w',k',s',f.tur f',by lia⟩
def tO(hL:Rows L)(ha:B12 a)(hb:B12 b)(hc:B12 c)(hd:B12 d):(cQ L a b c d).length<=100:=by
 have la:=bw ha;have lb:=bw hb;have lc:=bw hc;have ld:=bw hd;have l1:(";":D').length=1:=rfl;have l2:(",":D').length=1:=rfl;have l3:("[":D').length=1:=rfl;have l4:("]":D').length=1:=rfl;have ls:=tz hL;have lj:=StrLaws.join_length_le "/" L;have lg:(Txt.join "/" L).length<=72:=by
  have e:Txt.join "/" L=Str.join "/" L:=StrLaws.glued_eq_join _ _;rw[e];exact FA lj ls
 unfold cQ
 repeat rw[aA]
 lia
def Pat.text_len:∀ {p:Pat},p.Wf->p.text.length+10<=110*2 ^ p.depth
 | .mot L a b c d,h=>by
  have:=tO h.1 h.2.1 h.2.2.1 h.2.2.2.1 h.2.2.2.2.1;show(cQ L a b c d).length+10<=110*2 ^ 0;lia
 | .over p q,h=>by
  have h1:=Pat.text_len h.1;have h2:=Pat.text_len h.2;have m1:2 ^ p.depth<=2 ^ (max p.depth q.depth):=Gc (by decide) (HD _ _);have m2:2 ^ q.depth<=2 ^ (max p.depth q.depth):=Gc (by decide) (HE _ _);have l1:("(":D').length=1:=rfl;have l2:("|":D').length=1:=rfl;have l3:(")":D').length=1:=rfl;rw[Pat.text,Pat.depth,HF]
  repeat rw[aA]
  lia
 | .sh a b p,h=>by
  have h1:=Pat.text_len h.2.2;have la:=bw h.1;have lb:=bw h.2.1;have l1:("s":D').length=1:=rfl;have l2:(",":D').length=1:=rfl;have l3:(":":D').length=1:=rfl;have:0<2 ^ p.depth:=Gp (by decide);rw[Pat.text,Pat.depth,FZ]
  repeat rw[aA]
  lia
 | .mir p,h=>by
  have h1:=Pat.text_len (p:=p) h;have l1:("m":D').length=1:=rfl;have:0<2 ^ p.depth:=Gp (by decide);rw[Pat.text,Pat.depth,FZ,aA];lia
 | .tur p,h=>by
  have h1:=Pat.text_len (p:=p) h;have l1:("t":D').length=1:=rfl;have:0<2 ^ p.depth:=Gp (by decide);rw[Pat.text,Pat.depth,FZ,aA];lia
 | .hue f g p,h=>by
  have h1:=Pat.text_len h.2.2;have la:=db h.1;have lb:=db h.2.1;have l1:("h":D').length=1:=rfl;have:0<2 ^ p.depth:=Gp (by decide);rw[Pat.text,Pat.depth,FZ]
  repeat rw[aA]
  lia
def Pat.leaves_pos:∀ p:Pat,0<p.leaves.length
 | .mot ..=>Nat.zero_lt_one
 | .over p q=>by rw[Pat.leaves,Fx];have:=p.leaves_pos;lia
 | .sh _ _ p=>by rw[Pat.leaves,Fs];exact p.leaves_pos
 | .mir p=>by rw[Pat.leaves,Fs];exact p.leaves_pos
 | .tur p=>by rw[Pat.leaves,Fs];exact p.leaves_pos
 | .hue _ _ p=>by rw[Pat.leaves,Fs];exact p.leaves_pos
def Pat.text_short(h:p.Wf)(hd:p.depth<=5):p.text.length<=3510:=by
 have h1:=Pat.text_len h;have h2:2 ^ p.depth<=2 ^ 5:=Gc (by decide) hd;lia
structure Pat.Ok(p:Pat):Prop where
 wf:p.Wf
 deep:p.depth<=5
 fits:p.Fits
def Wraps.of{H:Prop}{R:My.D->Prop}(h:p.Ok)(hR:∀ q:Pat,q.Ok->R q.D):Wraps p H R:=by
 refine⟨λ_=>hR p h,λhd=>⟨hR _ ⟨h.wf,?_,h.fits.mir⟩,hR _ ⟨h.wf,?_,h.fits.tur⟩,λa b ha hb=>hR _ ⟨⟨ha,hb,h.wf⟩,?_,h.fits.sh a b⟩,λ_ f g hf hg=>hR _ ⟨⟨hf,hg,h.wf⟩,?_,h.fits.hue f g⟩⟩⟩<;>(simp only[Pat.depth];lia)
def tP:SpD:=λds R=>∃ p q:Pat,ds=[p.D,q.D]/\p.Wf/\q.Wf/\p.depth<=5/\q.depth<=5/\R p.D/\(p.depth<5->q.depth<5->(Pat.over p q).Fits->R (Pat.over p q).D)
def BC:SpD:=λds R=>∃ (ns:List Int) (k:Int),ds=[.rol (ns.map D.int),.int k]/\0<=k/\∀ p:Pat,p.Ok->R p.D
inductive Wt where
 |sign (c:Nat)|pat (d:Nat)|lin (w h k:Nat)|hue|num|fig|more
 deriving DecidableEq
abbrev isSg(c:Nat):Bool:=c==46||(49<=c && c<=54)
def motW(r:List Wt):List Wt:= .lin 0 0 0:: .num:: .sign 44:: .num:: .sign 59:: .num:: .sign 44:: .num:: .sign 93::r
def bM(d c:Nat)(r:List Wt):Option (List Wt):=
 if c=91 then be (motW r)
 else if d=5 then m9
 else if c=40 then be (.pat (d+1):: .sign 124:: .pat (d+1):: .sign 41::r)
 else if c=115 then be (.num:: .sign 44:: .num:: .sign 58:: .pat (d+1)::r)
 else if c=104 then be (.hue:: .hue:: .pat (d+1)::r)
 else if c=109\/c=116 then be (.pat (d+1)::r)
 else m9
def cR(w h k c:Nat)(r:List Wt):Option (List Wt):=
 if isSg c then(if h<(if 0<k then w else 8) then be (.lin w (h+1) k::r) else m9)
 else if h=0\/(0<k/\h<w) then m9
 else if c=47 then(if k<7 then be (.lin h 0 (k+1)::r) else m9)
 else if c=59 then be r
 else m9
def aM:List Wt->Nat->Option (List Wt)
 |[],_=>m9
 | .sign s::r,c=>if c=s then be r else m9
 | .pat d::r,c=>bM d c r
 | .lin w h k::r,c=>cR w h k c r
 | .hue::r,c=>if 49<=c/\c<=54 then be r else m9
 | .more::r,_=>be r
 | .num::r,c=>if c=49 then be (.more::r) else if c=45 then be (.fig::r) else if 48<=c/\c<=57 then be r else m9
 | .fig::r,c=>if c=49 then be (.more::r) else if 50<=c/\c<=57 then be r else m9
def aJ(st:List Wt)(c:Nat):List Wt:=match st with
 | .more::r=>if 48<=c/\c<=50 then st else r
 |_=>st
def step(st:List Wt)(c:Nat):Option (List Wt):=aM (aJ st c) c
def walk:List Wt->List Nat->Nat->Option Nat
 |st,[],k=>if st=[] then m9 else be k
 |st,c::l,k=>match step st c with
  |none=>be k
  |some st'=>walk st' l (k+1)
def df(t:D'):Option Nat:=walk [.pat 0] (cs t) 0
def Pat.Syn:Pat->Prop
 | .mot L a b c d=>Rows L/\B12 a/\B12 b/\B12 c/\B12 d
 | .over p q=>p.Syn/\q.Syn
 | .sh a b p=>B12 a/\B12 b/\p.Syn
 | .mir p=>p.Syn
 | .tur p=>p.Syn
 | .hue f g p=>(1<=f/\f<=6)/\(1<=g/\g<=6)/\p.Syn
def Pat.Wf.syn:∀ {p:Pat},p.Wf->p.Syn
 | .mot ..,h=>⟨h.1,h.2.1,h.2.2.1,h.2.2.2.1,h.2.2.2.2.1⟩
 | .over p q,h=>⟨Pat.Wf.syn h.1,Pat.Wf.syn h.2⟩
 | .sh a b p,h=>⟨h.1,h.2.1,Pat.Wf.syn h.2.2⟩
 | .mir p,h=>Pat.Wf.syn (p:=p) h
 | .tur p,h=>Pat.Wf.syn (p:=p) h
 | .hue f g p,h=>⟨h.1,h.2.1,Pat.Wf.syn h.2.2⟩
variable{l:List Nat}{st:List Wt}
def aH{st':List Wt}{c:Nat}(h:step st c=be st'):walk st (c::l) k=walk st' l (k+1):=by
 rw[walk,h]
def numL(a:Int):List Nat:=cs (toString a:String)
variable{P:Int->Prop}
def tQ(h:B12 a)(hP:∀ k:Fin 25,P (((k.val:Nat):Int) - 12)):P a:=by
 unfold B12 at h;have:=hP ⟨(a+12).toNat,by lia⟩;have e:(((a+12).toNat:Nat):Int) - 12=a:=by lia
 rw[e] at this;exact this
def isNumL(l:List Nat):Prop:=(∃ c,(48<=c/\c<=57)/\l=[c])\/(∃ c,(48<=c/\c<=50)/\l=[49,c])\/(∃ c,(49<=c/\c<=57)/\l=[45,c])\/∃ c,(48<=c/\c<=50)/\l=[45,49,c]
def numL_is(h:B12 a):isNumL (numL a):=by
 have key:∀ k:Fin 25,(numL (((k.val:Nat):Int) - 12))∈([[45,49,50],[45,49,49],[45,49,48],[45,57],[45,56],[45,55],[45,54],[45,53],[45,52],[45,51],[45,50],[45,49],[48],[49],[50],[51],[52],[53],[54],[55],[56],[57],[49,48],[49,49],[49,50]]:List (List Nat)):=by decide+kernel
 have h1:=tQ (P:=λa=>numL a∈([[45,49,50],[45,49,49],[45,49,48],[45,57],[45,56],[45,55],[45,54],[45,53],[45,52],[45,51],[45,50],[45,49],[48],[49],[50],[51],[52],[53],[54],[55],[56],[57],[49,48],[49,49],[49,50]]:List (List Nat))) h key;revert h1;generalize numL a=l;intro h1;unfold isNumL;simp only[Fp,Gd,or_false] at h1;rcases h1 with e|e|e|e|e|e|e|e|e|e|e|e|e|e|e|e|e|e|e|e|e|e|e|e|e<;>subst e
 all_goals first
  |exact .inl ⟨_,by decide,rfl⟩
  |exact .inr (.inl ⟨_,by decide,rfl⟩)
  |exact .inr (.inr (.inl ⟨_,by decide,rfl⟩))
  |exact .inr (.inr (.inr ⟨_,by decide,rfl⟩))
def BD(h:isNumL l):∃ a,B12 a/\numL a=l:=by
 have key:∀ c:Fin 58,(48<=c.val->∃ k:Fin 25,numL (((k.val:Nat):Int) - 12)=[c.val])/\(48<=c.val->c.val<=50->∃ k:Fin 25,numL (((k.val:Nat):Int) - 12)=[49,c.val])/\(49<=c.val->∃ k:Fin 25,numL (((k.val:Nat):Int) - 12)=[45,c.val])/\(48<=c.val->c.val<=50->∃ k:Fin 25,numL (((k.val:Nat):Int) - 12)=[45,49,c.val]):=by decide+kernel
 have c_:∀ k:Fin 25,B12 (((k.val:Nat):Int) - 12):=λk=>by unfold B12;have:=k.isLt;lia
 rcases h with⟨c,hc,rfl⟩|⟨c,hc,rfl⟩|⟨c,hc,rfl⟩|⟨c,hc,rfl⟩
 .obtain⟨k,e⟩:=(key ⟨c,by lia⟩).1 (by show 48<=c;lia);exact⟨_,c_ k,e⟩
 .obtain⟨k,e⟩:=(key ⟨c,by lia⟩).2.1 (by show 48<=c;lia) (by show c<=50;lia);exact⟨_,c_ k,e⟩
 .obtain⟨k,e⟩:=(key ⟨c,by lia⟩).2.2.1 (by show 49<=c;lia);exact⟨_,c_ k,e⟩
 .obtain⟨k,e⟩:=(key ⟨c,by lia⟩).2.2.2 (by show 48<=c;lia) (by show c<=50;lia);exact⟨_,c_ k,e⟩
def endS(c:Nat):Prop:=c=44\/c=59\/c=58\/c=93
def eZ(h:isNumL l){c:Nat}(hc:endS c)(r:List Wt)(t:List Nat)(k:Nat):walk (.num:: .sign c::r) (l++c::t) k=walk r t (k+l.length+1):=by
 unfold endS at hc;have Qy:¬ (48<=c/\c<=50):=by lia
 have c_:∀ k,walk (.sign c::r) (c::t) k=walk r t (k+1):=λk=>aH (by simp[step,aJ,aM]);have K8:∀ k,walk (.more:: .sign c::r) (c::t) k=walk r t (k+1):=λk=>aH (by simp[step,aJ,aM,Qy]);rcases h with⟨x,hx,rfl⟩|⟨x,hx,rfl⟩|⟨x,hx,rfl⟩|⟨x,hx,rfl⟩
 .by_cases e:x=49
  .subst e;show walk _ (49::c::t) k=_;rw[aH (st':= .more:: .sign c::r) (by simp[step,aJ,aM]),K8];simp
  .show walk _ (x::c::t) k=_;rw[aH (st':= .sign c::r) (by simp[step,aJ,aM,e,hx,show¬ x=45 by lia]),c_];simp
 .show walk _ (49::x::c::t) k=_;rw[aH (st':= .more:: .sign c::r) (by simp[step,aJ,aM]),aH (st':= .sign c::r) (by simp[step,aJ,aM,hx]),c_];simp
 .show walk _ (45::x::c::t) k=_;rw[aH (st':= .fig:: .sign c::r) (by simp[step,aJ,aM])];by_cases e:x=49
  .subst e;rw[aH (st':= .more:: .sign c::r) (by simp[step,aJ,aM]),K8];simp
  .rw[aH (st':= .sign c::r) (by simp[step,aJ,aM,e,show 50<=x/\x<=57 by lia]),c_];simp
 .show walk _ (45::49::x::c::t) k=_;rw[aH (st':= .fig:: .sign c::r) (by simp[step,aJ,aM]),aH (st':= .more:: .sign c::r) (by simp[step,aJ,aM]),aH (st':= .sign c::r) (by simp[step,aJ,aM,hx]),c_];simp
def rowsL:List (List Nat)->List Nat
 |[]=>[]
 |[x]=>x
 |x::y::r=>x++47::rowsL (y::r)
def BE{c:Nat}(h:aF c):isSg c=true:=by
 unfold aF at h;unfold isSg;rcases h with h|h
 .subst h;rfl
 .have:(decide (49<=c) && decide (c<=54))=true:=by simp[h]
  rw[this,G4]
def isSign_of{c:Nat}(h:isSg c=true):aF c:=by
 unfold isSg at h;unfold aF;simp at h;lia
variable{r:List Wt}
def dM{w h c:Nat}:step (.lin w h k::r) c=cR w h k c r:=by simp[step,aJ,aM]
def fg{w k:Nat}{r:List Wt}:∀ (x:List Nat) (h:Nat) (t:List Nat) (j:Nat),(∀ c∈x,aF c)->h+x.length<=(if 0<k then w else 8)->walk (.lin w h k::r) (x++t) j=walk (.lin w (h+x.length) k::r) t (j+x.length)
 |[],h,t,j,_,_=>rfl
 |c::x,h,t,j,hs,hl=>by
  rw[Fq] at hl ⊢;have h1:step (.lin w h k::r) c=be (.lin w (h+1) k::r):=by
   rw[dM];unfold cR;rw[if_pos (BE (hs c Fv)),if_pos (by lia)]
  rw[F9,aH h1,fg x (h+1) t (j+1) (λc q=>hs c (Fu _ q)) (by lia)];rw[show h+1+x.length=h+(x.length+1) by lia,show j+1+x.length=j+(x.length+1) by lia]
def tR{wd:Nat}(hw:1<=wd/\wd<=8){r:List Wt}:∀ (L:List (List Nat)) (w0 k:Nat) (t:List Nat) (j:Nat),L≠[]->(∀ x∈L,x.length=wd/\∀ c∈x,aF c)->k+L.length<=8->(0<k->w0=wd)->walk (.lin w0 0 k::r) (rowsL L++59::t) j=walk r t (j+(rowsL L).length+1)
 |[],_,_,_,_,ne,_,_,_=>absurd rfl ne
 |[x],w0,k,t,j,_,hs,hl,hk=>by
  obtain⟨h1,h2⟩:=hs x Fv;have hb:0+x.length<=(if 0<k then w0 else 8):=by split<;>lia
  have ns:isSg 59=false:=rfl;have h3:step (.lin w0 (0+x.length) k::r) 59=be r:=by
   rw[dM];unfold cR;rw[ns,if_neg Fz,if_neg (by lia),if_neg (by decide),if_pos rfl]
  show walk (.lin w0 0 k::r) (x++59::t) j=walk r t (j+x.length+1);rw[fg x 0 _ j h2 hb,aH h3]
 |x::y::L,w0,k,t,j,_,hs,hl,hk=>by
  obtain⟨h1,h2⟩:=hs x Fv;rw[Fq,Fq] at hl;have hb:0+x.length<=(if 0<k then w0 else 8):=by split<;>lia
  have ns:isSg 47=false:=rfl;have h3:step (.lin w0 (0+x.length) k::r) 47=be (.lin (0+x.length) 0 (k+1)::r):=by
   rw[dM];unfold cR;rw[ns,if_neg Fz,if_neg (by lia),if_pos rfl,if_pos (by lia)]
  show walk (.lin w0 0 k::r) ((x++47::rowsL (y::L))++59::t) j=walk r t (j+(x++47::rowsL (y::L)).length+1);rw[F4,F9,fg x 0 _ j h2 hb,aH h3,tR hw (y::L) (0+x.length) (k+1) t _ (λz=>nomatch z) (λz q=>hs z (Fu _ q)) (by rw[Fq];lia) (λ_=>by lia)];rw[Fx,Fq];congr 1;lia
def motL(L:List (List Nat))(a b c d:Int):List Nat:=91::(rowsL L++59::(numL a++44::(numL b++59::(numL c++44::(numL d++[93])))))
def Pat.tl:Pat->List Nat
 | .mot L a b c d=>motL (L.map cs) a b c d
 | .over p q=>40::(p.tl++124::(q.tl++[41]))
 | .sh a b p=>115::(numL a++44::(numL b++58::p.tl))
 | .mir p=>109::p.tl
 | .tur p=>116::p.tl
 | .hue f g p=>104::(numL f++(numL g++p.tl))
def tS:∀ L:List D',cs (Str.join "/" L)=rowsL (L.map cs)
 |[]=>rfl
 |[x]=>rfl
 |x::y::L=>by
  show cs (x++"/"++Str.join "/" (y::L))=cs x++47::rowsL ((y::L).map cs);rw[bv,bv,tS (y::L),F4];rfl
def cq:∀ p:Pat,cs p.text=p.tl
 | .mot L a b c d=>by
  show cs (cQ L a b c d)=motL (L.map cs) a b c d;unfold cQ motL;have e:Txt.join "/" L=Str.join "/" L:=StrLaws.glued_eq_join _ _;rw[e]
  repeat rw[bv]
  rw[tS];simp only[F4];rfl
 | .over p q=>by
  rw[Pat.text,Pat.tl]
  repeat rw[bv]
  rw[cq p,cq q];simp only[F4];rfl
 | .sh a b p=>by
  rw[Pat.text,Pat.tl]
  repeat rw[bv]
  rw[cq p];simp only[F4];rfl
 | .mir p=>by
  rw[Pat.text,Pat.tl,bv,cq p];rfl
 | .tur p=>by
  rw[Pat.text,Pat.tl,bv,cq p];rfl
 | .hue f g p=>by
  rw[Pat.text,Pat.tl]
  repeat rw[bv]
  rw[cq p];simp only[F4];rfl
def hueL(h:1<=f/\f<=6):numL f=[(48+f).toNat]:=by
 have key:∀ k:Fin 6,numL (((k.val:Nat):Int)+1)=[49+k.val]:=by decide+kernel
 have:=key ⟨(f - 1).toNat,by lia⟩;have e:(((f - 1).toNat:Nat):Int)+1=f:=by lia
 rw[e] at this;rw[this];congr 1;show 49+(f - 1).toNat=(48+f).toNat;lia
def bN{d c:Nat}:step (.pat d::r) c=bM d c r:=by simp[step,aJ,aM]
def tT(h:1<=f/\f<=6)(r:List Wt)(t:List Nat)(k:Nat):walk (.hue::r) (numL f++t) k=walk r t (k+1):=by
 rw[hueL h];show walk (.hue::r) ((48+f).toNat::t) k=_;exact aH (by simp[step,aJ,aM];lia)
def BF(hL:Rows L)(ha:B12 a)(hb:B12 b)(hc:B12 c)(hd:B12 d)(n:Nat)(r:List Wt)(t:List Nat)(k:Nat):walk (.pat n::r) (motL (L.map cs) a b c d++t) k=walk r t (k+(motL (L.map cs) a b c d).length):=by
 obtain⟨h1,w,hw,hs⟩:=hL;have A_:∀ x∈L.map cs,x.length=w/\∀ c∈x,aF c:=λx hx=>by
  obtain⟨l,q1,q2⟩:=FP.mp hx;subst q2;exact⟨by rw[bp];exact(hs l q1).1,(hs l q1).2⟩
 have j3:L.map cs≠[]:=λz=>by have:=congrArg Gu z;simp at this;subst this;simp at h1
 unfold motL;simp only[F9,F4,Iq];have c_:∀ k,walk (.sign 93::r) (93::t) k=walk r t (k+1):=λk=>aH (by simp[step,aJ,aM]);rw[aH (st':=motW r) (by rw[bN];simp[bM])];unfold motW;rw[tR hw (L.map cs) 0 0 _ _ j3 A_ (by rw[Fs];lia) (λz=>absurd z (by lia))];rw[eZ (numL_is ha) (.inl rfl),eZ (numL_is hb) (.inr (.inl rfl)),eZ (numL_is hc) (.inl rfl),eZ (numL_is hd) (.inr (.inr (.inr rfl)))];congr 1;simp only[Fq,Fx,GL];lia
def cG:∀ {p:Pat},p.Syn->∀ (d:Nat) (r:List Wt) (t:List Nat) (k:Nat),p.depth+d<=5->walk (.pat d::r) (p.tl++t) k=walk r t (k+p.tl.length)
 | .mot L a b c e,h,d,r,t,k,_=>BF h.1 h.2.1 h.2.2.1 h.2.2.2.1 h.2.2.2.2 d r t k
 | .over p q,h,d,r,t,k,hd=>by
  rw[Pat.depth] at hd;have h1:step (.pat d::r) 40=be (.pat (d+1):: .sign 124:: .pat (d+1):: .sign 41::r):=by rw[bN];simp[bM,show¬ d=5 by lia]
  rw[Pat.tl];simp only[F9,F4,Iq];rw[aH h1,cG h.1 (d+1) _ _ _ (by lia),aH (st':= .pat (d+1):: .sign 41::r) (by simp[step,aJ,aM]),cG h.2 (d+1) _ _ _ (by lia),aH (st':=r) (by simp[step,aJ,aM])];congr 1;simp only[Fq,Fx,GL];lia
 | .sh a b p,h,d,r,t,k,hd=>by
  rw[Pat.depth] at hd;have h1:step (.pat d::r) 115=be (.num:: .sign 44:: .num:: .sign 58:: .pat (d+1)::r):=by rw[bN];simp[bM,show¬ d=5 by lia]
  rw[Pat.tl];simp only[F9,F4];rw[aH h1,eZ (numL_is h.1) (.inl rfl),eZ (numL_is h.2.1) (.inr (.inr (.inl rfl))),cG h.2.2 (d+1) _ _ _ (by lia)];congr 1;simp only[Fq,Fx];lia
 | .mir p,h,d,r,t,k,hd=>by
  rw[Pat.depth] at hd;have h1:step (.pat d::r) 109=be (.pat (d+1)::r):=by rw[bN];simp[bM,show¬ d=5 by lia]
  rw[Pat.tl,F9,aH h1,cG (p:=p) h (d+1) _ _ _ (by lia),Fq];congr 1;lia
 | .tur p,h,d,r,t,k,hd=>by
  rw[Pat.depth] at hd;have h1:step (.pat d::r) 116=be (.pat (d+1)::r):=by rw[bN];simp[bM,show¬ d=5 by lia]
  rw[Pat.tl,F9,aH h1,cG (p:=p) h (d+1) _ _ _ (by lia),Fq];congr 1;lia
 | .hue f g p,h,d,r,t,k,hd=>by
  rw[Pat.depth] at hd;have h1:step (.pat d::r) 104=be (.hue:: .hue:: .pat (d+1)::r):=by rw[bN];simp[bM,show¬ d=5 by lia]
  rw[Pat.tl];simp only[F9,F4];rw[aH h1,tT h.1,tT h.2.1,cG h.2.2 (d+1) _ _ _ (by lia)];rw[hueL h.1,hueL h.2.1];congr 1;simp only[Fq,Fx,GL];lia
def tU(h:p.Syn)(hd:p.depth<=5):df p.text=none:=by
 unfold df;rw[cq];have:=cG h 0 [] [] 0 (by lia);rw[F7] at this;rw[this];rfl
def fj{x y:D'}(h:cs x=cs y):x=y:=by
 obtain⟨a⟩:=x;obtain⟨b⟩:=y;have:a=b:=Ir.mp h;rw[this]
def Pat.lineAt:Pat->Nat->Option Nat
 | .mot _ a b c d,k=>if a*d=b*c then be k else m9
 | .over p q,k=>match p.lineAt (k+1) with
  |some j=>be j
  |none=>q.lineAt (k+1+p.tl.length+1)
 | .sh a b p,k=>p.lineAt (k+1+(numL a).length+1+(numL b).length+1)
 | .mir p,k=>p.lineAt (k+1)
 | .tur p,k=>p.lineAt (k+1)
 | .hue _ _ p,k=>p.lineAt (k+3)
def Pat.line_wf:∀ {p:Pat} (k:Nat),p.Syn->p.lineAt k=m9->p.Wf
 | .mot L a b c d,k,h,e=>by
  refine⟨h.1,h.2.1,h.2.2.1,h.2.2.2.1,h.2.2.2.2,λz=>?_⟩;rw[Pat.lineAt,if_pos z] at e;cases e
 | .over p q,k,h,e=>by
  rw[Pat.lineAt] at e;cases hp:p.lineAt (k+1) with
  |some j=>rw[hp] at e;cases e
  |none=>rw[hp] at e;exact⟨Pat.line_wf _ h.1 hp,Pat.line_wf _ h.2 e⟩
 | .sh a b p,k,h,e=>⟨h.1,h.2.1,Pat.line_wf _ h.2.2 (by rw[Pat.lineAt] at e;exact e)⟩
 | .mir p,k,h,e=>Pat.line_wf (p:=p) (k+1) h (by rw[Pat.lineAt] at e;exact e)
 | .tur p,k,h,e=>Pat.line_wf (p:=p) (k+1) h (by rw[Pat.lineAt] at e;exact e)
 | .hue f g p,k,h,e=>⟨h.1,h.2.1,Pat.line_wf _ h.2.2 (by rw[Pat.lineAt] at e;exact e)⟩
def Pat.wf_line:∀ {p:Pat} (k:Nat),p.Wf->p.lineAt k=m9
 | .mot L a b c d,k,h=>by rw[Pat.lineAt,if_neg h.2.2.2.2.2]
 | .over p q,k,h=>by
  rw[Pat.lineAt,Pat.wf_line (p:=p) _ h.1];exact Pat.wf_line (p:=q) _ h.2
 | .sh a b p,k,h=>by rw[Pat.lineAt];exact Pat.wf_line (p:=p) _ h.2.2
 | .mir p,k,h=>by rw[Pat.lineAt];exact Pat.wf_line (p:=p) _ h
 | .tur p,k,h=>by rw[Pat.lineAt];exact Pat.wf_line (p:=p) _ h
 | .hue f g p,k,h=>by rw[Pat.lineAt];exact Pat.wf_line (p:=p) _ h.2.2
def Pat.syn_len:∀ {p:Pat},p.Syn->p.text.length+10<=110*2 ^ p.depth
 | .mot L a b c d,h=>by
  have:=tO h.1 h.2.1 h.2.2.1 h.2.2.2.1 h.2.2.2.2;show(cQ L a b c d).length+10<=110*2 ^ 0;lia
 | .over p q,h=>by
  have h1:=Pat.syn_len h.1;have h2:=Pat.syn_len h.2;have m1:2 ^ p.depth<=2 ^ (max p.depth q.depth):=Gc (by decide) (HD _ _);have m2:2 ^ q.depth<=2 ^ (max p.depth q.depth):=Gc (by decide) (HE _ _);have l1:("(":D').length=1:=rfl;have l2:("|":D').length=1:=rfl;have l3:(")":D').length=1:=rfl;rw[Pat.text,Pat.depth,HF]
  repeat rw[aA]
  lia
 | .sh a b p,h=>by
  have h1:=Pat.syn_len h.2.2;have la:=bw h.1;have lb:=bw h.2.1;have l1:("s":D').length=1:=rfl;have l2:(",":D').length=1:=rfl;have l3:(":":D').length=1:=rfl;have:0<2 ^ p.depth:=Gp (by decide);rw[Pat.text,Pat.depth,FZ]
  repeat rw[aA]
  lia
 | .mir p,h=>by
  have h1:=Pat.syn_len (p:=p) h;have l1:("m":D').length=1:=rfl;have:0<2 ^ p.depth:=Gp (by decide);rw[Pat.text,Pat.depth,FZ,aA];lia
 | .tur p,h=>by
  have h1:=Pat.syn_len (p:=p) h;have l1:("t":D').length=1:=rfl;have:0<2 ^ p.depth:=Gp (by decide);rw[Pat.text,Pat.depth,FZ,aA];lia
 | .hue f g p,h=>by
  have h1:=Pat.syn_len h.2.2;have la:=db h.1;have lb:=db h.2.1;have l1:("h":D').length=1:=rfl;have:0<2 ^ p.depth:=Gp (by decide);rw[Pat.text,Pat.depth,FZ]
  repeat rw[aA]
  lia
def Pat.syn_short(h:p.Syn)(hd:p.depth<=5):p.text.length<=3510:=by
 have h1:=Pat.syn_len h;have h2:2 ^ p.depth<=2 ^ 5:=Gc (by decide) hd;lia
variable{B:Prop}
def ifT{c A:Prop}[Decidable c](h:c)(a:A):if c then A else B:=by rw[if_pos h];exact a
def ifdT{p A:Prop}[Decidable p](h:p)(a:A):if decide p=true then A else B:=by rw[if_pos (decide_eq_true h)];exact a
def ifdF{p A:Prop}[Decidable p](h:¬ p)(b:B):if decide p=true then A else B:=by rw[if_neg (by simpa using h)];exact b
def rdF(t:D')(k:Nat):List (D' × D):=[("text",.str t),("place",.int k)]
def RdM(a:KF)(t:D')(k:Nat):MS:=[(a,.ins "Reading" (rdF t k))]
variable{o:MO}
def cH{a:KF}:mget [(a,o)] a=be o:=by unfold mget;rw[if_pos rfl]
def fk{a:KF}{o':MO}:mput [(a,o)] a o'=[(a,o')]:=by unfold mput;rw[if_pos rfl]
variable{t:D'}
def aR{a:KF}:mget (RdM a t k) a=be (.ins "Reading" (rdF t k)):=cH
def kE:(rdF t k).lookup ("text":D')=be (.str t):=rfl
def dg:(rdF t k).lookup ("place":D')=be (.int k):=by
 unfold rdF;rw[FI,show(("place":D')==("text":D'))=false by decide+kernel];rfl
def BG:putD ("place":D') (.int ((k:Int)+1)) (rdF t k)=rdF t (k+1):=by
 unfold rdF putD;rw[if_neg (by decide+kernel)];unfold putD;rw[if_pos rfl];rfl
def cS:(rdF t k).lookup ("may_take":D')=none:=by
 unfold rdF;rw[FI,show(("may_take":D')==("text":D'))=false by decide+kernel,FI,show(("may_take":D')==("place":D'))=false by decide+kernel];rfl
def cj:(rdF t k).lookup ("take":D')=none:=by
 unfold rdF;rw[FI,show(("take":D')==("text":D'))=false by decide+kernel,FI,show(("take":D')==("place":D'))=false by decide+kernel];rfl
structure At(t:Str)(k:Nat)(l:List Nat):Prop where
 eq:(cs t).drop k=l
 le:k<=t.length
 sz:t.length<=100000
def At.nil(h:At t k []):k=t.length:=by
 have h1:=congrArg Gu h.eq;rw[GB,bp] at h1;have:=h.le;simp at h1;lia
def At.lt{c:Nat}(h:At t k (c::l)):k<t.length:=by
 have h1:=congrArg Gu h.eq;rw[GB,bp] at h1;simp at h1;lia
def At.get{c:Nat}(h:At t k (c::l)):(cs t)[k]?=be c:=by
 have h1:=congrArg (·[0]?) h.eq;simpa using h1
def At.next{c:Nat}(h:At t k (c::l)):At t (k+1) l:=by
 refine⟨?_,h.lt,h.sz⟩;have h1:=congrArg (GP 1) h.eq;rw[List.drop_drop] at h1;simpa using h1
def At.app{t:D'}:∀ {x l:List Nat} {k:Nat},At t k (x++l)->At t (k+x.length) l
 |[],_,_,h=>h
 |c::x,l,k,h=>by
  have h1:At t (k+1+x.length) l:=At.app (At.next h);have e:k+1+x.length=k+(c::x).length:=by rw[Fq];lia
  rw[e] at h1;exact h1
variable{al:D'}
def tV{c:Nat}:(!(!(Builtin.Str.occurrences al ⟨#[c]⟩ 0 al.length 1).isEmpty))=!decide (c∈cs al):=by
 rw[StrLaws.found_one]
def mayS(al:D'):List Nat->D'|c::_=>if c∈cs al then⟨#[c]⟩ else ""|[]=>""
def mayN(al:D'):List Nat->Nat|c::_=>if c∈cs al then 1 else 0|[]=>0
def dN{c:Nat}(h:c∈cs al):mayS al (c::l)=⟨#[c]⟩:=if_pos h
def dO{c:Nat}(h:c∈cs al):mayN al (c::l)=1:=if_pos h
def dh{c:Nat}(h:c ∉ cs al):mayS al (c::l)="":=if_neg h
def dm{c:Nat}(h:c ∉ cs al):mayN al (c::l)=0:=if_neg h
def BH:SiD:=λds R=>∃ t:D',ds=[.str t]/\R (rdF t 0)
def BI:SpM:=λds M R RX=>∃ (a:KF) (t:D') (k:Nat) (l:List Nat) (al:D'),ds=[.ptr a,.str al]/\M=RdM a t k/\At t k l/\R (.str (mayS al l)) (RdM a t (k+mayN al l))
def BJ:SpM:=λds M R RX=>∃ (a:KF) (t:D') (k:Nat) (l:List Nat) (al:D'),ds=[.ptr a,.str al]/\M=RdM a t k/\At t k l/\
 (∀ c l',l=c::l'->c∈cs al->R (.str ⟨#[c]⟩) (RdM a t (k+1)))/\((∀ c l',l=c::l'->c ∉ cs al)->∀ M',RX "WrongSign" [("place",.int k)] M')
def walk_bad(h1:st≠[])(h:∀ c l',l=c::l'->step st c=m9):walk st l k=be k:=by
 cases l with
 |nil=>rw[walk,if_neg h1]
 |cons c l=>rw[walk,h c l rfl]
def dP{e:Nat}(h:∀ l',l≠e::l'):walk (.sign e::r) l k=be k:=
 walk_bad (λz=>nomatch z) λc l' q=>by
  have:c≠e:=λz=>h l' (z ▸ q);simp[step,aJ,aM,this]
def dQ{e:Nat}:walk (.sign e::r) (e::l) k=walk r l (k+1):=aH (by simp[step,aJ,aM])
def BK{e:Nat}(h:∀ d l',l=d::l'->¬ (48<=d/\d<=50)):walk (.more:: .sign e::r) l k=walk (.sign e::r) l k:=by
 cases l with
 |nil=>simp[walk]
 |cons d l=>
  have:step (.more:: .sign e::r) d=step (.sign e::r) d:=by simp[step,aJ,h d l rfl]
  rw[walk,walk,this]
variable{pre:List Nat}
def BL(hp:pre=[]\/pre=[45]){c:Nat}(hc:49<=c/\c<=57){x l3:List Nat}(hx:(c=49/\∃ d,(48<=d/\d<=50)/\x=[d])\/(x=[]/\(c=49->∀ d l',l3=d::l'->¬ (48<=d/\d<=50))))(k e:Nat)(r:List Wt)(hl:l=pre++c::(x++l3)):
  walk (.num:: .sign e::r) l k=walk (.sign e::r) l3 (k+(pre++c::x).length):=by
 subst hl;have fig:∀ k,walk (.fig:: .sign e::r) (c::(x++l3)) k=walk (.sign e::r) l3 (k+(c::x).length):=λk=>by
  rcases hx with⟨rfl,d,hd,rfl⟩|⟨rfl,h⟩
  .rw[aH (st':= .more:: .sign e::r) (by simp[step,aJ,aM])];show walk _ (d::l3) _=_;rw[aH (st':= .sign e::r) (by simp[step,aJ,aM,hd])];rfl
  .by_cases e1:c=49
   .subst e1;rw[aH (st':= .more:: .sign e::r) (by simp[step,aJ,aM])];show walk _ l3 _=_;rw[BK (h rfl)];rfl
   .rw[aH (st':= .sign e::r) (by simp[step,aJ,aM,e1,show 50<=c/\c<=57 by lia])];rfl
 rcases hp with rfl|rfl
 .have same:step (.num:: .sign e::r) c=step (.fig:: .sign e::r) c:=by
   by_cases e1:c=49
   .subst e1;simp[step,aJ,aM]
   .simp[step,aJ,aM,e1,show¬ c=45 by lia,show 48<=c/\c<=57 by lia,show 50<=c/\c<=57 by lia]
  have:=fig k;rw[walk] at this;show walk _ (c::(x++l3)) k=_;rw[walk,same,this];simp
 .show walk _ (45::c::(x++l3)) k=_;rw[aH (st':= .fig:: .sign e::r) (by simp[step,aJ,aM]),fig];congr 1;simp only[Fx,Fq,GL];lia
def BM(hp:pre=[]\/pre=[45]){l1:List Nat}(hl:l=pre++l1)(h:∀ c l',l1=c::l'->¬ (49<=c/\c<=57))(h0:pre=[]->∀ c l',l1=c::l'->c≠48/\c≠45)(k:Nat)(r:List Wt):walk (.num::r) l k=be (k+pre.length):=by
 subst hl;rcases hp with rfl|rfl
 .refine walk_bad (λz=>nomatch z) λc l' q=>?_;have h1:=h c l' q;have h2:=h0 rfl c l' q;simp[step,aJ,aM,h2.2,show¬ c=49 by lia,show¬ (48<=c/\c<=57) by lia]
 .show walk _ (45::l1) k=_;rw[aH (st':= .fig::r) (by simp[step,aJ,aM])];refine walk_bad (λz=>nomatch z) λc l' q=>?_;have h1:=h c l' q;simp[step,aJ,aM,show¬ c=49 by lia,show¬ (50<=c/\c<=57) by lia]
def kF(h:B12 x):PySem.intText? ⟨(numL x).toArray⟩=be x:=
 tQ (P:=λx=>PySem.intText? ⟨(numL x).toArray⟩=be x) h (by decide+kernel)
def fo(x y:List Nat):((⟨x.toArray⟩:D')++⟨y.toArray⟩:D')=⟨(x++y).toArray⟩:=by
 apply fj;rw[bv]
def digits19{c:Nat}:c∈cs "123456789"↔49<=c/\c<=57:=by
 have e:cs "123456789"=[49,50,51,52,53,54,55,56,57]:=rfl;rw[e];simp;lia
def digits02{c:Nat}:c∈cs "012"↔48<=c/\c<=50:=by
 have e:cs "012"=[48,49,50]:=rfl;rw[e];simp;lia
def BN(w:List Nat)(c:Nat):Txt.endswith ⟨(w++[c]).toArray⟩ "1"=decide (c=49):=by
 unfold Txt.endswith;have e1:("1":D').length=1:=rfl;have e2:(⟨(w++[c]).toArray⟩:D').length=w.length+1:=by simp[Str.length]
 rw[e1,e2];have e3:decide (0+1<=w.length+1)=true:=by simp
 rw[e3,Bool.true_and,Ip];unfold Builtin.Str.subAt;have e4:(⟨(w++[c]).toArray⟩:D').cps.extract w.length (w.length+("1":D').length)=#[c]:=by
  apply Ir.mp;simp[Array.toList_extract,e1]
 rw[e4];have e5:("1":D').cps=#[49]:=rfl;rw[e5];by_cases h:c=49
 .subst h;rfl
 .simp[h]
def BO:SpM:=λds M R RX=>∃ (a:KF) (t:D') (k:Nat) (l:List Nat),ds=[.ptr a]/\M=RdM a t k/\At t k l/\
 (∀ x l',B12 x->l=numL x++l'->(∀ e r,walk (.num:: .sign e::r) l k=walk (.sign e::r) l' (k+(numL x).length))->R (.int x) (RdM a t (k+(numL x).length)))/\
 (∀ j:Nat,(∀ r,walk (.num::r) l k=be j)->∀ M',RX "WrongSign" [("place",.int j)] M')
def BP:SpM:=λds M R RX=>∃ (a:KF) (t:D') (k:Nat) (l:List Nat),ds=[.ptr a]/\M=RdM a t k/\At t k l/\
 (∀ x y l',B12 x->B12 y->l=numL x++44::(numL y++l')->(∀ e r,walk (.num:: .sign 44:: .num:: .sign e::r) l k=walk (.sign e::r) l' (k+(numL x).length+1+(numL y).length))->R (.tup [.int x,.int y]) (RdM a t (k+(numL x).length+1+(numL y).length)))/\
 (∀ j:Nat,(∀ r,walk (.num:: .sign 44:: .num::r) l k=be j)->∀ M',RX "WrongSign" [("place",.int j)] M')
def sgPre:Nat->List Nat->List Nat
 |0,_=>[]
 |_+1,[]=>[]
 |n+1,c::l=>if isSg c=true then c::sgPre n l else[]
def fq(n c:Nat)(l:List Nat):sgPre (n+1) (c::l)=if isSg c=true then c::sgPre n l else[]:=rfl
def sgPre_succ:∀ (n:Nat) (l:List Nat),(∃ c l',l=sgPre n l++c::l'/\(sgPre n l).length=n/\isSg c=true/\sgPre (n+1) l=sgPre n l++[c])\/(∃ l',l=sgPre n l++l'/\(∀ c Nf,l'=c::Nf->isSg c=false)/\∀ m,n<=m->sgPre m l=sgPre n l)
 |0,[]=> .inr ⟨[],rfl,(λ_ _ q=>nomatch q),λm _=>by cases m<;>rfl⟩
 |0,c::l=>by
  by_cases h:isSg c=true
  .exact .inl ⟨c,l,rfl,rfl,h,by rw[fq,if_pos h];rfl⟩
  .refine .inr ⟨c::l,rfl,λ_ _ q=>?_,λm _=>?_⟩
   .cases q;simpa using h
   .cases m with
    |zero=>rfl
    |succ m=>rw[fq,if_neg h];rfl
 |n+1,[]=> .inr ⟨[],rfl,(λ_ _ q=>nomatch q),λm _=>by cases m<;>rfl⟩
 |n+1,c::l=>by
  by_cases h:isSg c=true
  .have e:∀ m,sgPre (m+1) (c::l)=c::sgPre m l:=λm=>by rw[fq,if_pos h]
   rcases sgPre_succ n l with⟨d,l',h1,h2,h3,h4⟩|⟨l',h1,h2,h3⟩
   .refine .inl ⟨d,l',?_,by rw[e,Fq,h2],h3,by rw[e,e,h4];rfl⟩;rw[e];exact congrArg (c::·) h1
   .refine .inr ⟨l',?_,h2,λm hm=>?_⟩
    .rw[e];exact congrArg (c::·) h1
    .cases m with
     |zero=>lia
     |succ m=>rw[e,e,h3 m (by lia)]
  .refine .inr ⟨c::l,?_,λ_ _ q=>?_,λm hm=>?_⟩
   .rw[fq,if_neg h];rfl
   .cases q;simpa using h
   .cases m with
    |zero=>lia
    |succ m=>rw[fq,if_neg h,fq,if_neg h]
def hV:∀ (n:Nat) (l:List Nat),(sgPre n l).length<=n
 |0,_=>Fo _
 |n+1,[]=>FR _
 |n+1,c::l=>by
  rw[sgPre];split
  .rw[Fq];exact Nat.succ_le_succ (hV n l)
  .exact FR _
def sgPre_sign:∀ (n:Nat) (l:List Nat),∀ c∈sgPre n l,aF c
 |0,_,_,h=>by cases h
 |n+1,[],_,h=>by cases h
 |n+1,c::l,d,h=>by
  rw[sgPre] at h;split at h
  .rename_i q;rcases Fp.mp h with e|e
   .rw[e];exact isSign_of q
   .exact sgPre_sign n l d e
  .cases h
def sgPre_split(n:Nat)(l:List Nat):∃ l',l=sgPre n l++l'/\((sgPre n l).length=n\/∀ c Nf,l'=c::Nf->isSg c=false):=by
 rcases sgPre_succ n l with⟨d,l',h1,h2,h3,h4⟩|⟨l',h1,h2,h3⟩
 .exact⟨d::l',h1,.inl h2⟩
 .exact⟨l',h1,.inr h2⟩
def signs_is{c:Nat}:c∈cs ".123456"↔isSg c=true:=by
 have e:cs ".123456"=[46,49,50,51,52,53,54]:=rfl;rw[e];simp;lia
def dR(x:List Nat):(⟨x.toArray⟩:D').length=x.length:=by simp[Str.length]
def BQ:SpM:=λds M R RX=>∃ (a:KF) (t:D') (k:Nat) (l:List Nat) (n m:Nat),ds=[.ptr a,.int n,.int m]/\M=RdM a t k/\At t k l/\n<=m/\m<=8/\
 (n<=(sgPre m l).length->R (.str ⟨(sgPre m l).toArray⟩) (RdM a t (k+(sgPre m l).length)))/\((sgPre m l).length<n->∀ M',RX "WrongSign" [("place",.int ((k+(sgPre m l).length:Nat):Int))] M')
def BR{p a:KF}(h:p≠a):mget ((p,o)::RdM a t k) a=be (.ins "Reading" (rdF t k)):=by
 unfold mget;rw[if_neg h];exact cH
variable{M:MS}
def cT{p:KF}:mget ((p,o)::M) p=be o:=by unfold mget;rw[if_pos rfl]
def tW{p:KF}{o':MO}:mput ((p,o)::M) p o'=(p,o')::M:=by unfold mput;rw[if_pos rfl]
def kG{p:KF}:mdel ((p,o)::M) p=M:=by unfold mdel;rw[if_pos rfl]
structure RowsL(L:List (List Nat))(w:Nat):Prop where
 many:1<=L.length/\L.length<=8
 w1:1<=w
 w8:w<=8
 each:∀ x∈L,x.length=w/\∀ c∈x,aF c
def hZ:∀ (L:List (List Nat)) (x:List Nat),L≠[]->rowsL (L++[x])=rowsL L++47::x
 |[],_,h=>absurd rfl h
 |[y],x,_=>rfl
 |y::z::L,x,_=>by
  show y++47::rowsL ((z::L)++[x])=(y++47::rowsL (z::L))++47::x;rw[hZ (z::L) x (λq=>nomatch q)];simp
structure LinAt(w h n:Nat)(l:List Nat):Prop where
 h1:1<=h
 n1:1<=n
 one:n=1->h=8\/∀ c l',l=c::l'->isSg c=false
 more:2<=n->w=h
def BS{w h:Nat}(H:LinAt w h n l)(hn:n<=8)(stop:n=8\/∀ l',l≠47::l')(r:List Wt)(p:Nat):walk (.lin w h (n - 1)::r) l p=walk (.sign 59::r) l p:=by
 cases l with
 |nil=>simp[walk]
 |cons c l=>
  have key:step (.lin w h (n - 1)::r) c=step (.sign 59::r) c:=by
   rw[dM];unfold cR;have Qz:step (.sign 59::r) c=if c=59 then be r else none:=by simp[step,aJ,aM]
   rw[Qz];have h1:=H.h1;by_cases hs:isSg c=true
   .rw[if_pos hs];have nc:¬ c=59:=by rintro rfl;cases hs
    rw[if_neg nc];refine if_neg ?_;by_cases n1:n=1
    .rcases H.one n1 with e|e
     .subst n1;simp;lia
     .rw[e c l rfl] at hs;cases hs
    .have O4:=H.n1;have:=H.more (by lia);rw[if_pos (by lia)];lia
   .rw[if_neg hs];have g:¬ (h=0\/(0<n - 1/\h<w)):=by
     have O4:=H.n1;rintro(z|⟨z1,z2⟩)
     .lia
     .have:=H.more (by lia);lia
    rw[if_neg g];by_cases O5:c=47
    .subst O5;rw[if_pos rfl,if_neg (c:=47=59) (by decide)];refine if_neg ?_;rcases stop with e|e
     .lia
     .exact absurd rfl (e l)
    .rw[if_neg O5]
  rw[walk,walk,key]
def tX{w h:Nat}(H:LinAt w h n (47::l))(hn:n<8)(r:List Wt)(p:Nat):walk (.lin w h (n - 1)::r) (47::l) p=walk (.lin h 0 n::r) l (p+1):=by
 refine aH ?_;rw[dM];unfold cR;have h1:=H.h1;have O4:=H.n1;have ns:isSg 47=false:=rfl;rw[ns,if_neg Fz,if_neg (by
  rintro(z|⟨z1,z2⟩)
  .lia
  .have:=H.more (by lia);lia),if_pos rfl,if_pos (by lia)]
 congr 3;lia
def tY{w:Nat}{x:List Nat}(hs:∀ c∈x,aF c)(hx:x.length<w)(hw:w<=8)(hn:n=0->x=[])(hl:∀ c l',l=c::l'->isSg c=false)(r:List Wt)(p:Nat):walk (.lin w 0 n::r) (x++l) p=be (p+x.length):=by
 rw[fg x 0 l p hs (by split<;>lia)];refine walk_bad (λz=>nomatch z) λc l' q=>?_;rw[dM];unfold cR;rw[hl c l' q,if_neg Fz];refine if_pos ?_;by_cases n0:n=0
 .left;rw[hn n0];rfl
 .right;exact⟨by lia,by lia⟩
def lstD(L:List (List Nat)):List D:=L.map λx=>D.str ⟨x.toArray⟩
def BT:SpM:=λds M R RX=>∃ (a:KF) (t:D') (k:Nat) (l:List Nat),ds=[.ptr a]/\M=RdM a t k/\At t k l/\
 (∀ (L:List (List Nat)) (w:Nat) l',RowsL L w->l=rowsL L++l'->(∀ r,walk (.lin 0 0 0::r) l k=walk (.sign 59::r) l' (k+(rowsL L).length))->R (.lst (lstD L)) (RdM a t (k+(rowsL L).length)))/\
 (∀ j:Nat,(∀ r,walk (.lin 0 0 0::r) l k=be j)->∀ M',RX "WrongSign" [("place",.int j)] M')
def hmX(w h s:Int)(i j:Int):Int:=(i - j / h*s) % w
def hRow(w h s:Int)(j:Nat):Nat->List Nat->List ((Int × Int) × Int)->List ((Int × Int) × Int)
 |_,[],kv=>kv
 |i,c::r,kv=>hRow w h s j (i+1) r (if c=46 then kv else sdD kv (hmX w h s i j) ((j:Int) % h) ((c:Int) - 48))
def hAll(w h s:Int):Nat->List (List Nat)->List ((Int × Int) × Int)->List ((Int × Int) × Int)
 |_,[],kv=>kv
 |j,x::r,kv=>hAll w h s (j+1) r (hRow w h s j 0 x kv)
def tZ(kv:List ((Int × Int) × Int))(x y v:Int):(sdD kv x y v).length<=kv.length+1:=by
 unfold sdD;split
 .lia
 .rw[Fx];simp
def BU{c:Nat}(h:49<=c/\c<=54):∃ i rest,Builtin.Str.occurrences ".123456" ⟨#[c]⟩ 0 (".123456":D').length 1=i::rest/\((i:Nat):Int)=(c:Int) - 48:=by
 rcases(by lia:c=49\/c=50\/c=51\/c=52\/c=53\/c=54) with e|e|e|e|e|e<;>subst e
 .exact⟨1,[],by decide+kernel,by decide⟩
 .exact⟨2,[],by decide+kernel,by decide⟩
 .exact⟨3,[],by decide+kernel,by decide⟩
 .exact⟨4,[],by decide+kernel,by decide⟩
 .exact⟨5,[],by decide+kernel,by decide⟩
 .exact⟨6,[],by decide+kernel,by decide⟩
def BV{x:List Nat}(h:∀ c∈x,aF c):(⟨x.toArray⟩:D').cps.all (·<128)=true:=by
 rw[<- H8,Gv];intro c hc;have:=h c hc;unfold aF at this;simp;lia
def BW{L:List (List Nat)}{j:Nat}{d:D}(h:(lstD L)[j]?=be d):∃ x,L[j]?=be x/\d= .str ⟨x.toArray⟩:=by
 unfold lstD at h;rw[FF] at h;cases e:L[j]? with
 |none=>rw[e] at h;cases h
 |some x=>rw[e] at h;cases h;exact⟨x,rfl,rfl⟩
def BX{x:List Nat}{i:Nat}{d:D}(h:(dI ⟨x.toArray⟩)[i]?=be d):∃ c,x[i]?=be c/\d= .str ⟨#[c]⟩:=by
 unfold dI at h;rw[FF] at h;cases e:x[i]? with
 |none=>simp[e] at h
 |some c=>simp[e] at h;exact⟨c,rfl,h.symm⟩
def ub{α:Type}{l:List α}{i:Nat}{x:α}(h:l[i]?=be x):l.drop i=x::l.drop (i+1):=by
 have hi:i<l.length:=(FG.mp h).1;rw[GU hi];congr 1;rw[FJ hi] at h;exact Option.some.inj h
def BY:SpM:=λds M R RX=>∃ (L:List (List Nat)) (wd:Nat) (w h s:Int),ds=[.lst (lstD L),.tup [.int w,.int h,.int s]]/\RowsL L wd/\0<w/\0<h/\h<1073741824/\0<=s/\s<1073741824/\R (.dti (hAll w h s 0 L [])) M
def moF(k:Nat)(sh:D)(hu:List ((Int × Int) × Int)):List (D' × D):=[("place",.int k),("shifts",sh),("hues",.dti hu)]
def BZ:SiD:=λds R=>∃ (k:Nat) (L:List (List Nat)) (wd:Nat) (a b c d:Int),ds=[.int k,.lst (lstD L),.tup [.int a,.int b],.tup [.int c,.int d]]/\RowsL L wd/\B12 a/\B12 b/\B12 c/\B12 d/\
 (a*d=b*c->R (moF k .non []))/\(¬ a*d=b*c->∀ w h s,FamOf a b c d w h s->R (moF k (.tup [.int w,.int h,.int s]) (hAll w h s 0 L [])))
def B0{v:D}:putD ("place":D') v []=([("place",v)]:List (D' × D)):=rfl
def uc{u v:D}:putD ("shifts":D') v [("place",u)]=([("place",u),("shifts",v)]:List (D' × D)):=by
 unfold putD;rw[if_neg (by decide+kernel)];rfl
def ud{t u v:D}:putD ("hues":D') v [("place",t),("shifts",u)]=([("place",t),("shifts",u),("hues",v)]:List (D' × D)):=by
 unfold putD;rw[if_neg (by decide+kernel)];unfold putD;rw[if_neg (by decide+kernel)];rfl
def kH{u v:D}:([("place",u),("shifts",v)]:List (D' × D)).lookup ("shifts":D')=be v:=by
 rw[FI,show(("shifts":D')==("place":D'))=false by decide+kernel];rfl
def B1:SiD:=λds R=>∃ (x y:D') (fs gs:List (D' × D)),ds=[.obj x fs,.obj y gs]/\R [("above",.obj x fs),("below",.obj y gs)]
def B2:SiD:=λds R=>∃ (x:D') (fs:List (D' × D)) (a b:Int),ds=[.obj x fs,.int a,.int b]/\R [("form",.obj x fs),("x",.int a),("y",.int b)]
def B3:SiD:=λds R=>∃ (x:D') (fs:List (D' × D)),ds=[.obj x fs]/\R [("form",.obj x fs)]
def B4:SiD:=λds R=>∃ (x:D') (fs:List (D' × D)),ds=[.obj x fs]/\R [("form",.obj x fs)]
def B5:SiD:=λds R=>∃ (x:D') (fs:List (D' × D)) (a b:Int),ds=[.obj x fs,.int a,.int b]/\R [("form",.obj x fs),("old",.int a),("new",.int b)]
def FormOf:Pat->Nat->D->Prop
 | .mot L a b c d,k,v=>∃ sh hu,v= .obj "Motif" (moF k sh hu)/\(a*d=b*c->sh= .non)/\(¬ a*d=b*c->∃ w h s,FamOf a b c d w h s/\sh= .tup [.int w,.int h,.int s]/\hu=hAll w h s 0 (L.map cs) [])
 | .over p q,k,v=>∃ u u',v= .obj "Over" [("above",u),("below",u')]/\FormOf p (k+1) u/\FormOf q (k+1+p.tl.length+1) u'
 | .sh a b p,k,v=>∃ u,v= .obj "Shifted" [("form",u),("x",.int a),("y",.int b)]/\FormOf p (k+1+(numL a).length+1+(numL b).length+1) u
 | .mir p,k,v=>∃ u,v= .obj "Mirror" [("form",u)]/\FormOf p (k+1) u
 | .tur p,k,v=>∃ u,v= .obj "Turn" [("form",u)]/\FormOf p (k+1) u
 | .hue f g p,k,v=>∃ u,v= .obj "Rehue" [("form",u),("old",.int f),("new",.int g)]/\FormOf p (k+3) u
def Pat.cls:Pat->D'
 | .mot ..=>"Motif"| .over ..=>"Over"| .sh ..=>"Shifted"| .mir ..=>"Mirror"| .tur ..=>"Turn"| .hue ..=>"Rehue"
def FormOf.obj{v:D}(h:FormOf p k v):∃ fs,v= .obj p.cls fs:=by
 cases p with
 |mot L a b c d=>obtain⟨sh,hu,rfl,_⟩:=h;exact⟨_,rfl⟩
 |over p q=>obtain⟨_,_,rfl,_⟩:=h;exact⟨_,rfl⟩
 |sh a b p=>obtain⟨_,rfl,_⟩:=h;exact⟨_,rfl⟩
 |mir p=>obtain⟨_,rfl,_⟩:=h;exact⟨_,rfl⟩
 |tur p=>obtain⟨_,rfl,_⟩:=h;exact⟨_,rfl⟩
 |hue f g p=>obtain⟨_,rfl,_⟩:=h;exact⟨_,rfl⟩
def B6{L:List (List Nat)}{w:Nat}(h:RowsL L w):Rows (L.map λx=>(⟨x.toArray⟩:D'))/\(L.map λx=>(⟨x.toArray⟩:D')).map cs=L:=by
 refine⟨⟨by rw[Fs];exact h.many,w,⟨h.w1,h.w8⟩,λl hl=>?_⟩,?_⟩
 .obtain⟨x,hx,rfl⟩:=FP.mp hl;obtain⟨h1,h2⟩:=h.each x hx;exact⟨by rw[dR];exact h1,h2⟩
 .rw[Ha];simp[Function.comp_def,cs]
def B7:SpM:=λds M R RX=>∃ (a:KF) (t:D') (k:Nat) (l:List Nat),ds=[.ptr a]/\M=RdM a t k/\At t k l/\
 (∀ p l',p.Syn->p.depth=0->l=p.tl++l'->∀ v,FormOf p k v->R v (RdM a t (k+p.tl.length)))/\
 (∀ j:Nat,(∀ r,walk (.pat 5::r) l k=be j)->∀ M',RX "WrongSign" [("place",.int j)] M')
def B8{d:Nat}(h:d=5\/∀ c l',l=c::l'->c ∉ cs "(smth"):walk (.pat d::r) l k=walk (.pat 5::r) l k:=by
 rcases h with rfl|h
 .rfl
 .cases l with
  |nil=>simp[walk]
  |cons c l=>
   have hc:=h c l rfl;have e:cs "(smth"=[40,115,109,116,104]:=rfl;rw[e] at hc;simp only[Fp,Gd,or_false,not_or] at hc;have:step (.pat d::r) c=step (.pat 5::r) c:=by
    rw[bN,bN];unfold bM;by_cases LS:c=91
    .rw[if_pos LS,if_pos LS]
    .rw[if_neg LS,if_neg LS,if_pos rfl];split
     .rfl
     .rw[if_neg hc.1,if_neg hc.2.1,if_neg hc.2.2.2.2,if_neg (by rintro(z|z);exact hc.2.2.1 z;exact hc.2.2.2.1 z)]
   rw[walk,walk,this]
def hue_dig{c:Nat}:c∈cs "123456"↔49<=c/\c<=54:=by
 have e:cs "123456"=[49,50,51,52,53,54]:=rfl;rw[e];simp;lia
def ia{c:Nat}(h:49<=c/\c<=54):numL ((c:Int) - 48)=[c]:=by
 rw[hueL (by lia)];congr 1;lia
def kI{c:Nat}(h:49<=c/\c<=54):walk (.hue::r) (c::l) k=walk r l (k+1):=aH (by simp[step,aJ,aM,h])
def ue(h:∀ c l',l=c::l'->c ∉ cs "123456"):walk (.hue::r) l k=be k:=
 walk_bad (λz=>nomatch z) λc l' q=>by
  have:=λz=>h c l' q (hue_dig.mpr z);simp only[step,aJ,aM];exact if_neg this
def du(j:Nat):SpM:=λds M R RX=>∃ (a:KF) (t:D') (k:Nat) (l:List Nat) (d:Nat),ds=[.ptr a,.int d]/\M=RdM a t k/\At t k l/\d+j=6/\1<=j/\
 (∀ p l',p.Syn->p.depth+d<=5->l=p.tl++l'->∀ v,FormOf p k v->R v (RdM a t (k+p.tl.length)))/\(∀ i:Nat,(∀ r,walk (.pat d::r) l k=be i)->∀ M',RX "WrongSign" [("place",.int i)] M')
variable{R:D->MS->Prop}{ds:List D}{RX:XDM}
def B9:¬ du 0 ds M R RX:=by
 rintro⟨_,_,_,_,_,_,_,_,_,h,_⟩;exact absurd h (by decide)
def uf(j:Nat):SpM:=λds M R RX=>∃ (a:KF) (t:D') (k:Nat) (l:List Nat) (d:Nat),ds=[.ptr a,.int d]/\M=RdM a t k/\At t k l/\d+j=6/\1<=j/\
 (∀ p q l',p.Syn->q.Syn->p.depth+d<=5->q.depth+d<=5->l=p.tl++124::(q.tl++41::l')->∀ u u',FormOf p k u->FormOf q (k+p.tl.length+1) u'->R (.obj "Over" [("above",u),("below",u')]) (RdM a t (k+p.tl.length+1+q.tl.length+1)))/\
 (∀ i:Nat,(∀ r,walk (.pat d:: .sign 124:: .pat d:: .sign 41::r) l k=be i)->∀ M',RX "WrongSign" [("place",.int i)] M')
def uh(j:Nat):SpM:=λds M R RX=>∃ (a:KF) (t:D') (k:Nat) (l:List Nat) (d:Nat),ds=[.ptr a,.int d]/\M=RdM a t k/\At t k l/\d+j=6/\1<=j/\
 (∀ x y p l',B12 x->B12 y->p.Syn->p.depth+d<=5->l=numL x++44::(numL y++58::(p.tl++l'))->∀ u,FormOf p (k+(numL x).length+1+(numL y).length+1) u->R (.obj "Shifted" [("form",u),("x",.int x),("y",.int y)]) (RdM a t (k+(numL x).length+1+(numL y).length+1+p.tl.length)))/\
 (∀ i:Nat,(∀ r,walk (.num:: .sign 44:: .num:: .sign 58:: .pat d::r) l k=be i)->∀ M',RX "WrongSign" [("place",.int i)] M')
def ui(j:Nat):SpM:=λds M R RX=>∃ (a:KF) (t:D') (k:Nat) (l:List Nat) (d:Nat),ds=[.ptr a,.int d]/\M=RdM a t k/\At t k l/\d+j=6/\1<=j/\
 (∀ c e p l',(49<=c/\c<=54)->(49<=e/\e<=54)->p.Syn->p.depth+d<=5->l=c::e::(p.tl++l')->∀ u,FormOf p (k+2) u->R (.obj "Rehue" [("form",u),("old",.int ((c:Int) - 48)),("new",.int ((e:Int) - 48))]) (RdM a t (k+2+p.tl.length)))/\
 (∀ i:Nat,(∀ r,walk (.hue:: .hue:: .pat d::r) l k=be i)->∀ M',RX "WrongSign" [("place",.int i)] M')
def Pat.Area(p:Pat)(N:Int):Prop:=∃ w h s,p.Fam w h s/\w*h<=N
def Pat.Fits.wide(h:p.Fits):p.Area 33554432:=by
 obtain⟨w,k,s,f,b⟩:=h;exact⟨w,k,s,f,by lia⟩
def Pat.Area.small{N:Int}(h:p.Area N){k:Int}(f:p.Fam w k s):0<w/\w<=N/\0<k/\k<=N/\0<=s/\s<w:=by
 obtain⟨w',k',s',f',hb⟩:=h;obtain⟨rfl,rfl,rfl⟩:=f.uniq f';obtain⟨h1,h2⟩:=ci f.f.w0 f.f.h0;exact⟨f.f.w0,by lia,f.f.h0,by lia,f.f.s0,f.f.sw⟩
def Pat.Area.tur{N:Int}(h:p.Area N):(Pat.tur p).Area N:=by
 obtain⟨w,k,s,f,b⟩:=h;obtain⟨w2,h2,s2,g,e⟩:=fS (s:=s) f.f.w0 f.f.h0;exact⟨_,_,_,f.tur g,by lia⟩
def Pat.Cal:Pat->Prop
 | .mot ..=>True
 | .over p q=>p.Cal/\q.Cal/\(p.Wf->q.Wf->p.Area 33554432/\q.Area 33554432)
 | .sh _ _ p=>p.Cal
 | .mir p=>p.Cal
 | .tur p=>p.Cal/\(p.Wf->p.Area 33554432)
 | .hue _ _ p=>p.Cal
def Pat.cls_mem(p:Pat):p.cls∈(["Motif","Over","Shifted","Mirror","Turn","Rehue"]:List D'):=by
 cases p<;>simp[Pat.cls]
def no_look{f g:D'}{v:D}{r:List (D' × D)}(h:(f==g)=false)(hr:r.lookup f=m9):(((g,v)::r:List (D' × D))).lookup f=none:=by
 rw[FI,h];exact hr
def FormOf.objm{v:D}(h:FormOf p k v):∃ fs,v= .obj p.cls fs/\fs.lookup ("family":D')=m9/\fs.lookup ("shows":D')=none:=by
 cases p with
 |mot L a b c d=>obtain⟨sh,hu,rfl,_⟩:=h;exact⟨_,rfl,no_look (by decide+kernel) (no_look (by decide+kernel) (no_look (by decide+kernel) rfl)),no_look (by decide+kernel) (no_look (by decide+kernel) (no_look (by decide+kernel) rfl))⟩
 |over p q=>obtain⟨_,_,rfl,_⟩:=h;exact⟨_,rfl,no_look (by decide+kernel) (no_look (by decide+kernel) rfl),no_look (by decide+kernel) (no_look (by decide+kernel) rfl)⟩
 |sh a b p=>obtain⟨_,rfl,_⟩:=h;exact⟨_,rfl,no_look (by decide+kernel) (no_look (by decide+kernel) (no_look (by decide+kernel) rfl)),no_look (by decide+kernel) (no_look (by decide+kernel) (no_look (by decide+kernel) rfl))⟩
 |mir p=>obtain⟨_,rfl,_⟩:=h;exact⟨_,rfl,no_look (by decide+kernel) rfl,no_look (by decide+kernel) rfl⟩
 |tur p=>obtain⟨_,rfl,_⟩:=h;exact⟨_,rfl,no_look (by decide+kernel) rfl,no_look (by decide+kernel) rfl⟩
 |hue f g p=>obtain⟨_,rfl,_⟩:=h;exact⟨_,rfl,no_look (by decide+kernel) (no_look (by decide+kernel) (no_look (by decide+kernel) rfl)),no_look (by decide+kernel) (no_look (by decide+kernel) (no_look (by decide+kernel) rfl))⟩
variable{hu:List ((Int × Int) × Int)}
def kJ{sh:D}:(moF k sh hu).lookup ("shifts":D')=be sh:=by
 unfold moF;rw[FI,show(("shifts":D')==("place":D'))=false by decide+kernel];rfl
def Ca{sh:D}:(moF k sh hu).lookup ("place":D')=be (.int k):=rfl
def Cb{sh:D}:(moF k sh hu).lookup ("hues":D')=be (.dti hu):=by
 unfold moF;rw[FI,show(("hues":D')==("place":D'))=false by decide+kernel,FI,show(("hues":D')==("shifts":D'))=false by decide+kernel];rfl
def fu{f g:D'}{u v:D}{r:List (D' × D)}(h:(g==f)=false):(((f,u)::(g,v)::r:List (D' × D))).lookup g=be v:=by
 rw[FI,h,FI,beq_self_eq_true]
def kK{e f g:D'}{t u v:D}{r:List (D' × D)}(h1:(g==e)=false)(h2:(g==f)=false):(((e,t)::(f,u)::(g,v)::r:List (D' × D))).lookup g=be v:=by
 rw[FI,h1];exact fu h2
def Pat.Fits.small(h:p.Fits){k:Int}(f:p.Fam w k s):0<w/\w<=720/\0<k/\k<=720/\0<=s/\s<w:=by
 obtain⟨w',k',s',f',hb⟩:=h;obtain⟨rfl,rfl,rfl⟩:=f.uniq f';obtain⟨h1,h2⟩:=ci f.f.w0 f.f.h0;exact⟨f.f.w0,by lia,f.f.h0,by lia,f.f.s0,f.f.sw⟩
def bW(j:Nat)(x:D'):SpX:=λds R RX=>∃ (p:Pat) (k:Nat) (v:D),ds=[v]/\FormOf p k v/\p.Syn/\p.depth<j/\p.cls=x/\p.Cal/\(∀ i:Nat,p.lineAt k=be i->RX "OneLine" [("place",.int i)])/\(p.lineAt k=m9->∀ w h s,p.Fam w h s->R (.tup [.int w,.int h,.int s]))
def fv{x:D'}:¬ ofX (bW 0 x) ds M R RX:=by
 rintro⟨_,_,_,_,_,_,h,_⟩;exact absurd h (Gw _)
def lookD_app(x y v X Y:Int):∀ kv:List ((Int × Int) × Int),lookD (kv++[((x,y),v)]) X Y=match lookD kv X Y with|some u=>be u|none=>if x=X/\y=Y then be v else m9
 |[]=>rfl
 |((a,b),h)::r=>by
  show lookD (((a,b),h)::(r++[((x,y),v)])) X Y=_;unfold lookD;by_cases e:a=X/\b=Y
  .rw[if_pos e,if_pos e]
  .rw[if_neg e,if_neg e];exact lookD_app x y v X Y r
def Cd(kv:List ((Int × Int) × Int))(x y v X Y:Int):lookD (sdD kv x y v) X Y=match lookD kv X Y with|some u=>be u|none=>if x=X/\y=Y then be v else none:=by
 unfold sdD;split
 .rename_i hs;cases e:lookD kv X Y with
  |some u=>rfl
  |none=>
   show m9=_;rw[if_neg];rintro⟨rfl,rfl⟩;rw[e] at hs;cases hs
 .exact lookD_app x y v X Y kv
def look_row(w h s:Int)(j:Nat)(X Y:Int):∀ (x:List Nat) (i:Nat) (kv:List ((Int × Int) × Int)),lookD (hRow w h s j i x kv) X Y=match lookD kv X Y with|some u=>be u|none=>(scanRow (λi=>decide (hmX w h s i j=X/\(j:Int) % h=Y)) i x).map λc=>(c:Int) - 48
 |[],i,kv=>by
  rw[hRow,scanRow];cases lookD kv X Y<;>rfl
 |c::r,i,kv=>by
  rw[hRow,look_row w h s j X Y r (i+1),scanRow];by_cases v3:c=46
  .rw[if_pos v3,if_neg (c:=c≠46/\_) (λz=>z.1 v3)]
  .rw[if_neg v3,Cd];cases lookD kv X Y with
   |some u=>rfl
   |none=>
    by_cases e:hmX w h s i j=X/\(j:Int) % h=Y
    .rw[if_pos (c:=c≠46/\_) ⟨v3,decide_eq_true e⟩];show(match (if hmX w h s i j=X/\(j:Int) % h=Y then be ((c:Int) - 48) else m9) with|some u=>be u|none=>_)=_;rw[if_pos e];rfl
    .rw[if_neg (c:=c≠46/\_) (λz=>e (of_decide_eq_true z.2))];show(match (if hmX w h s i j=X/\(j:Int) % h=Y then be ((c:Int) - 48) else m9) with|some u=>be u|none=>_)=_;rw[if_neg e]
def uj(w h s X Y:Int):∀ (L:List D') (j:Nat) (kv:List ((Int × Int) × Int)),lookD (hAll w h s j (L.map cs) kv) X Y=match lookD kv X Y with|some u=>be u|none=>(bJ (λi j=>decide (hmX w h s i j=X/\j % h=Y)) j L).map λc=>(c:Int) - 48
 |[],j,kv=>by
  rw[Gi,hAll,bJ];cases lookD kv X Y<;>rfl
 |x::r,j,kv=>by
  rw[FB,hAll,uj w h s X Y r (j+1),look_row,bJ];cases lookD kv X Y with
  |some u=>rfl
  |none=>
   show(match (scanRow (λi=>decide (hmX w h s i j=X/\(j:Int) % h=Y)) 0 (cs x)).map (λc=>(c:Int) - 48) with|some u=>be u|none=>_)=_;cases scanRow (λi=>decide (hmX w h s i j=X/\(j:Int) % h=Y)) 0 (cs x)<;>rfl
def Ce(F:FamOf a b c d w h s)(hn:¬ a*d=b*c)(x y i j:Int):decide (hmX w h s i j=hmX w h s x y/\j % h=y % h)=onB a b c d (x - i) (y - j):=by
 have hw:=F.1;have hh:=F.2.1;have key:(hmX w h s i j=hmX w h s x y/\j % h=y % h)↔InF w h s (x - i) (y - j):=by
  unfold hmX;constructor
  .rintro⟨e1,e2⟩;have dy:=GH y h;have dj:=GH j h;have m1:=GH (x - y / h*s) w;have m2:=GH (i - j / h*s) w;refine⟨(x - y / h*s) / w - (i - j / h*s) / w,y / h - j / h,?_,?_⟩
   .rw[Hf,Hf,FK ((x - y / h*s) / w) w,FK ((i - j / h*s) / w) w];lia
   .rw[Hf,FK (y / h) h,FK (j / h) h];lia
  .rintro⟨m,q,ex,ey⟩;have QA:y=j+q*h:=by lia
   have Kq:x=i+(m*w+q*s):=by lia
   subst Kq QA;rw[Iu,Int.add_mul_ediv_right _ _ (by lia)];refine⟨?_,rfl⟩;have e:i+(m*w+q*s) - (j / h+q)*s=i - j / h*s+m*w:=by rw[Hg];lia
   rw[e,Iu]
 unfold onB;congr 1;apply propext;rw[key,F.lat];constructor
 .rintro⟨m,q,eu,ev⟩;exact sV eu ev
 .exact λz=>tJ hn z
def Cf{c:Nat}(h:49<=c/\c<=54):cell [0,1,2,3,4,5,6] ((c:Int) - 48)=(c:Int) - 48:=by
 rcases(by lia:c=49\/c=50\/c=51\/c=52\/c=53\/c=54) with e|e|e|e|e|e<;>subst e<;>rfl
def motif_shows(hL:Rows L)(F:FamOf a b c d w h s)(hn:¬ a*d=b*c)(x y:Int):(lookD (hAll w h s 0 (L.map cs) []) (hmX w h s x y) (y % h)).getD 0=(bo L a b c d).shows x y:=by
 rw[uj];show((bJ (λi j=>decide (hmX w h s i j=hmX w h s x y/\j % h=y % h)) 0 L).map λc=>(c:Int) - 48).getD 0=_;have e:(λi j=>decide (hmX w h s i j=hmX w h s x y/\j % h=y % h))=λi j=>onB a b c d (1*x+0*y+0 - i) (0*x+1*y+0 - j):=by
  funext i j;rw[Ce F hn];congr 1<;>lia
 rw[e];show _=match bJ (λi j=>onB a b c d (1*x+0*y+0 - i) (0*x+1*y+0 - j)) 0 L with|some c=>cell [0,1,2,3,4,5,6] ((c:Int) - 48)|none=>0
 cases q:bJ (λi j=>onB a b c d (1*x+0*y+0 - i) (0*x+1*y+0 - j)) 0 L with
 |none=>rfl
 |some c=>
  have hc:49<=c/\c<=54:=kB (λl' q=>let ⟨_,_,_,h⟩:=hL;(h l' q).2) q;exact(Cf hc).symm
def bX(j:Nat)(x:D'):SpX:=λds R RX=>∃ (p:Pat) (k:Nat) (v:D) (X Y:Int),ds=[v,.int X,.int Y]/\FormOf p k v/\p.Wf/\p.depth<j/\p.cls=x/\R (.int (p.show X Y))
def fz{x:D'}:¬ ofX (bX 0 x) ds M R RX:=by
 rintro⟨_,_,_,_,_,_,_,_,h,_⟩;exact absurd h (Gw _)
structure PatOf(p:Pat)(w h s:Int)(fs:List (Str × D)):Prop extends Pat.Fam p w h s where
 form:∃ k v,fs.lookup ("form":D')=be v/\FormOf p k v
def aZ(p:Pat)(d:D):Prop:=∃ w h s fs,d= .obj "Pattern" fs/\fs.lookup ("text":D')=be (.str p.text)/\fs.lookup ("shifts":D')=be (.tup [.int w,.int h,.int s])/\PatOf p w h s fs
def bu(x:Int):Prop:=-1000000000000<=x/\x<=1000000000000
def Pat.show_le(h:p.Wf)(hd:p.depth<=40)(x y:Int):0<=p.show x y/\p.show x y<=6:=by
 rw[<- Pat.show_leaves h hd];exact tD x y (Pat.leaf_ok h hd)
def bO(h:Int):Nat:=if h=0 then 46 else(48+h).toNat
def aI(p:Pat)(x y:Int)(n:Nat):Str:=⟨((Ft n).map λ(k:Nat)=>bO (p.show (x+(k:Int)) y)).toArray⟩
def uk(p:Pat)(x y:Int)(n:Nat):(aI p x y n).length=n:=by simp[aI,Str.length]
def ul(h0:0<=h)(h6:h<=6):atI (cs ".123456") h=be (bO h):=by
 rcases(by lia:h=0\/h=1\/h=2\/h=3\/h=4\/h=5\/h=6) with e|e|e|e|e|e|e<;>subst e<;>decide+kernel
def range2_int{x:D}(h:((Ft (j - i).toNat).map λk=>D.int (i+((k:Nat):Int)))[k]?=be x):k<(j - i).toNat/\x= .int (i+(k:Int)):=by
 have hk:k<(j - i).toNat:=by simpa using(FG.mp h).1
 refine⟨hk,?_⟩;simp[hk] at h;exact h.symm
def Pat.Fits.over_parts(hp:p.Wf)(hq:q.Wf)(h:(Pat.over p q).Fits):p.Fits/\q.Fits:=by
 obtain⟨w,k,s,f,hb⟩:=h;obtain⟨w1,k1,s1,f1⟩:=Pat.fam_ex hp;obtain⟨w2,k2,s2,f2⟩:=Pat.fam_ex hq;have l1:=(InF.le f1.f.w0 f1.f.h0 f.f.w0 f.f.h0 (λx y z=>(f1.lat x y).mpr ((f.lat x y).mp z).1)).1;have l2:=(InF.le f2.f.w0 f2.f.h0 f.f.w0 f.f.h0 (λx y z=>(f2.lat x y).mpr ((f.lat x y).mp z).2)).1;exact⟨⟨w1,k1,s1,f1,by lia⟩,⟨w2,k2,s2,f2,by lia⟩⟩
def Pat.Fits.of_sh(h:(Pat.sh a b p).Fits):p.Fits:=by
 obtain⟨w,k,s,f,hb⟩:=h;exact⟨w,k,s,⟨f.f,f.lat⟩,hb⟩
def Pat.Fits.of_hue(h:(Pat.hue a b p).Fits):p.Fits:=by
 obtain⟨w,k,s,f,hb⟩:=h;exact⟨w,k,s,⟨f.f,f.lat⟩,hb⟩
def Pat.Fits.of_mir(hp:p.Wf)(h:(Pat.mir p).Fits):p.Fits:=by
 obtain⟨w,k,s,f,hb⟩:=h;obtain⟨w1,k1,s1,f1⟩:=Pat.fam_ex hp;obtain⟨rfl,rfl,_⟩:=f.uniq f1.mir;exact⟨_,_,_,f1,hb⟩
def Pat.Fits.of_tur(hp:p.Wf)(h:(Pat.tur p).Fits):p.Fits:=by
 obtain⟨w,k,s,f,hb⟩:=h;obtain⟨w1,k1,s1,f1⟩:=Pat.fam_ex hp;obtain⟨w',k',s',f',e⟩:=fS (s:=s1) f1.f.w0 f1.f.h0;obtain⟨rfl,rfl,_⟩:=f.uniq (f1.tur f');exact⟨_,_,_,f1,by lia⟩
def Pat.cal_of:∀ {p:Pat},p.Wf->p.Fits->p.Cal
 | .mot ..,_,_=>trivial
 | .over p q,h,f=>by
  obtain⟨f1,f2⟩:=Pat.Fits.over_parts h.1 h.2 f;exact⟨Pat.cal_of h.1 f1,Pat.cal_of h.2 f2,λ_ _=>⟨f1.wide,f2.wide⟩⟩
 | .sh a b p,h,f=>Pat.cal_of (p:=p) h.2.2 f.of_sh
 | .mir p,h,f=>Pat.cal_of (p:=p) h (f.of_mir h)
 | .tur p,h,f=>⟨Pat.cal_of (p:=p) h (f.of_tur h),λ_=>Pat.Fits.wide (p:=p) (f.of_tur h)⟩
 | .hue a b p,h,f=>Pat.cal_of (p:=p) h.2.2 f.of_hue
def Pat.cal_w:∀ {p:Pat} {w h s:Int},p.Wf->p.Cal->p.Fam w h s->w<=1125899906842624
 | .mot L a b c d,w,h,s,e_,_,f=>by
  have:=(Pat.fits_mot (L:=L) e_.2.1 e_.2.2.1 e_.2.2.2.1 e_.2.2.2.2.1 e_.2.2.2.2.2).small f;lia
 | .over p q,w,h,s,e_,hc,f=>by
  obtain⟨f1,f2⟩:=hc.2.2 e_.1 e_.2;obtain⟨w1,k1,s1,g1⟩:=Pat.fam_ex e_.1;obtain⟨w2,k2,s2,g2⟩:=Pat.fam_ex e_.2;have a1:=f1.small g1;have a2:=f2.small g2;have p8:InF w h s (w1*w2) 0:=(f.lat _ _).mpr ⟨(g1.lat _ _).mp ⟨w2,0,by rw[FK];lia,by lia⟩,(g2.lat _ _).mp ⟨w1,0,by lia,by lia⟩⟩;obtain⟨i,j,e1,e2⟩:=p8;have hj:j=0:=by
   rcases GT.mp e2.symm with z|z
   .exact z
   .have:=f.f.h0;lia
  subst hj;have hp:0<w1*w2:=FE a1.1 a2.1;have e3:w1*w2=i*w:=by lia
  have hi:0<i:=by
   have:=f.f.w0;rcases(by lia:i<=0\/0<i) with z|z
   .have:=Gm z (show 0<=w by lia);lia
   .exact z
  have h1:=FH (show 1<=i by lia) (show 0<=w by have:=f.f.w0;lia);have h2:=bA (a:=w1) (d:=w2) (A:=33554432) (B:=33554432) (by lia) (by lia);lia
 | .sh a b p,w,h,s,e_,hc,f=>Pat.cal_w (p:=p) e_.2.2 hc ⟨f.f,f.lat⟩
 | .mir p,w,h,s,e_,hc,f=>by
  obtain⟨w1,k1,s1,f1⟩:=Pat.fam_ex (p:=p) e_;obtain⟨rfl,_,_⟩:=f.uniq f1.mir;exact Pat.cal_w (p:=p) e_ hc f1
 | .tur p,w,h,s,e_,hc,f=>by
  have:=(hc.2 e_).tur.small f;lia
 | .hue a b p,w,h,s,e_,hc,f=>Pat.cal_w (p:=p) e_.2.2 hc ⟨f.f,f.lat⟩
def um:∀ L:List D',cs (Str.join "" L)=L.flatMap cs
 |[]=>rfl
 |[x]=>by simp[Str.join]
 |x::y::r=>by
  show cs (x++""++Str.join "" (y::r))=_;rw[bv,bv,um (y::r),tw];simp
def uo(f:Nat->Nat)(n:Nat):Str.join "" ((Ft n).map λi=>(⟨#[f i]⟩:D'))=⟨((Ft n).map f).toArray⟩:=by
 apply fj;rw[um,List.flatMap_map];show(Ft n).flatMap (λi=>[f i])=(Ft n).map f;rw[List.map_eq_flatMap]
def cU{e:Nat}:∀ {a b x y:List Nat},e ∉ a->e ∉ b->a++e::x=b++e::y->a=b/\x=y
 |[],[],x,y,_,_,h=>by cases h;exact⟨rfl,rfl⟩
 |[],c::b,x,y,_,hb,h=>by
  cases h;exact absurd Fv hb
 |c::a,[],x,y,ha,_,h=>by
  cases h;exact absurd Fv ha
 |c::a,d::b,x,y,ha,hb,h=>by
  have h':c::(a++e::x)=d::(b++e::y):=h;injection h' with h1 h2;obtain⟨e1,e2⟩:=cU (λz=>ha (Fu _ z)) (λz=>hb (Fu _ z)) h2;exact⟨by rw[h1,e1],e2⟩
def fA(ha:B12 a)(hb:B12 b)(h:numL a=numL b):a=b:=by
 have h1:=kF ha;rw[h,kF hb] at h1;exact(Option.some.inj h1).symm
def Cg(ha:B12 a):∀ c∈numL a,c=45\/(48<=c/\c<=57):=by
 rcases numL_is ha with⟨c,hc,e⟩|⟨c,hc,e⟩|⟨c,hc,e⟩|⟨c,hc,e⟩<;>rw[e]<;>simp<;>lia
def cr(ha:B12 a){e:Nat}(he:endS e):e ∉ numL a:=λz=>by
 have:=Cg ha e z;unfold endS at he;lia
def rowsL_chars:∀ {L:List (List Nat)},(∀ x∈L,∀ c∈x,aF c)->∀ c∈rowsL L,aF c\/c=47
 |[],_,c,h=>by cases h
 |[x],hx,c,h=> .inl (hx x Fv c h)
 |x::y::L,hx,c,h=>by
  have h':c∈x++47::rowsL (y::L):=h;rcases FO.mp h' with z|z
  .exact .inl (hx x Fv c z)
  .rcases Fp.mp z with z|z
   .exact .inr z
   .exact rowsL_chars (λx q=>hx x (Fu _ q)) c z
def fT{c:Nat}(h:aF c):c≠47/\c≠59:=by unfold aF at h;lia
def uq:∀ {L M:List (List Nat)},L≠[]->M≠[]->(∀ x∈L,∀ c∈x,aF c)->(∀ x∈M,∀ c∈x,aF c)->rowsL L=rowsL M->L=M
 |[],_,h,_,_,_,_=>absurd rfl h
 |_,[],_,h,_,_,_=>absurd rfl h
 |[x],[y],_,_,_,_,h=>by rw[show x=y from h]
 |[x],y::z::M,_,_,hx,_,h=>by
  have h':x=y++47::rowsL (z::M):=h;have:(47:Nat)∈x:=by rw[h'];simp
  exact absurd rfl (fT (hx x Fv 47 this)).1
 |x::z::L,[y],_,_,_,hy,h=>by
  have h':x++47::rowsL (z::L)=y:=h;have:(47:Nat)∈y:=by rw[<- h'];simp
  exact absurd rfl (fT (hy y Fv 47 this)).1
 |x::z::L,y::z'::M,_,_,hx,hy,h=>by
  have h':x++47::rowsL (z::L)=y++47::rowsL (z'::M):=h;obtain⟨e1,e2⟩:=cU (λq=>(fT (hx x Fv 47 q)).1 rfl) (λq=>(fT (hy y Fv 47 q)).1 rfl) h';rw[e1,uq (L:=z::L) (M:=z'::M) (λq=>nomatch q) (λq=>nomatch q) (λx q=>hx x (Fu _ q)) (λx q=>hy x (Fu _ q)) e2]
def ut:∀ {L M:List D'},L.map cs=M.map cs->L=M
 |[],[],_=>rfl
 |[],_::_,h=>by cases h
 |_::_,[],h=>by cases h
 |x::L,y::M,h=>by
  rw[FB,FB] at h;injection h with h1 h2;rw[fj h1,ut h2]
def Ch{L':List D'}{a' b' c' d':Int}{x y:List Nat}(h:(Pat.mot L a b c d).Syn)(h':(Pat.mot L' a' b' c' d').Syn)(e:(Pat.mot L a b c d).tl++x=(Pat.mot L' a' b' c' d').tl++y):Pat.mot L a b c d=Pat.mot L' a' b' c' d'/\x=y:=by
 have e0:91::(rowsL (L.map cs)++59::(numL a++44::(numL b++59::(numL c++44::(numL d++93::x)))))=91::(rowsL (L'.map cs)++59::(numL a'++44::(numL b'++59::(numL c'++44::(numL d'++93::y))))):=by
  simpa[Pat.tl,motL] using e
 injection e0 with _ e1;have sg:∀ {L:List D'},Rows L->∀ x∈L.map cs,∀ c∈x,aF c:=λ{L} hL x hx=>by
  obtain⟨l,hl,rfl⟩:=FP.mp hx;obtain⟨_,w,_,q⟩:=hL;exact(q l hl).2
 have O6:∀ {L:List D'},Rows L->(59:Nat) ∉ rowsL (L.map cs):=λ{L} hL z=>by
  rcases rowsL_chars (sg hL) 59 z with q|q
  .exact(fT q).2 rfl
  .cases q
 have ne:∀ {L:List D'},Rows L->L.map cs≠[]:=λ{L} hL z=>by
  have h1:=hL.many.1;have h2:=congrArg Gu z;rw[Fs] at h2;simp at h2;rw[h2] at h1;simp at h1
 obtain⟨q1,e2⟩:=cU (O6 h.1) (O6 h'.1) e1;obtain⟨q2,e3⟩:=cU (cr h.2.1 (.inl rfl)) (cr h'.2.1 (.inl rfl)) e2;obtain⟨q3,e4⟩:=cU (cr h.2.2.1 (.inr (.inl rfl))) (cr h'.2.2.1 (.inr (.inl rfl))) e3;obtain⟨q4,e5⟩:=cU (cr h.2.2.2.1 (.inl rfl)) (cr h'.2.2.2.1 (.inl rfl)) e4;obtain⟨q5,e6⟩:=cU (cr h.2.2.2.2 (.inr (.inr (.inr rfl)))) (cr h'.2.2.2.2 (.inr (.inr (.inr rfl)))) e5;rw[ut (uq (ne h.1) (ne h'.1) (sg h.1) (sg h'.1) q1),fA h.2.1 h'.2.1 q2,fA h.2.2.1 h'.2.2.1 q3,fA h.2.2.2.1 h'.2.2.2.1 q4,fA h.2.2.2.2 h'.2.2.2.2 q5];exact⟨rfl,e6⟩
def Pat.head:Pat->Nat
 | .mot ..=>91| .over ..=>40| .sh ..=>115| .mir ..=>109| .tur ..=>116| .hue ..=>104
def Pat.tl_head(p:Pat):∃ l,p.tl=p.head::l:=by cases p<;>exact⟨_,rfl⟩
def dS{x y:List Nat}(e:p.tl++x=q.tl++y):p.head=q.head:=by
 obtain⟨l1,e1⟩:=p.tl_head;obtain⟨l2,e2⟩:=q.tl_head;rw[e1,e2] at e;have e':p.head::(l1++x)=q.head::(l2++y):=e;injection e'
def uu(h:1<=f/\f<=6)(h':1<=g/\g<=6)(e:(48+f).toNat=(48+g).toNat):f=g:=by lia
def Ci{x y:List Nat}(hp:p.Syn)(hq:q.Syn)(e:p.tl++x=q.tl++y):p=q/\x=y:=by
 have hh:=dS e;induction p generalizing q x y with
 |mot=>
  cases q with
  |mot=>exact Ch hp hq e
  |_=>simp[Pat.head] at hh
 |over p q i1 i2=>
  cases q with
  |over p' q'=>
   have e0:40::(p.tl++124::(q.tl++41::x))=40::(p'.tl++124::(q'.tl++41::y)):=by simpa[Pat.tl] using e
   injection e0 with _ e1;obtain⟨rfl,e2⟩:=i1 hp.1 hq.1 e1 (dS e1);injection e2 with _ e3;obtain⟨rfl,e4⟩:=i2 hp.2 hq.2 e3 (dS e3);injection e4 with _ e5;exact⟨rfl,e5⟩
  |_=>simp[Pat.head] at hh
 |sh a b p i=>
  cases q with
  |sh a' b' p'=>
   have e0:115::(numL a++44::(numL b++58::(p.tl++x)))=115::(numL a'++44::(numL b'++58::(p'.tl++y))):=by simpa[Pat.tl] using e
   injection e0 with _ e1;obtain⟨q2,e3⟩:=cU (cr hp.1 (.inl rfl)) (cr hq.1 (.inl rfl)) e1;obtain⟨q3,e4⟩:=cU (cr hp.2.1 (.inr (.inr (.inl rfl)))) (cr hq.2.1 (.inr (.inr (.inl rfl)))) e3;obtain⟨rfl,e5⟩:=i hp.2.2 hq.2.2 e4 (dS e4);rw[fA hp.1 hq.1 q2,fA hp.2.1 hq.2.1 q3];exact⟨rfl,e5⟩
  |_=>simp[Pat.head] at hh
 |mir p i=>
  cases q with
  |mir p'=>
   have e0:109::(p.tl++x)=109::(p'.tl++y):=e;injection e0 with _ e1;obtain⟨rfl,e5⟩:=i (q:=p') hp hq e1 (dS e1);exact⟨rfl,e5⟩
  |_=>simp[Pat.head] at hh
 |tur p i=>
  cases q with
  |tur p'=>
   have e0:116::(p.tl++x)=116::(p'.tl++y):=e;injection e0 with _ e1;obtain⟨rfl,e5⟩:=i (q:=p') hp hq e1 (dS e1);exact⟨rfl,e5⟩
  |_=>simp[Pat.head] at hh
 |hue f g p i=>
  cases q with
  |hue f' g' p'=>
   have e0:104::(numL f++(numL g++(p.tl++x)))=104::(numL f'++(numL g'++(p'.tl++y))):=by simpa[Pat.tl] using e
   rw[hueL hp.1,hueL hp.2.1,hueL hq.1,hueL hq.2.1] at e0;have e1:104::(48+f).toNat::(48+g).toNat::(p.tl++x)=104::(48+f').toNat::(48+g').toNat::(p'.tl++y):=e0;injection e1 with _ e2;injection e2 with e3 e4;injection e4 with e5 e6;obtain⟨rfl,e7⟩:=i hp.2.2 hq.2.2 e6 (dS e6);rw[uu hp.1 hq.1 e3,uu hp.2.1 hq.2.1 e5];exact⟨rfl,e7⟩
  |_=>simp[Pat.head] at hh
def Cj:SiD:=λds R=>∃ (t:D') (w h s:Int) (x:D') (fs:List (D' × D)),ds=[.str t,.tup [.int w,.int h,.int s],.obj x fs]/\R [("text",.str t),("shifts",.tup [.int w,.int h,.int s]),("form",.obj x fs)]
def Ck:SiD:=λds R=>∃ i:Int,ds=[.int i]/\R [("place",.int i)]
def Cl:SiD:=λds R=>∃ i:Int,ds=[.int i]/\R [("place",.int i)]
def uv:SpX:=λds R RX=>(∃ (t:D') (k:Nat),ds=[.str t]/\t.length<=100000/\df t=be k/\RX "WrongSign" [("place",.int k)])\/
 ∃ p:Pat,ds=[.str p.text]/\p.Syn/\p.depth<=5/\p.Cal/\(∀ k:Nat,p.lineAt 0=be k->RX "OneLine" [("place",.int k)])/\(p.lineAt 0=m9->¬ p.Fits->RX "TooGreat" [])/\(p.lineAt 0=m9->p.Fits->∀ d,aZ p d->R d)
def uw{R:D->Prop}(ok:p.Ok)(h:∀ d,aZ p d->R d):sj uv [.str p.text] R:=
 .inr ⟨p,rfl,ok.wf.syn,ok.deep,Pat.cal_of ok.wf ok.fits,(λk e=>by rw[Pat.wf_line 0 ok.wf] at e;cases e),λ_ z=>z ok.fits,λ_ _=>h⟩
def Cm:SpX:=λds R RX=>∃ x y:Int,ds=[.int x,.int y]/\(bu x/\bu y->R .non)/\(¬ (bu x/\bu y)->RX "TooFar" [])
def Cn:SpX:=λds R RX=>∃ (p:Pat) (d:D) (x y:Int),ds=[d,.int x,.int y]/\aZ p d/\p.Ok/\(bu x/\bu y->R (.int (p.show x y)))/\(¬ (bu x/\bu y)->RX "TooFar" [])
def Co:SpD:=λds R=>∃ (p:Pat) (d:D) (x y:Int) (n:Nat),ds=[d,.int x,.int y,.int n]/\aZ p d/\p.Ok/\n<=1000/\bu x/\bu (x+n - 1)/\bu y/\R (.str (aI p x y n))
def Cp{n:Int}:x.fmod n=0↔n∣x:=⟨Int.dvd_of_fmod_eq_zero,Hz⟩
def Cq(a b c d u v i j:Int):onB a b c d (u+(i*a+j*c)) (v+(i*b+j*d))=onB a b c d u v:=by
 unfold onB;have e1:(u+(i*a+j*c))*d - (v+(i*b+j*d))*c=(u*d - v*c)+(a*d - b*c)*i:=by grind
 have e2:a*(v+(i*b+j*d)) - b*(u+(i*a+j*c))=(a*v - b*u)+(a*d - b*c)*j:=by grind
 rw[e1,e2];simp only[Cp];have h1:(a*d - b*c∣u*d - v*c+(a*d - b*c)*i)↔a*d - b*c∣u*d - v*c:=Iv (Iw _ _);have h2:(a*d - b*c∣a*v - b*u+(a*d - b*c)*j)↔a*d - b*c∣a*v - b*u:=Iv (Iw _ _);simp only[h1,h2]
def Pat.Keeps(p:Pat)(X Y:Int):Prop:=∀ x y,p.show (x+X) (y+Y)=p.show x y
def Pat.lat_keeps:∀ {p:Pat} {X Y:Int},p.Lat X Y->p.Keeps X Y
 | .mot L a b c d,_,_,⟨i,j,rfl,rfl⟩,x,y=>by
  have e:∀ u v:Int,onB a b c d (1*(x+(i*a+j*c))+0*(y+(i*b+j*d))+0 - u) (0*(x+(i*a+j*c))+1*(y+(i*b+j*d))+0 - v)=onB a b c d (1*x+0*y+0 - u) (0*x+1*y+0 - v):=λu v=>by
   rw[<- Cq a b c d (1*x+0*y+0 - u) (0*x+1*y+0 - v) i j];congr 1<;>lia
  show Leaf.shows _ _ _=Leaf.shows _ _ _;unfold Leaf.shows Leaf.hit;simp only[bo,e]
 | .over p q,X,Y,h,x,y=>by
  simp only[Pat.show];rw[Pat.lat_keeps h.1 x y,Pat.lat_keeps h.2 x y]
 | .sh a b p,X,Y,h,x,y=>by
  have:=Pat.lat_keeps (p:=p) h (x - a) (y - b);simp only[Pat.show];rw[<- this];congr 1<;>lia
 | .mir p,X,Y,h,x,y=>by
  have:=Pat.lat_keeps (p:=p) h (-x) y;simp only[Pat.show];rw[<- this];congr 1;lia
 | .tur p,X,Y,h,x,y=>by
  have:=Pat.lat_keeps (p:=p) h y (-x);simp only[Pat.show];rw[<- this];congr 1;lia
 | .hue f g p,X,Y,h,x,y=>by
  simp only[Pat.show];rw[Pat.lat_keeps (p:=p) h x y]
namespace Pat.Keeps
variable {p:Pat}{X Y U V:Int}
def zero:p.Keeps 0 0:=λx y=>by rw[Hi,Hi]
def add(h:p.Keeps X Y)(k:p.Keeps U V):p.Keeps (X+U) (Y+V):=λx y=>by
 rw[<- Ix,<- Ix,k,h]
def neg(h:p.Keeps X Y):p.Keeps (-X) (-Y):=λx y=>by
 have:=h (x+-X) (y+-Y);rw[<- this];congr 1<;>lia
def sub(h:p.Keeps X Y)(k:p.Keeps U V):p.Keeps (X - U) (Y - V):=by
 have:=h.add k.neg;rwa [<- Iy,<- Iy] at this
def nat(h:p.Keeps X Y):∀ n:Nat,p.Keeps ((n:Int)*X) ((n:Int)*Y)
 |0=>by simpa using zero
 |n+1=>by
  have:=(nat h n).add h;have e:∀ z:Int,((n+1:Nat):Int)*z=(n:Int)*z+z:=λz=>by rw[Iz,Hg];simp
  rw[e,e];exact this
def mul(h:p.Keeps X Y)(n:Int):p.Keeps (n*X) (n*Y):=by
 rcases Ie 0 n with q|q
 .have:=h.nat n.toNat;rwa [F5 q] at this
 .have:=(h.nat (-n).toNat).neg;rw[F5 (by lia)] at this;simpa[Gy] using this
end Pat.Keeps
def InF.keeps(a:p.Keeps w 0)(b:p.Keeps s h)(q:InF w h s x y):p.Keeps x y:=by
 obtain⟨i,j,rfl,rfl⟩:=q;have:=(a.mul i).add (b.mul j);rwa [Hj,HG] at this
def InF.one(w h s:Int):InF w h s w 0:=⟨1,0,by lia,by lia⟩
def InF.two(w h s:Int):InF w h s s h:=⟨0,1,by lia,by lia⟩
def Pat.Fam.keeps(f:p.Fam w h s)(q:InF w h s x y):p.Keeps x y:=Pat.lat_keeps ((f.lat x y).mp q)
structure Pat.Least(p:Pat)(w h s:Int):Prop where
 f:Fam0 w h s
 lat:∀ x y,InF w h s x y↔p.Keeps x y
def Pat.Least.uniq(a:p.Least w h s)(b:p.Least w' h' s'):w=w'/\h=h'/\s=s':=
 InF.uniq a.f.w0 a.f.h0 a.f.s0 a.f.sw b.f.w0 b.f.h0 b.f.s0 b.f.sw λx y=>(a.lat x y).trans (b.lat x y).symm
def Cr{P:Nat->Prop}(h:∃ n,P n):∃ n,P n/\∀ m,P m->n<=m:=by
 obtain⟨n,hn⟩:=h;induction n using Nat.strongRecOn with
 |ind n ih=>
  by_cases q:∃ m,m<n/\P m
  .obtain⟨m,hm,pm⟩:=q;exact ih m hm pm
  .exact⟨n,hn,λm pm=>G3 λz=>q ⟨m,z,pm⟩⟩
def ux(hw:0<w)(h:P w):∃ n:Int,0<n/\P n/\∀ m,0<m->P m->n<=m:=by
 obtain⟨n,⟨a,b⟩,c⟩:=Cr (P:=λn=>0<n/\P (n:Int)) ⟨w.toNat,by lia,by rw[F5 (by lia)];exact h⟩;exact⟨n,by lia,b,λm hm pm=>by have:=c m.toNat ⟨by lia,by rw[F5 (by lia)];exact pm⟩;lia⟩
def uy{n:Int}(hn:0<n)(pn:P n)(l:∀ m,0<m->P m->n<=m)(cl:∀ x q,P x->P (x - q*n))(hx:P x):n∣x:=by
 have e:=F6 x n;have a:=FU x (by lia:n≠0);have b:=FV x hn;have c:=cl x (x / n) hx;have d:x - x / n*n=x % n:=by rw[e,FK]
 rw[d] at c;by_cases z:x % n=0
 .exact Int.dvd_of_emod_eq_zero z
 .have:=l _ (by lia) c;lia
def Pat.least_ex(F:p.Fam w h s):∃ w' h' s',p.Least w' h' s'/\w'∣w/\h'∣h/\w'*h'<=w*h/\w'<=w/\h'<=h:=by
 obtain⟨m,m0,mk,ml⟩:=ux (P:=λx=>p.Keeps x 0) F.f.w0 (F.keeps (InF.one w h s));have md:∀ {x},p.Keeps x 0->m∣x:=λ{x} q=>uy (P:=λx=>p.Keeps x 0) m0 mk ml (λx q hx=>by
  have:=hx.sub (mk.mul q);rwa [Hj,Hc] at this) q
 obtain⟨k,k0,⟨t,kk⟩,kl⟩:=ux (P:=λy=>∃ x,p.Keeps x y) F.f.h0 ⟨s,F.keeps (InF.two w h s)⟩;have kd:∀ {x y},p.Keeps x y->k∣y:=λ{x y} q=>uy (P:=λy=>∃ x,p.Keeps x y) k0 ⟨t,kk⟩ kl (λy q ⟨x,hx⟩=>⟨x - q*t,hx.sub (kk.mul q)⟩) ⟨x,q⟩;have e:=F6 t m;have sk:p.Keeps (t % m) k:=by
  have:=kk.sub (mk.mul (t / m));rw[Hj,Hc] at this;rw[e,FK];exact this
 have L:p.Least m k (t % m):=by
  refine⟨⟨m0,k0,FU t (by lia),FV t m0⟩,λx y=>⟨λq=>q.keeps mk sk,λq=>?_⟩⟩;obtain⟨j,rfl⟩:=kd q;have:=q.sub (sk.mul j);rw[FK k j,Im] at this;obtain⟨i,hi⟩:=md this;exact⟨i,j,by rw[FK i m,<- hi];lia,FK _ _⟩
 obtain⟨a,b,c⟩:=InF.le m0 k0 F.f.w0 F.f.h0 (λx y q=>(L.lat x y).mpr (F.keeps q));exact⟨m,k,_,L,md (F.keeps (InF.one w h s)),kd (F.keeps (InF.two w h s)),a,b,c⟩
def uz(hw:0<w)(hh:0<h)(x y:Int):InF w h s (x - hmX w h s x y) (y - y % h):=by
 have e1:=F6 y h;have e2:=F6 (x - y / h*s) w;refine⟨(x - y / h*s) / w,y / h,?_,by rw[e1,FK];lia⟩;unfold hmX;rw[e2,FK w];lia
def Pat.show_home(hw:0<w)(hh:0<h)(k:∀ x y,InF w h s x y->p.Keeps x y)(x y:Int):p.show (hmX w h s x y) (y % h)=p.show x y:=by
 have:=k _ _ (uz (s:=s) hw hh x y) (hmX w h s x y) (y % h);rw[<- this];congr 1<;>lia
def Cs(f:Nat->Nat){w c:Nat}(h:c<w):((Ft w).map f).drop c++((Ft w).map f).take c=(Ft w).map λk=>f ((c+k) % w):=by
 apply G6;intro i;by_cases h1:i<w - c
 .rw[F8 (by simp;exact h1),List.getElem?_drop,FF,FF,GI (by lia),GI (by lia)];simp[IA (show c+i<w by lia)]
 .rw[Gh (by simp;lia)];simp only[GB,Fs,HH];by_cases h2:i<w
  .rw[HN (by lia),FF,FF,GI (by lia),GI (by lia)];have e:(c+i) % w=i - (w - c):=by
    rw[show c+i=(i - (w - c))+w by lia,Nat.add_mod_right,IA (by lia)]
   simp[e]
  .rw[Gn (by simp;lia),Gn (by simp;lia)]
def ib(l:List Nat):cs (⟨l.toArray⟩:D')=l:=by simp
def Ct(ht:cs t=l)(c0:0<=c)(cl:c<l.length):Txt.slice t (be c) m9++Txt.slice t m9 (be c)=(⟨(l.drop c.toNat++l.take c.toNat).toArray⟩:D'):=by
 have hl:t.length=l.length:=by rw[<- ht,bp]
 apply fj;rw[bv,slice_cps,slice_cps,ib,ib,ib,show t.cps.toList=l from ht,hl];have e1:HT.sIx l.length 0 (be c)=c.toNat:=by show(if c<0 then _ else min c.toNat l.length)=_;rw[if_neg (by lia)];lia
 have e2:HT.sIx l.length l.length m9=l.length:=rfl;have e3:HT.sIx l.length 0 m9=0:=rfl;have e4:HT.sIx l.length l.length (be c)=c.toNat:=by show(if c<0 then _ else min c.toNat l.length)=_;rw[if_neg (by lia)];lia
 rw[e1,e2,e3,e4,IB,Hw (by simp)];rfl
def dU(p:Pat)(x y:Int)(n:Nat):cs (aI p x y n)=(Ft n).map λ(k:Nat)=>bO (p.show (x+(k:Int)) y):=ib _
def va(hw:0<w)(hh:0<h)(k:∀ x y,InF w h s x y->p.Keeps x y)(x y:Int):
  Txt.slice (aI p 0 (y % h) w.toNat) (be (hmX w h s x y)) m9++Txt.slice (aI p 0 (y % h) w.toNat) m9 (be (hmX w h s x y))=aI p x y w.toNat:=by
 have c0:0<=hmX w h s x y:=FU _ (by lia);have c1:hmX w h s x y<w:=FV _ hw;rw[Ct (dU p 0 (y % h) w.toNat) c0 (by simp;lia),Cs _ (by lia)];unfold aI;congr 2;apply Hv;intro i _;have e:=Pat.show_home hw hh k (x+(i:Int)) y;rw[<- e];congr 2;have q:hmX w h s (x+(i:Int)) y=(hmX w h s x y+i) % w:=by
  unfold hmX;rw[Int.emod_add_emod];congr 1;lia
 rw[q,HG,Int.natCast_emod,Iz,F5 c0,F5 (by lia)]
def bP(p:Pat)(w h:Int):D:= .lst ((Ft h.toNat).map λ(y:Nat)=>D.str (aI p 0 (y:Int) w.toNat))
def Cu:SpD:=λds R=>∃ (p:Pat) (d:D),ds=[d]/\aZ p d/\p.Ok/\∀ w h s,p.Fam w h s->w*h<=720->w<=720->h<=720->R (bP p w h)
def Cw:SpD:=λds R=>∃ (p:Pat) (w h s x y:Int),ds=[.tup [.int w,.int h,.int s],bP p w h,.int x,.int y]/\p.Fam w h s/\w<=720/\h<=720/\R (.str (aI p x y w.toNat))
def Cy(a0:0<=a)(a6:a<=6)(b0:0<=b)(b6:b<=6)(e:bO a=bO b):a=b:=by
 unfold bO at e;split at e<;>split at e<;>lia
def Cz(hp:p.Ok)(hq:q.Ok)(e:aI p x y n=aI q u v n)(hk:k<n):p.show (x+k) y=q.show (u+k) v:=by
 have e2:cs (aI p x y n)=cs (aI q u v n):=by rw[e]
 rw[dU,dU] at e2;have e3:=congrArg (λl=>l[k]?) e2;simp[hk] at e3;have a:=Pat.show_le hp.wf (by have:=hp.deep;lia) (x+k) y;have b:=Pat.show_le hq.wf (by have:=hq.deep;lia) (u+k) v;exact Cy a.1 a.2 b.1 b.2 e3
def rowText_eq(e:∀ k:Nat,k<n->p.show (x+k) y=q.show (u+k) v):aI p x y n=aI q u v n:=by
 apply fj;rw[dU,dU];exact Hv λk hk=>by rw[e k (by simpa using hk)]
def ic(ok:p.Ok)(F:p.Fam w h s)(x y:Int):(∀ j:Nat,j<h.toNat->aI p x (y+j) w.toNat=aI p 0 j w.toNat)↔p.Keeps x y:=by
 have hw:=F.f.w0;have hh:=F.f.h0;constructor
 .intro e a b;have c0:0<=hmX w h s a b:=FU _ (by lia);have c1:hmX w h s a b<w:=FV _ hw;have d0:0<=b % h:=FU _ (by lia);have d1:b % h<h:=FV _ hh;have k:=F.keeps (uz (s:=s) hw hh a b);have q:=Cz ok ok (e (b % h).toNat (by lia)) (k:=(hmX w h s a b).toNat) (by lia);rw[F5 c0,F5 d0] at q;have q1:=k (x+hmX w h s a b) (y+b % h);have q2:=k (0+hmX w h s a b) (b % h);rw[show x+hmX w h s a b+(a - hmX w h s a b)=a+x by lia,show y+b % h+(b - b % h)=b+y by lia] at q1;rw[show 0+hmX w h s a b+(a - hmX w h s a b)=a by lia,show b % h+(b - b % h)=b by lia] at q2;rw[q1,q2,q]
 .intro k j _;exact rowText_eq λi _=>by
   have:=k (0+i) j;rw[<- this];congr 1<;>lia
def CA:SpD:=λds R=>∃ n:Int,ds=[.int n]/\0<n/\n<=1000/\∀ ns:List Int,ns.length<=1000->(∀ m,m∈ns↔1<=m/\m<=n/\n % m=0)->R (.lst (ns.map D.int))
def CB:SpD:=λds R=>∃ (p:Pat) (w h s x y:Int),ds=[.tup [.int w,.int h,.int s],bP p w h,.int x,.int y]/\p.Ok/\p.Fam w h s/\w<=720/\h<=720/\∀ b,(b=true↔p.Keeps x y)->R (.bl b)
structure Pat.LeastW(p:Pat)(w m:Int):Prop where
 lo:1<=m
 hi:m<=w
 md:w % m=0
 k:p.Keeps m 0
 l:∀ d,1<=d->d<=w->w % d=0->p.Keeps d 0->m<=d
def Pat.LeastW.eq{m:Int}(F:p.Fam w h s)(L:p.Least w' h' s')(a:p.LeastW w m):m=w':=by
 have w0:=L.f.w0;have k:p.Keeps w' 0:=(L.lat _ _).mp (InF.one _ _ _);obtain⟨i,j,e1,e2⟩:=(L.lat m 0).mpr a.k;have h0:=L.f.h0;have j0:j=0:=by
  rcases GJ j 0 with q|q|q
  .have:=Hk q h0;lia
  .exact q
  .have:=FE q h0;lia
 subst j0;rw[GS,Hi] at e1;have lo:=a.lo;have i0:0<i:=by
  rcases GJ i 0 with q|q|q
  .have:=Hk q w0;lia
  .subst q;lia
  .exact q
 have h1:w'<=m:=by
  rw[e1];have:=FH (show 1<=i by lia) (show 0<=w' by lia);lia
 obtain⟨i2,j2,f1,f2⟩:=(L.lat w 0).mpr (F.keeps (InF.one w h s));have QB:j2=0:=by
  rcases GJ j2 0 with q|q|q
  .have:=Hk q h0;lia
  .exact q
  .have:=FE q h0;lia
 subst QB;have h2:=a.l w' (by lia) (by have:=a.hi;lia) (by rw[f1,GS,Hi];exact G7 _ _) k;lia
def CC:SpD:=λds R=>∃ (p:Pat) (w h s:Int),ds=[.tup [.int w,.int h,.int s],bP p w h]/\p.Ok/\p.Fam w h s/\w<=720/\h<=720/\∀ m,p.LeastW w m->R (.int m)
def CD:SpD:=λds R=>∃ (p:Pat) (w h s m y:Int),ds=[.tup [.int w,.int h,.int s],bP p w h,.int m,.int y]/\p.Ok/\p.Fam w h s/\w<=720/\h<=720/\0<=m/\m<=720/\(∀ t,0<=t->t<m->p.Keeps t y->(∀ u,0<=u->u<t->¬ p.Keeps u y)->R (.int t))/\((∀ t,0<=t->t<m->¬ p.Keeps t y)->R .non)
def CF(h0:0<h)(e:h=j*h):j=1:=by
 have:(j - 1)*h=0:=by rw[Hf,<- e];lia
 rcases GT.mp this with q|q<;>lia
def small_mul(w0:0<w)(a: -w<i*w)(b:i*w<w):i=0:=by
 rcases GJ i 0 with q|q|q
 .have:=FH (show i<=-1 by lia) (show 0<=w by lia);lia
 .exact q
 .have:=FH (show 1<=i by lia) (show 0<=w by lia);lia
def Pat.Least.slant{t:Int}(L:p.Least w h s)(a:0<=t)(b:t<w)(k:p.Keeps t h):t=s:=by
 obtain⟨i,j,e1,e2⟩:=(L.lat t h).mpr k;have j1:=CF L.f.h0 e2;subst j1;have s0:=L.f.s0;have sw:=L.f.sw;have:=small_mul (i:=i) L.f.w0 (by lia) (by lia);subst this;lia
def Pat.Least.row(L:p.Least w h s)(k:p.Keeps x y):p.Keeps (x % w) y:=by
 have e:=F6 x w;have:=k.sub (((L.lat _ _).mp (InF.one w h s)).mul (x / w));rw[Hj,Hc] at this;rw[e,FK];exact this
def Pat.Least.down(L:p.Least w h s)(k:p.Keeps x y)(y0:0<y):h<=y/\y % h=0:=by
 obtain⟨i,j,e1,e2⟩:=(L.lat x y).mpr k;have h0:=L.f.h0;have j0:0<j:=by
  rcases GJ j 0 with q|q|q
  .have:=Hk q h0;lia
  .subst q;lia
  .exact q
 have:=FH (show 1<=j by lia) (show 0<=h by lia);exact⟨by lia,by rw[e2];exact G7 _ _⟩
def CG:SpD:=λds R=>∃ (p:Pat) (d:D),ds=[d]/\aZ p d/\p.Ok/\∀ w h s,p.Least w h s->w*h<=720->w<=720->h<=720->R (.tup [.int w,.int h,.int s])
def CH:SpD:=λds R=>∃ xs:List Int,ds=[.tup (xs.map D.int),.tup (xs.map D.int)]/\xs.length<=1000/\R (.bl true)
def CI{R:D->Prop}(ok:p.Ok)(h:∀ w h s,p.Fam w h s->w*h<=720->w<=720->h<=720->R (.tup [.int w,.int h,.int s])):kD [.lst (p.leaves.map Leaf.D)] R:=by
 refine⟨p.leaves,p.depth,rfl,λz=>by have:=Pat.leaves_pos p;rw[z] at this;simp at this,λl hl=>Pat.leaf_good ok.wf l hl,λw k s f lat=>?_⟩;have F:p.Fam w k s:=⟨f,λx y=>(lat x y).trans (Pat.lat_leaves p x y)⟩;have sm:=ok.fits.small F;have wh:w*k<=720:=by
  obtain⟨w',h',s',f',hb⟩:=ok.fits;obtain⟨rfl,rfl,_⟩:=F.uniq f';exact hb
 exact⟨λ_=>h w k s F wh sm.2.1 sm.2.2.2.1,λz=>by lia⟩
def FamD(p:Pat):D->Prop:=λx=>∃ w h s:Int,x= .tup [.int w,.int h,.int s]/\p.Fam w h s/\w*h<=720/\w<=720/\h<=720
def kL(ok:p.Ok):kD [.lst (p.leaves.map Leaf.D)] (FamD p):=CI ok λw h s F a b c=>⟨w,h,s,rfl,F,a,b,c⟩
def fU(p:Pat):D->Prop:=λx=>∃ w h s:Int,x= .tup [.int w,.int h,.int s]/\p.Least w h s/\w*h<=720/\w<=720/\h<=720
def Pat.Least.le(F:p.Fam w h s)(L:p.Least w' h' s'):w'*h'<=w*h:=(InF.le L.f.w0 L.f.h0 F.f.w0 F.f.h0 (λx y q=>(L.lat x y).mpr (F.keeps q))).1
def CJ(p:Pat)(x y:Int)(n:Nat):Txt.join "" ((Ft n).map λ(i:Nat)=>(⟨#[bO (p.show (x+(i:Int)) y)]⟩:D'))=aI p x y n:=(StrLaws.glued_eq_join _ _).trans (uo (λi=>bO (p.show (x+(i:Int)) y)) n)
def CK(f:Nat->Nat)(n:Nat):(((Ft n).map λ(i:Nat)=>(⟨#[f i]⟩:D')).map (·.length)).sum=n:=by
 rw[kA (w:=1) (λl hl=>by obtain⟨i,_,rfl⟩:=FP.mp hl;rfl),Fs,HH,Nat.mul_one]
def CL(f:Nat->D')(n:Nat):((Ft n).map λ(i:Nat)=>D.str (f i))=((Ft n).map f).map D.str:=by rw[Ha];rfl
def CM:SpD:=λds R=>∃ (p:Pat) (w h s:Int),ds=[.lst (p.leaves.map Leaf.D),.tup [.int w,.int h,.int s]]/\p.Wf/\p.depth<=5/\0<w/\w<=720/\0<h/\h<=720/\R (bP p w h)
def CN:SpD:=λds R=>∃ (p:Pat) (w h s x y:Int),ds=[bP p w h,.tup [.int w,.int h,.int s],.int x,.int y]/\p.Ok/\p.Fam w h s/\w<=720/\h<=720/\∀ b,(b=true↔p.Keeps x y)->R (.bl b)
def Pat.Least.first(L:p.Least w h s)(k:p.Keeps x y)(y0:0<=y)(yh:y<h)(x0:0<=x)(xw:x<w):x=0/\y=0:=by
 obtain⟨i,j,e1,e2⟩:=(L.lat x y).mpr k;have h0:=L.f.h0;have j0:=small_mul (i:=j) h0 (by lia) (by lia);subst j0;have i0:=small_mul (i:=i) L.f.w0 (by lia) (by lia);subst i0;lia
def CO:SpD:=λds R=>∃ (p:Pat) (w h s:Int),ds=[bP p w h,.tup [.int w,.int h,.int s]]/\p.Ok/\p.Fam w h s/\w<=720/\h<=720/\∀ w' h' s',p.Least w' h' s'->w'*h'<=w*h->w'<=w->h'<=h->R (.tup [.int w',.int h',.int s'])
def vb(X Y:Int):(Pat.mir p).Keeps X Y↔p.Keeps (-X) Y:=by
 constructor<;>intro h x y
 .have:=h (-x) y;simp only[Pat.show,Hl,IC] at this;exact this
 .have:=h (-x) y;simp only[Pat.show,Hl];exact this
def vc(X Y:Int):(Pat.tur p).Keeps X Y↔p.Keeps Y (-X):=by
 constructor<;>intro h x y
 .have:=h (-y) x;simp only[Pat.show,Hl,IC] at this;exact this
 .have:=h y (-x);simp only[Pat.show,Hl];exact this
def vd(a b X Y:Int):(Pat.sh a b p).Keeps X Y↔p.Keeps X Y:=by
 constructor<;>intro h x y
 .have:=h (x+a) (y+b);simp only[Pat.show] at this;rw[show x+a+X - a=x+X by lia,show y+b+Y - b=y+Y by lia,show x+a - a=x by lia,show y+b - b=y by lia] at this;exact this
 .have:=h (x - a) (y - b);simp only[Pat.show];rw[show x+X - a=x - a+X by lia,show y+Y - b=y - b+Y by lia];exact this
def Pat.Least.mir(k:p.Least w h s):(Pat.mir p).Least w h (-s % w):=by
 refine⟨⟨k.f.w0,k.f.h0,bU k.f.w0,bV k.f.w0⟩,λx y=>?_⟩;rw[vb,<- k.lat];have e:=F6 (-s) w;generalize -s % w=r at e;generalize -s / w=t at e;constructor
 .rintro⟨i,j,rfl,rfl⟩;exact⟨j*t - i,j,by rw[e];grind,rfl⟩
 .rintro⟨i,j,ex,rfl⟩;exact⟨j*t - i,j,by rw[e];grind,rfl⟩
def Pat.Least.tur(k:p.Least w h s)(f:FamOf 0 w (-h) s w' h' s'):(Pat.tur p).Least w' h' s':=by
 refine⟨⟨f.1,f.2.1,f.2.2.1,f.2.2.2.1⟩,λx y=>?_⟩;rw[vc,<- k.lat,f.lat];constructor
 .rintro⟨i,j,rfl,rfl⟩;exact⟨i,j,by grind,by grind⟩
 .rintro⟨i,j,ex,ey⟩;exact⟨i,j,by grind,by grind⟩
def Pat.Least.sh(a b:Int)(k:p.Least w h s):(Pat.sh a b p).Least w h s:=⟨k.f,λx y=>by rw[vd,k.lat]⟩
structure Mv(p q:Pat)(b0 b1 b2 b3:Int):Prop where
 keeps:∀ X Y,q.Keeps X Y↔p.Keeps (b0*X+b1*Y) (b2*X+b3*Y)
 leaf:∀ l ls,p.leaves=l::ls->∃ l' ls',q.leaves=l'::ls'/\l'.w0=l.w0*b0+l.w1*b2/\l'.w1=l.w0*b1+l.w1*b3/\l'.w2=l.w2*b0+l.w3*b2/\l'.w3=l.w2*b1+l.w3*b3
 area:∀ w h s,p.Least w h s->∃ w' h' s',q.Least w' h' s'/\w'*h'=w*h
variable{b0 b1 b2 b3:Int}
def Mv.mir(m:Mv p q b0 b1 b2 b3):Mv p (.mir q) (-b0) b1 (-b2) b3:=by
 refine⟨λX Y=>?_,λl ls e=>?_,λw h s L=>?_⟩
 .rw[vb,m.keeps,Go,Go,Gy,Gy]
 .obtain⟨l',ls',e',h0,h1,h2,h3⟩:=m.leaf l ls e;refine⟨_,_,by rw[Pat.leaves,e',FB],?_,?_,?_,?_⟩<;>simp only[Leaf.by,h0,h1,h2,h3]<;>grind
 .obtain⟨w',h',s',L',e⟩:=m.area w h s L;exact⟨_,_,_,L'.mir,e⟩
def Mv.tur(m:Mv p q b0 b1 b2 b3):Mv p (.tur q) (-b1) b0 (-b3) b2:=by
 refine⟨λX Y=>?_,λl ls e=>?_,λw h s L=>?_⟩
 .rw[vc,m.keeps,Go,Go,Gy,Gy,Hm (b0*Y),Hm (b2*Y)]
 .obtain⟨l',ls',e',h0,h1,h2,h3⟩:=m.leaf l ls e;refine⟨_,_,by rw[Pat.leaves,e',FB],?_,?_,?_,?_⟩<;>simp only[Leaf.by,h0,h1,h2,h3]<;>grind
 .obtain⟨w',h',s',L',e⟩:=m.area w h s L;obtain⟨w2,h2,s2,f,e2⟩:=fS (s:=s') L'.f.w0 L'.f.h0;exact⟨_,_,_,L'.tur f,by lia⟩
def Mv.sh(a b:Int)(m:Mv p q b0 b1 b2 b3):Mv p (.sh a b q) b0 b1 b2 b3:=by
 refine⟨λX Y=>?_,λl ls e=>?_,λw h s L=>?_⟩
 .rw[vd,m.keeps]
 .obtain⟨l',ls',e',h0,h1,h2,h3⟩:=m.leaf l ls e;refine⟨_,_,by rw[Pat.leaves,e',FB],?_,?_,?_,?_⟩<;>simp only[Leaf.by,h0,h1,h2,h3]<;>grind
 .obtain⟨w',h',s',L',e⟩:=m.area w h s L;exact⟨_,_,_,L'.sh a b,e⟩
structure Side(a w:Int)(A t:Nat):Prop where
 n:bu a
 A4:A<=4000000000000
 t1:t<=1000
 e:bu (a+A*w+t - 1)
def Side.of{A t:Nat}(n:bu a)(w0:0<w)(hA:(A:Int)<=(1000000000000 - a+1) / w)(h:(t<=720/\(t:Int)<=1000000000000 - a+1 - A*w/\¬ (a=-1000000000000/\A=0))\/(a=-1000000000000/\A=0/\1<=t/\t<=720)):Side a w A t:=by
 have h1:=FH hA (show 0<=w by omega);have h2:=Int.ediv_mul_le (1000000000000 - a+1) (show w≠0 by omega);have h3:(A:Int)<=A*w:=by
  have:=G9 (show 1<=w by omega) (show 0<=(A:Int) by omega);omega
 unfold bu at n;rcases h with⟨t7,ht,ne⟩|⟨e1,rfl,t0,t7⟩
 .refine⟨n,by omega,by omega,?_,by omega⟩;by_cases z:A=0
  .subst z;simp at ne ⊢;omega
  .omega
 .refine⟨n,by omega,by omega,?_,?_⟩<;>simp<;>omega
end My
end
section
namespace My
local macro_rules | `(tactic| k_memK) => `(tactic| exact⟨rfl, rfl, rfl, by decide +kernel, rfl, by decide +kernel, by decide +kernel⟩)
local macro_rules | `(tactic| k_places) => `(tactic| try simp only[FL, FN, My.aV])
open PySem PySem.Spec PyProof.Rows L2
def top(i:Nat):Stmt:=PySem.Challenge.pw_motiffield_k23_first_parting.main.body.getD i (.Pass ⟨0,0,0,0⟩)
abbrev kM:RO:=top 57
abbrev kN:List Str:=["_law_script","_law_k"]
def CP:FnScope ["_law_script","_law_k"] kN (ag kM):=by k_memK
abbrev kO:RO:=top 59
abbrev kP:List Str:=["_law_script","_law_k","_law_many"]
def sc__law_draws:FnScope ["_law_script","_law_k","_law_many","_law_left","_law_drawn","_law_turn","_law_seed"] kP (ag kO):=by k_memK
abbrev kQ:RO:=top 62
abbrev kR:List Str:=["_law_draws_here"]
def sc__law_lines:FnScope ["_law_draws_here","_law_wide","_law_tall","_law_signs","_law_lines_here","_law_j","_law_line","_law_i","_law_place","_law_value"] kR (ag kQ):=by k_memK
abbrev kS:RO:=top 60
abbrev kT:List Str:=["_law_draws_here"]
def sc__law_shift_pair:FnScope ["_law_draws_here","_law_a","_law_b","_law_c","_law_d"] kT (ag kS):=by k_memK
abbrev kU:RO:=top 61
abbrev kW:List Str:=["_law_lines_here","_law_one","_law_two"]
def sc__law_motif_text:FnScope ["_law_lines_here","_law_one","_law_two","_law_tail"] kW (ag kU):=by k_memK
abbrev kX:RO:=top 63
abbrev kY:List Str:=["_law_script","_law_k"]
def sc__law_motif:FnScope ["_law_script","_law_k","_law_draws_here","_law_lines_here","_law_one","_law_two","_law_leaf"] kY (ag kX):=by k_memK
abbrev ie:RO:=top 64
abbrev kZ:List Str:=["_law_part","_law_draw"]
def sc__law_wrapped:FnScope ["_law_part","_law_draw","_law_across","_law_down","_law_old","_law_new","_law_shift","_law_head","_law_ways","_law_by","_law_leaves","_law_leaf","_law_a","_law_b","_law_c","_law_d","_law_e","_law_f","_law_way","_law_hues"] kZ (ag ie):=by k_memK
abbrev lf:RO:=top 68
abbrev lh:List Str:=["_law_a","_law_b"]
def sc__law_gcd:FnScope ["_law_a","_law_b"] lh (ag lf):=by k_memK
abbrev lm:RO:=top 65
abbrev lp:List Str:=["_law_one","_law_two","_law_u","_law_v"]
def sc__law_on:FnScope ["_law_one","_law_two","_law_u","_law_v","_law_size"] lp (ag lm):=by k_memK
abbrev lr:RO:=top 70
abbrev lu:List Str:=["_law_leaf"]
def sc__law_leaf_family:FnScope ["_law_leaf","_law_a","_law_b","_law_c","_law_d","_law_e","_law_f","_law_one","_law_two","_law_high","_law_wide","_law_lean"] lu (ag lr):=by k_memK
abbrev lv:RO:=top 69
abbrev ly:List Str:=["_law_three","_law_x","_law_y"]
def CQ:FnScope ["_law_three","_law_x","_law_y"] ly (ag lv):=by k_memK
abbrev lz:RO:=top 71
abbrev lC:List Str:=["_law_one","_law_two"]
def sc__law_both:FnScope ["_law_one","_law_two","_law_wide","_law_high","_law_x"] lC (ag lz):=by k_memK
abbrev lD:RO:=top 72
abbrev lF:List Str:=["_law_leaves"]
def sc__law_family:FnScope ["_law_leaves","_law_both_here","_law_leaf"] lF (ag lD):=by k_memK
abbrev lG:RO:=top 73
abbrev lH:List Str:=["_law_upper","_law_lower"]
def sc__law_over:FnScope ["_law_upper","_law_lower","_law_leaves"] lH (ag lG):=by k_memK
abbrev lJ:RO:=top 74
abbrev lK:List Str:=["_law_script","_law_k"]
def sc__law_pattern:FnScope ["_law_script","_law_k","_law_plan","_law_part","_law_turn","_law_step","_law_other"] lK (ag lJ):=by k_memK
abbrev lL:RO:=top 84
abbrev lM:List Str:=["_law_part","_law_value"]
def sc__law_veiled:FnScope ["_law_part","_law_value","_law_one","_law_two","_law_leaf"] lM (ag lL):=by k_memK
abbrev lN:RO:=top 77
abbrev lP:List Str:=["_law_part","_law_kind"]
def sc__law_shifted_home:FnScope ["_law_part","_law_kind","_law_three","_law_across","_law_down"] lP (ag lN):=by k_memK
abbrev lQ:RO:=top 76
abbrev lR:List Str:=["_law_part","_law_place","_law_sign"]
def sc__law_respelled:FnScope ["_law_part","_law_place","_law_sign","_law_first","_law_wide","_law_j","_law_i","_law_lines_here","_law_spot","_law_text"] lR (ag lQ):=by k_memK
abbrev lU:RO:=top 78
abbrev lV:List Str:=["_law_part","_law_script","_law_k","_law_draw"]
def sc__law_twin:FnScope ["_law_part","_law_script","_law_k","_law_draw","_law_kind"] lV (ag lU):=by k_memK
abbrev lW:RO:=top 83
abbrev lY:List Str:=["_law_draw"]
def sc__law_bound_pair:FnScope ["_law_draw","_law_one","_law_two","_law_same","_law_pair","_law_sign","_law_way","_law_leaf"] lY (ag lW):=by k_memK
abbrev lZ:RO:=top 81
abbrev ma:List Str:=["_law_lines_here","_law_three","_law_x","_law_y"]
def sc__law_keeps:FnScope ["_law_lines_here","_law_three","_law_x","_law_y","_law_j","_law_other","_law_begin"] ma (ag lZ):=by k_memK
abbrev me:RO:=top 82
abbrev mf:List Str:=["_law_lines_here","_law_three"]
def sc__law_least:FnScope ["_law_lines_here","_law_three","_law_wide","_law_high","_law_lean"] mf (ag me):=by k_memK
abbrev mi:RO:=top 66
abbrev mj:List Str:=["_law_leaf","_law_x","_law_y"]
def sc__law_leaf_shows:FnScope ["_law_leaf","_law_x","_law_y","_law_way","_law_u","_law_v","_law_j","_law_i"] mj (ag mi):=by k_memK
abbrev mm:RO:=top 67
abbrev mn:List Str:=["_law_leaves","_law_x","_law_y"]
def sc__law_shows:FnScope ["_law_leaves","_law_x","_law_y","_law_leaf","_law_hue"] mn (ag mm):=by k_memK
abbrev ig:RO:=top 80
abbrev mo:List Str:=["_law_leaves","_law_three"]
def sc__law_table:FnScope ["_law_leaves","_law_three","_law_lines_here","_law_y"] mo (ag ig):=by k_memK
abbrev mq:RO:=bn (top 2) 0
abbrev mv:List Str:=["self","place"]
def CS:FnScope ["self","place"] mv (ag mq):=by k_memK
abbrev mx:RO:=bn (top 45) 1
abbrev mz:List Str:=["self","allowed"]
def CT:FnScope ["self","allowed"] mz (ag mx):=by k_memK
abbrev mB:RO:=bn (top 45) 2
abbrev mC:List Str:=["self","allowed"]
def sc_Reading_take:FnScope ["self","allowed","sign"] mC (ag mB):=by k_memK
abbrev mD:RO:=top 48
abbrev mF:List Str:=["reading","least","most"]
def sc_line_from:FnScope ["reading","least","most","line","column"] mF (ag mD):=by k_memK
abbrev mG:RO:=top 49
abbrev mH:List Str:=["reading"]
def sc_lines_from:FnScope ["reading","lines","width"] mH (ag mG):=by k_memK
abbrev mI:RO:=top 46
abbrev mJ:List Str:=["reading"]
def sc_number_from:FnScope ["reading","written"] mJ (ag mI):=by k_memK
abbrev mK:RO:=top 47
abbrev mL:List Str:=["reading"]
def sc_shift_from:FnScope ["reading","x"] mL (ag mK):=by k_memK
abbrev mM:RO:=top 7
abbrev mN:List Str:=["first","second"]
def sc_levelled:FnScope ["first","second","times","rest"] mN (ag mM):=by k_memK
abbrev mO:RO:=top 9
abbrev mQ:List Str:=["first","second"]
def sc_spread:FnScope ["first","second","pair","width"] mQ (ag mO):=by k_memK
abbrev mR:RO:=top 10
abbrev mU:List Str:=["family","x","y"]
def sc_home:FnScope ["family","x","y","width","height","slant"] mU (ag mR):=by k_memK
abbrev mV:RO:=top 16
abbrev mW:List Str:=["lines","family"]
def sc_hues_by_home:FnScope ["lines","family","hues","row","line","column","sign"] mW (ag mV):=by k_memK
abbrev mY:RO:=bn (top 17) 0
abbrev mZ:List Str:=["self","place","lines","first","second"]
def CU:FnScope ["self","place","lines","first","second"] mZ (ag mY):=by k_memK
abbrev ng:RO:=top 50
abbrev nh:List Str:=["reading"]
def sc_motif_from:FnScope ["reading","place","lines","first","second"] nh (ag ng):=by k_memK
abbrev nj:RO:=bn (top 20) 0
abbrev nq:List Str:=["self","form"]
def CV:FnScope ["self","form"] nq (ag nj):=by k_memK
abbrev nt:RO:=bn (top 21) 0
abbrev nu:List Str:=["self","form"]
def CW:FnScope ["self","form"] nu (ag nt):=by k_memK
abbrev nv:RO:=bn (top 18) 0
abbrev nw:List Str:=["self","above","below"]
def CY:FnScope ["self","above","below"] nw (ag nv):=by k_memK
abbrev ny:RO:=bn (top 19) 0
abbrev nz:List Str:=["self","form","x","y"]
def CZ:FnScope ["self","form","x","y"] nz (ag ny):=by k_memK
abbrev nA:RO:=bn (top 22) 0
abbrev nB:List Str:=["self","form","old","new"]
def C0:FnScope ["self","form","old","new"] nB (ag nA):=by k_memK
abbrev ii:RO:=top 51
abbrev fV:List Str:=["reading","around"]
def sc_over_from:FnScope ["reading","around","above","below"] fV (ag ii):=by k_memK
abbrev ij:RO:=top 52
abbrev fW:List Str:=["reading","around"]
def sc_shifted_from:FnScope ["reading","around","shift"] fW (ag ij):=by k_memK
abbrev ik:RO:=top 53
abbrev fX:List Str:=["reading","around"]
def sc_rehue_from:FnScope ["reading","around","old","new"] fX (ag ik):=by k_memK
abbrev il:RO:=top 54
abbrev cI:List Str:=["reading","around"]
def sc_form_from:FnScope ["reading","around","sign"] cI (ag il):=by k_memK
abbrev nC:RO:=bn (top 45) 0
abbrev nD:List Str:=["self","text"]
def C1:FnScope ["self","text"] nD (ag nC):=by k_memK
abbrev nE:RO:=bn (top 44) 0
abbrev nF:List Str:=["self","text","shifts","form"]
def C3:FnScope ["self","text","shifts","form"] nF (ag nE):=by k_memK
abbrev nG:RO:=bn (top 3) 0
abbrev nH:List Str:=["self","place"]
def C4:FnScope ["self","place"] nH (ag nG):=by k_memK
abbrev nI:RO:=top 8
abbrev nJ:List Str:=["one","two"]
def sc_measure:FnScope ["one","two","last"] nJ (ag nI):=by k_memK
abbrev nK:RO:=top 11
abbrev nM:List Str:=["one","two"]
def sc_met:FnScope ["one","two","common","width","rise","start","gap","climbs","steps"] nM (ag nK):=by k_memK
abbrev nN:RO:=top 12
abbrev nO:List Str:=["family"]
def C5:FnScope ["family"] nO (ag nN):=by k_memK
abbrev nP:RO:=top 13
abbrev nQ:List Str:=["family"]
def C6:FnScope ["family"] nQ (ag nP):=by k_memK
abbrev im:RO:=bn (top 17) 1
abbrev cy:List Str:=["self"]
def C7:FnScope ["self"] cy (ag im):=by k_memK
abbrev io:RO:=bn (top 18) 1
abbrev ip:List Str:=["self"]
def sc_Over_family:FnScope ["self","first"] ip (ag io):=by k_memK
abbrev iq:RO:=bn (top 19) 1
abbrev ir:List Str:=["self"]
def C8:FnScope ["self"] ir (ag iq):=by k_memK
abbrev iu:RO:=bn (top 20) 1
abbrev iy:List Str:=["self"]
def C9:FnScope ["self"] iy (ag iu):=by k_memK
abbrev iz:RO:=bn (top 21) 1
abbrev iA:List Str:=["self"]
def Da:FnScope ["self"] iA (ag iz):=by k_memK
abbrev iB:RO:=bn (top 22) 1
abbrev iC:List Str:=["self"]
def Db:FnScope ["self"] iC (ag iB):=by k_memK
abbrev nR:RO:=top 55
abbrev nS:List Str:=["text"]
def sc_read:FnScope ["text","reading","form","family"] nS (ag nR):=by k_memK
abbrev nU:RO:=top 27
abbrev nV:List Str:=["x","y"]
def Dc:FnScope ["x","y"] nV (ag nU):=by k_memK
abbrev iD:RO:=bn (top 17) 2
abbrev cz:List Str:=["self","x","y"]
def Dd:FnScope ["self","x","y"] cz (ag iD):=by k_memK
abbrev iE:RO:=bn (top 18) 2
abbrev iF:List Str:=["self","x","y"]
def sc_Over_shows:FnScope ["self","x","y","hue"] iF (ag iE):=by k_memK
abbrev iG:RO:=bn (top 19) 2
abbrev iH:List Str:=["self","x","y"]
def De:FnScope ["self","x","y"] iH (ag iG):=by k_memK
abbrev iI:RO:=bn (top 20) 2
abbrev iJ:List Str:=["self","x","y"]
def Df:FnScope ["self","x","y"] iJ (ag iI):=by k_memK
abbrev iK:RO:=bn (top 21) 2
abbrev iL:List Str:=["self","x","y"]
def Dg:FnScope ["self","x","y"] iL (ag iK):=by k_memK
abbrev iM:RO:=bn (top 22) 2
abbrev iN:List Str:=["self","x","y"]
def sc_Rehue_shows:FnScope ["self","x","y","hue"] iN (ag iM):=by k_memK
abbrev nW:RO:=top 28
abbrev nX:List Str:=["pattern","x","y"]
def Dh:FnScope ["pattern","x","y"] nX (ag nW):=by k_memK
abbrev iO:RO:=top 29
abbrev nY:List Str:=["pattern","x","y","many"]
def Di:FnScope ["pattern","x","y","many"] nY (ag iO):=by k_memK
abbrev iP:RO:=top 30
abbrev nZ:List Str:=["pattern"]
def Dj:FnScope ["pattern"] nZ (ag iP):=by k_memK
abbrev iQ:RO:=top 33
abbrev oa:List Str:=["number"]
def Dk:FnScope ["number"] oa (ag iQ):=by k_memK
abbrev og:RO:=top 31
abbrev oh:List Str:=["family","rows","x","y"]
def sc_round_row:FnScope ["family","rows","x","y","cell","row"] oh (ag og):=by k_memK
abbrev oi:RO:=top 34
abbrev oj:List Str:=["family","rows","x","y"]
def sc_changes_nothing:FnScope ["family","rows","x","y","step","row"] oj (ag oi):=by k_memK
abbrev iR:RO:=top 35
abbrev ol:List Str:=["family","rows"]
def Dl:FnScope ["family","rows"] ol (ag iR):=by k_memK
abbrev om:RO:=top 36
abbrev oq:List Str:=["family","rows","width","height"]
def sc_slant_at:FnScope ["family","rows","width","height","slant"] oq (ag om):=by k_memK
abbrev iS:RO:=top 37
abbrev ot:List Str:=["pattern"]
def sc_least_shifts:FnScope ["pattern","family","rows","width","height"] ot (ag iS):=by k_memK
abbrev ou:RO:=top 39
abbrev ow:List Str:=["one","two"]
def sc_common_field:FnScope ["one","two","family"] ow (ag ou):=by k_memK
abbrev oy:RO:=top 40
abbrev oz:List Str:=["one","two","width","height"]
def sc_first_unlike:FnScope ["one","two","width","height","y","x"] oz (ag oy):=by k_memK
abbrev oA:RO:=top 41
abbrev oB:List Str:=["one","two"]
def sc_first_parting:FnScope ["one","two","family"] oB (ag oA):=by k_memK
abbrev oC:RO:=top 85
abbrev oE:List Str:=["_law_one","_law_two"]
def sc__law_told:FnScope ["_law_one","_law_two","_law_found","_law_great"] oE (ag oC):=by k_memK
abbrev oF:RO:=top 79
abbrev oG:List Str:=["_law_one","_law_two","_law_three"]
def sc__law_unlike:FnScope ["_law_one","_law_two","_law_three","_law_y","_law_x"] oG (ag oF):=by k_memK
abbrev oH:RO:=top 58
abbrev oI:List Str:=["_law_found"]
def Dm:FnScope ["_law_found"] oI (ag oH):=by k_memK
abbrev oJ:RO:=top 75
abbrev oK:List Str:=["_law_found","_law_due"]
def sc__law_numbers:FnScope ["_law_found","_law_due","_law_k"] oK (ag oJ):=by k_memK
abbrev iT:RO:=top 86
abbrev oM:List Str:=["_law_script"]
def sc_law:FnScope ["_law_script","_law_part","_law_twin_here","_law_own","_law_one","_law_three","_law_two","_law_told_here","_law_due"] oM (ag iT):=by k_memK
variable{c i:Nat}
def atC{t:D'}:StrLaws.At t ⟨#[c]⟩ t.length i↔(cs t)[i]?=be c:=by
 have e:Builtin.Str.subAt t ⟨#[c]⟩ i=(((cs t).drop i).take 1==[c]):=StrLaws.subAt_eq t ⟨#[c]⟩ i;have e2:((cs t).drop i).take 1=[c]↔(cs t)[i]?=be c:=by
  rw[List.take_one,List.head?_drop];cases(cs t)[i]?<;>simp
 unfold StrLaws.At;rw[e,beq_iff_eq,e2];refine⟨λh=>h.2,λh=>⟨?_,h⟩⟩;have:=(FG.mp h).1;rw[bp] at this;exact this
variable{A B:List Nat}
def Dn{t:D'}(ht:cs t=A++c::B)(no:c ∉ A):∃ i rest,Builtin.Str.occurrences t ⟨#[c]⟩ 0 t.length 1=i::rest/\i=A.length:=by
 have a0:StrLaws.At t ⟨#[c]⟩ t.length A.length:=atC.mpr (by rw[ht,Gh (Fo _),Nat.sub_self];rfl);rcases StrLaws.occ_head t ⟨#[c]⟩ 1 (Fo _) with⟨_,h⟩|⟨i,r,e,h1,h2⟩
 .exact absurd a0 (h _)
 .refine⟨i,r,e,?_⟩;rcases Nat.lt_trichotomy i A.length with q|q|q
  .have:=atC.mp h1;rw[ht,F8 q] at this;exact absurd (G1 this) no
  .exact q
  .exact absurd a0 (h2 _ q)
def fY(x:List Nat){l:List (List Nat)}(h:l≠[]):rowsL (x::l)=x++47::rowsL l:=by
 cases l with
 |nil=>exact absurd rfl h
 |cons y r=>rfl
def Do{w:Nat}(hi:i<w):∀ (L:List (List Nat)) (j:Nat) (h:j<L.length),(∀ x∈L,x.length=w)->rowsL (L.set j (L[j].set i c))=(rowsL L).set (j*(w+1)+i) c:=by
 intro L;induction L with
 |nil=>intro j h;exact absurd h (Gw j)
 |cons x L ih=>
  intro j h hw;have xw:=hw x Fv;by_cases e:L=[]
  .subst e;have:j=0:=by simp at h;lia
   subst this;simp[rowsL]
  .cases j with
   |zero=>
    show rowsL (x.set i c::L)=_;rw[fY _ e,fY _ e,Nat.zero_mul,GV,ID _ _ (by lia)]
   |succ j=>
    have h':j<L.length:=Ic h;show rowsL (x::L.set j (L[j].set i c))=_;rw[fY _ (λz=>e (by have:=congrArg Gu z;simpa using this)),fY _ e,ih j h' (λy hy=>hw y (Fu _ hy))];rw[IE _ _ (by rw[xw,GR];lia),xw,show(j+1)*(w+1)+i - w=(j*(w+1)+i)+1 by rw[GR];lia];rfl
def iU{a:Int}(h:B12 a):91 ∉ numL a:=by
 have hs:=numL_is h;intro hy;unfold isNumL at hs;rcases hs with⟨c,h1,h2⟩|⟨c,h1,h2⟩|⟨c,h1,h2⟩|⟨c,h1,h2⟩<;>rw[h2] at hy<;>simp at hy<;>lia
structure Pat.Re(p:Pat)(A B:List Nat)(l:Leaf)(ls:List Leaf):Prop where
 leaves:p.leaves=l::ls
 no:91 ∉ A
 tl:p.tl=A++91::(rowsL (l.rows.map cs)++B)
 rows:Rows l.rows
 re:∀ L':List D',Rows L'->∃ q:Pat,q.leaves={l with rows:=L'}::ls/\q.tl=A++91::(rowsL (L'.map cs)++B)/\q.depth=p.depth/\(∀ x y,q.Lat x y↔p.Lat x y)/\q.Wf
def Pat.re_ex:∀ {p:Pat},p.Wf->∃ A B l ls,p.Re A B l ls:=by
 intro p;induction p with
 |mot L a b c d=>
  intro h;exact⟨[],_,_,[],rfl,Gd,rfl,h.1,λL' h'=>⟨.mot L' a b c d,rfl,rfl,rfl,λx y=>Iff.rfl,h',h.2⟩⟩
 |over p q QC Rz=>
  intro h;obtain⟨A,B,l,ls,r⟩:=QC h.1;refine⟨40::A,B++124::(q.tl++[41]),l,ls++q.leaves,by rw[Pat.leaves,r.leaves];rfl,λz=>?_,by rw[Pat.tl,r.tl];simp,r.rows,λL' h'=>?_⟩
  .rcases Fp.mp z with z|z
   .exact absurd z (by decide)
   .exact r.no z
  .obtain⟨p',e1,e2,e3,e4,e5⟩:=r.re L' h';exact⟨.over p' q,by rw[Pat.leaves,e1];rfl,by rw[Pat.tl,e2];simp,by rw[Pat.depth,Pat.depth,e3],λx y=>by simp only[Pat.Lat,e4],e5,h.2⟩
 |sh a b p ih=>
  intro h;obtain⟨A,B,l,ls,r⟩:=ih h.2.2;refine⟨115::(numL a++44::(numL b++58::A)),B,l.by 1 0 0 1 (-a) (-b),ls.map λl=>l.by 1 0 0 1 (-a) (-b),by rw[Pat.leaves,r.leaves];rfl,λz=>?_,by rw[Pat.tl,r.tl];simp[Leaf.by],r.rows,λL' h'=>?_⟩
  .have n1:=iU h.1;have n2:=iU h.2.1;have n3:=r.no;simp[n1,n2,n3] at z
  .obtain⟨p',e1,e2,e3,e4,e5⟩:=r.re L' h';exact⟨.sh a b p',by rw[Pat.leaves,e1];rfl,by rw[Pat.tl,e2];simp,by rw[Pat.depth,Pat.depth,e3],λx y=>by simp only[Pat.Lat,e4],h.1,h.2.1,e5⟩
 |mir p ih=>
  intro h;obtain⟨A,B,l,ls,r⟩:=ih h;refine⟨109::A,B,l.by (-1) 0 0 1 0 0,ls.map λl=>l.by (-1) 0 0 1 0 0,by rw[Pat.leaves,r.leaves];rfl,λz=>?_,by rw[Pat.tl,r.tl];rfl,r.rows,λL' h'=>?_⟩
  .rcases Fp.mp z with z|z
   .exact absurd z (by decide)
   .exact r.no z
  .obtain⟨p',e1,e2,e3,e4,e5⟩:=r.re L' h';exact⟨.mir p',by rw[Pat.leaves,e1];rfl,by rw[Pat.tl,e2];rfl,by rw[Pat.depth,Pat.depth,e3],λx y=>by simp only[Pat.Lat,e4],e5⟩
 |tur p ih=>
  intro h;obtain⟨A,B,l,ls,r⟩:=ih h;refine⟨116::A,B,l.by 0 1 (-1) 0 0 0,ls.map λl=>l.by 0 1 (-1) 0 0 0,by rw[Pat.leaves,r.leaves];rfl,λz=>?_,by rw[Pat.tl,r.tl];rfl,r.rows,λL' h'=>?_⟩
  .rcases Fp.mp z with z|z
   .exact absurd z (by decide)
   .exact r.no z
  .obtain⟨p',e1,e2,e3,e4,e5⟩:=r.re L' h';exact⟨.tur p',by rw[Pat.leaves,e1];rfl,by rw[Pat.tl,e2];rfl,by rw[Pat.depth,Pat.depth,e3],λx y=>by simp only[Pat.Lat,e4],e5⟩
 |hue f g p ih=>
  intro h;obtain⟨A,B,l,ls,r⟩:=ih h.2.2;refine⟨104::(numL f++(numL g++A)),B,(l.by 1 0 0 1 0 0).dye f g,ls.map λl=>(l.by 1 0 0 1 0 0).dye f g,by rw[Pat.leaves,r.leaves];rfl,λz=>?_,by rw[Pat.tl,r.tl];simp[Leaf.by,Leaf.dye],r.rows,λL' h'=>?_⟩
  .have h1:1<=f/\f<=6:=h.1;have h2:1<=g/\g<=6:=h.2.1;have n1:=iU (a:=f) ⟨by lia,by lia⟩;have n2:=iU (a:=g) ⟨by lia,by lia⟩;have n3:=r.no;simp[n1,n2,n3] at z
  .obtain⟨p',e1,e2,e3,e4,e5⟩:=r.re L' h';exact⟨.hue f g p',by rw[Pat.leaves,e1];rfl,by rw[Pat.tl,e2];simp,by rw[Pat.depth,Pat.depth,e3],λx y=>by simp only[Pat.Lat,e4],h.1,h.2.1,e5⟩
def Dp{w:Nat}:∀ (L:List (List Nat)),L≠[]->(∀ x∈L,x.length=w)->(rowsL L).length+1=L.length*(w+1):=by
 intro L;induction L with
 |nil=>intro h;exact absurd rfl h
 |cons x L ih=>
  intro _ hw;have xw:=hw x Fv;by_cases e:L=[]
  .subst e;show x.length+1=1*(w+1);lia
  .have:=ih e λy hy=>hw y (Fu _ hy);rw[fY _ e,Fx,Fq,Fq,GR];lia
def ve{y:D'}{k:Nat}(h:k<y.length):cs ((Txt.slice y m9 (be (k:Int))++⟨#[c]⟩)++Txt.slice y (be ((k:Int)+1)) m9)=(cs y).set k c:=by
 have e1:HT.sIx y.length y.length (be (k:Int))=k:=by rw[HT.sIx_nat];lia
 have e2:HT.sIx y.length 0 (be ((k:Int)+1))=k+1:=by
  have:=HT.sIx_nat y.length 0 (k+1);rw[show((k:Int)+1)=(((k+1:Nat)):Int) by lia,this];lia
 rw[bv,bv,slice_cps,slice_cps,e1,e2,HT.sIx_none,HT.sIx_none,Nat.sub_zero,IB,List.set_eq_take_append_cons_drop,if_pos (by rw[bp];exact h)];show((cs y).take k++[c])++(GP (k+1) (cs y)).take (y.length - (k+1))=_;rw[Hw (l:=GP (k+1) (cs y)) (by rw[GB,bp];lia),F4];rfl
variable{p:Pat}
def Pat.Re.put{l:Leaf}{ls:List Leaf}(r:p.Re A B l ls)(ok:p.Ok){w j:Nat}(hw:∀ s∈l.rows,s.length=w)(hj:j<l.rows.length)(hi:i<w)(hc:aF c){s':D'}(hs:cs s'=(cs l.rows[j]).set i c):∃ q:Pat,q.Ok/\q.depth=p.depth/\q.leaves={l with rows:=l.rows.set j s'}::ls/\A.length+1+j*(w+1)+i<p.text.length/\∀ t':D',cs t'=(cs p.text).set (A.length+1+j*(w+1)+i) c->t'=q.text:=by
 obtain⟨m,w',w8,hr⟩:=r.rows;have lj:=hr l.rows[j] (FT hj);have hL:Rows (l.rows.set j s'):=by
  refine⟨by rw[Gj];exact m,w',w8,λs A_=>?_⟩;rcases IF A_ with q|q
  .exact hr s q
  .subst q;refine⟨by rw[<- bp,hs,Gj,bp];exact lj.1,λd hd=>?_⟩;rw[hs] at hd;rcases IF hd with q|q
   .exact lj.2 d q
   .rw[q];exact hc
 obtain⟨q,e1,e2,e3,e4,e5⟩:=r.re _ hL;obtain⟨fw,fh,fs,F,fb⟩:=ok.fits;refine⟨q,⟨e5,by rw[e3];exact ok.deep,fw,fh,fs,⟨F.f,λx y=>(F.lat x y).trans (e4 x y).symm⟩,fb⟩,e3,e1,?_⟩;have lw:∀ x∈l.rows.map cs,x.length=w:=λx hx=>by
  obtain⟨s,q1,q2⟩:=FP.mp hx;rw[<- q2,bp];exact hw s q1
 have jm:j<(l.rows.map cs).length:=by rw[Fs];exact hj
 have key:=Do (c:=c) hi (l.rows.map cs) j jm lw;have e6:(l.rows.set j s').map cs=(l.rows.map cs).set j ((l.rows.map cs)[j].set i c):=by rw[IG,hs,List.getElem_map]
 have ll:j*(w+1)+i<(rowsL (l.rows.map cs)).length:=by
  have h1:=Dp (l.rows.map cs) (λz=>by rw[z] at jm;exact absurd jm (Gw j)) lw;have h2:=Ii (w+1) (show j+1<=(l.rows.map cs).length from jm);rw[GR] at h2;lia
 refine⟨?_,λt' ht=>?_⟩
 .rw[<- bp,cq,r.tl,Fx,Fq,Fx];lia
 apply fj;rw[ht,cq,cq,e2,e6,key,r.tl];rw[IE _ _ (by lia),show A.length+1+j*(w+1)+i - A.length=(j*(w+1)+i)+1 by lia,FL,ID _ _ ll]
def PatD:D->Prop:=λx=>∃ p:Pat,x=p.D/\p.Ok
variable{q:Pat}
def oN{R:D->Prop}(k1:p.Ok)(k2:q.Ok)(h:∀ q:Pat,q.Ok->R q.D):tP [p.D,q.D] R:=⟨p,q,rfl,k1.wf,k2.wf,k1.deep,k2.deep,h _ k1,λa b Ng=>h _ ⟨⟨k1.wf,k2.wf⟩,by simp only[Pat.depth];omega,Ng⟩⟩
def Dq(x:Int):∃ c,atI (cs ".123456") (x % 7)=be c/\aF c:=by
 rcases(by lia:x % 7=0\/x % 7=1\/x % 7=2\/x % 7=3\/x % 7=4\/x % 7=5\/x % 7=6) with e|e|e|e|e|e|e<;>rw[e]
 .exact⟨46,by decide+kernel,.inl rfl⟩
 .exact⟨49,by decide+kernel,.inr (by lia)⟩
 .exact⟨50,by decide+kernel,.inr (by lia)⟩
 .exact⟨51,by decide+kernel,.inr (by lia)⟩
 .exact⟨52,by decide+kernel,.inr (by lia)⟩
 .exact⟨53,by decide+kernel,.inr (by lia)⟩
 .exact⟨54,by decide+kernel,.inr (by lia)⟩
def Dr{s:D'}(h:(cs s).all isSg=true):∀ c∈cs s,aF c:=λc hc=>isSign_of (Gv.mp h c hc)
def row_one{s:D'}{n:Nat}(h:s.length=n)(n8:1<=n/\n<=8)(h2:(cs s).all isSg=true):Rows [s]:=⟨by simp,n,n8,λl hl=>by rw[Fl.mp hl];exact⟨h,Dr h2⟩⟩
def vf{L:List D'}{a b c d:Int}(hL:Rows L)(ha:B12 a)(hb:B12 b)(hc:B12 c)(hd:B12 d)(hn:¬ a*d=b*c):(Pat.mot L a b c d).Ok:=⟨⟨hL,ha,hb,hc,hd,hn⟩,by simp[Pat.depth],Pat.fits_mot ha hb hc hd hn⟩
structure Both(p q:Pat)(w h s:Int):Prop where
 f:Fam0 w h s
 w7:w<=720
 h7:h<=720
 kp:∀ x y,InF w h s x y->p.Keeps x y
 kq:∀ x y,InF w h s x y->q.Keeps x y
variable{w s h:Int}
def Both.all(b:Both p q w h s)(e:∀ x y:Int,0<=x->x<w->0<=y->y<h->p.show x y=q.show x y)(x y:Int):p.show x y=q.show x y:=by
 have w0:=b.f.w0;have h0:=b.f.h0;rw[<- Pat.show_home w0 h0 b.kp x y,<- Pat.show_home w0 h0 b.kq x y];exact e _ _ (bU w0) (bV w0) (bU h0) (bV h0)
def Both.of(F:(Pat.over p q).Fam w h s)(wh:w*h<=720):Both p q w h s:=by
 have:=ci F.f.w0 F.f.h0;exact⟨F.f,by omega,by omega,λx y k=>Pat.lat_keeps ((F.lat x y).mp k).1,λx y k=>Pat.lat_keeps ((F.lat x y).mp k).2⟩
structure ComF(p q:Pat)(w h s:Int):Prop where
 f:Fam0 w h s
 lat:∀ x y,InF w h s x y↔p.Keeps x y/\q.Keeps x y
def ComF.uniq{w' h' s':Int}(a:ComF p q w h s)(b:ComF p q w' h' s'):w=w'/\h=h'/\s=s':=
 InF.uniq a.f.w0 a.f.h0 a.f.s0 a.f.sw b.f.w0 b.f.h0 b.f.s0 b.f.sw λx y=>(a.lat x y).trans (b.lat x y).symm
def ComF.of{w1 h1 s1 w2 h2 s2 A:Int}(a:p.Least w1 h1 s1)(b:q.Least w2 h2 s2)(M:MetR w1 h1 s1 w2 h2 s2 w h s A):ComF p q w h s:=
 ⟨⟨M.w0,M.h0,M.s0,M.sw⟩,λx y=>by rw[M.lat,a.lat,b.lat]⟩
def ComF.all(b:ComF p q w h s)(e:∀ x y:Int,0<=x->x<w->0<=y->y<h->p.show x y=q.show x y)(x y:Int):p.show x y=q.show x y:=by
 have w0:=b.f.w0;have h0:=b.f.h0;rw[<- Pat.show_home w0 h0 (λx y k=>((b.lat x y).mp k).1) x y,<- Pat.show_home w0 h0 (λx y k=>((b.lat x y).mp k).2) x y];exact e _ _ (bU w0) (bV w0) (bU h0) (bV h0)
def MetR.le2{w1 h1 s1 w2 h2 s2 A:Int}(M:MetR w1 h1 s1 w2 h2 s2 w h s A)(f1:Fam0 w1 h1 s1)(f2:Fam0 w2 h2 s2)(b1:w1*h1<=720)(b2:w2*h2<=720):w*h<=518400:=by
 have c:=M.cells;have A0:=M.A0;have wp:=FE M.w0 M.h0;have e1:=G9 (show 1<=A by omega) (show 0<=w*h by omega);have p1:=FE f1.w0 f1.h0;have p2:=FE f2.w0 f2.h0;have e2:=Io b1 b2 (Int.le_of_lt p2) (by omega);rw[<- Int.mul_assoc] at e2;omega
def wayD(a b c d:Int):D:= .tup [.tup [.int a,.int b],.tup [.int c,.int d]]
def Way4(a b c d:Int):Prop:=B12 a/\B12 b/\B12 c/\B12 d/\¬ a*d=b*c
def bp1(k:Int):∃ a b c d,atI [wayD 9 0 0 10,wayD 10 3 (-1) 10,wayD 5 1 1 4,wayD 12 5 0 12] (k % 4)=be (wayD a b c d)/\Way4 a b c d:=by
 unfold Way4 B12;rcases(by omega:k % 4=0\/k % 4=1\/k % 4=2\/k % 4=3) with e|e|e|e<;>rw[e]<;>exact⟨_,_,_,_,rfl,by decide⟩
def bp2(k:Int):∃ a b c d,atI [wayD 8 0 0 1,wayD 7 0 0 1,wayD 6 2 (-5) 6,wayD 5 0 2 1] (k % 4)=be (wayD a b c d)/\Way4 a b c d:=by
 unfold Way4 B12;rcases(by omega:k % 4=0\/k % 4=1\/k % 4=2\/k % 4=3) with e|e|e|e<;>rw[e]<;>exact⟨_,_,_,_,rfl,by decide⟩
def vg{v:Int}(h:1<=v/\v<=6):Rows [(toString v:String)]:=by
 rcases(by omega:v=1\/v=2\/v=3\/v=4\/v=5\/v=6) with rfl|rfl|rfl|rfl|rfl|rfl<;>exact row_one (n:=1) (by decide+kernel) (by decide) (by decide+kernel)
structure First(p q:Pat)(w h x y:Int):Prop where
 x0:0<=x
 xw:x<w
 y0:0<=y
 yh:y<h
 ne:p.show x y≠q.show x y
 bef:∀ x' y':Int,0<=x'->x'<w->0<=y'->(y'<y\/(y'=y/\x'<x))->p.show x' y'=q.show x' y'
def First.symm{x y:Int}(a:First p q w h x y):First q p w h x y:=⟨a.x0,a.xw,a.y0,a.yh,λz=>a.ne z.symm,λx' y' b c d e=>(a.bef x' y' b c d e).symm⟩
def First.uniq{x y x' y':Int}(a:First p q w h x y)(b:First p q w h x' y'):x=x'/\y=y':=by
 have n1:¬ (y'<y\/(y'=y/\x'<x)):=λz=>b.ne (a.bef x' y' b.x0 b.xw b.y0 z);have n2:¬ (y<y'\/(y=y'/\x<x')):=λz=>a.ne (b.bef x y a.x0 a.xw a.y0 z);omega
def ComF.symm(a:ComF p q w h s):ComF q p w h s:=⟨a.f,λx y=>(a.lat x y).trans ⟨λz=>⟨z.2,z.1⟩,λz=>⟨z.2,z.1⟩⟩⟩
inductive Told(p q:Pat):Bool->D->Prop where
 |big {w h s:Int} (c:ComF p q w h s) (b:720<w*h):Told p q true .non
 |same {w h s:Int} (c:ComF p q w h s) (b:w*h<=720) (e:∀ x y:Int,p.show x y=q.show x y):Told p q false .non
 |part {w h s x y:Int} (c:ComF p q w h s) (b:w*h<=720) (f:First p q w h x y):Told p q false (.tup [.int x,.int y])
def Told.symm{t:Bool}{x:D}(a:Told p q t x):Told q p t x:=by
 cases a with
 |big c b=>exact .big c.symm b
 |same c b e=>exact .same c.symm b λx y=>(e x y).symm
 |part c b f=>exact .part c.symm b f.symm
section
variable {V:Bx}
abbrev iV(V:Bx):Prop:=V.D 1 "_law_at" kN AS
def Ds(T:V.T "_law_at" kM kN)(uB:V.m "len"):iV V:=by
 refine Tx.okDW T CP (λds R h=>?_) (λf cdv A outer s H E J hr=>⟨_,((ah (aP (fH (aa 1) (cC uB (ac (aa 0) ae))) (aj (ar (af (aa 0) (aa 1)))) aG)
   (aj (ar ad)))),λds R h=>?_⟩)
 .obtain⟨ns,k,rfl,_⟩:=h;rfl
 .obtain⟨ns,k,rfl,hk,hR⟩:=h;refine ite2 (λc=>?_) (λc=>?_)
  .have c':=of_decide_eq_true c;rw[Fs] at c';exact⟨_,sX hk c',hR⟩
  .have c':=of_decide_eq_false (FW.mpr c);rw[Fs] at c';rw[AR (by lia)] at hR;exact hR
abbrev iW(V:Bx):Prop:=V.D 2 "_law_draws" kP A6
def Dt(T:V.T "_law_draws" kO kP)(uA:V.m "range")(uV:iV V):iW V:=by
 refine Tx.okDW T sc__law_draws (λds R h=>?_) (λf cdv A outer s H E J hr=>⟨_,((ah (ai 3 sc__law_draws.nd (aq uV hr (ac (aa 0) (ac (aa 1) ae))))
   (ah (eK 4 sc__law_draws.nd ae)
   (ah (aP (aY (aw (aq uV hr (ac (aa 0) (ac (am (aa 1) ad) ae))) ad) ad) (ah (bG 5 PassesOwn.never rfl sc__law_draws.nd uA (aa 2) (ah (dF 4 (aw (aa 3) ad))
     (aj (ai 3 sc__law_draws.nd (aN (aa 3) ad)))))
    (eJ 4 (aj (ar (aa 4))))) aG)
   (ah (ai 6 sc__law_draws.nd (aw (am (aa 3) ad) ad))
   (ah (bG 5 PassesOwn.never rfl sc__law_draws.nd uA (aa 2) (ah (ai 6 sc__law_draws.nd (aw (am (am (ax (aa 6) ad) (aq uV hr (ac (aa 0) (ac (am (am (aa 1) ad) (aw (aa 5) ad)) ae)))) (aa 5)) ad))
    (aj (dF 4 (aw (aw (ax (aa 6) ad) ad) ad)))))
   (eJ 4 (aj (ar (aa 4)))))))))),λds R h=>?_⟩)
 .obtain⟨_,_,_,rfl,_⟩:=h;rfl
 .obtain⟨ns,k,n,rfl,hk,hn,hR⟩:=h;refine⟨λd=>∃ v:Int,d= .int v,⟨ns,k,rfl,hk,_,rfl⟩,?_⟩;rintro _ ⟨left,rfl⟩;k_places;refine⟨by simp,?_⟩;refine⟨ns,k+1,rfl,by lia,by decide,ite2 (λ_=>?_) (λ_=>?_)⟩
  .refine⟨⟨by lia,by lia⟩,λi z=>∃ (xs:List Int) (l:Int) (o p:Option D),z=[be (.rol (ns.map D.int)),be (.int k),be (.int n),be (.int l),be (.own (xs.map D.int)),o,p]/\xs.length=i/\Drawn xs,⟨[],left,_,_,rfl,rfl,(λx hx=>by cases hx)⟩,?_,?_⟩
   .rintro i x z hi ⟨xs,l,o,p,rfl,hl,hd⟩;k_places;have g_:i<n:=by simpa using(FG.mp hi).1
    refine⟨by decide,by simp;lia,?_⟩;refine⟨λd=>∃ v:Int,d= .int v,⟨⟨by decide,by decide⟩,_,rfl⟩,?_⟩;rintro _ ⟨l',rfl⟩;k_places;rw[tf];exact⟨_,l',_,_,rfl,by simp[hl],tm hd (bU (by decide)) (bV (by decide))⟩
   .rintro z ⟨xs,l,o,p,rfl,hl,hd⟩;k_places;exact hR xs (by simpa using hl) hd
  .refine⟨λd=>∃ v:Int,d= .int v/\0<=v/\v<2147483647,⟨by decide,_,rfl,bU (by decide),bV (by decide)⟩,?_⟩;rintro _ ⟨Nh,rfl,s1,s2⟩;k_places;refine⟨⟨by lia,by lia⟩,λi z=>∃ (xs:List Int) (sd:Int) (o:Option D),z=[be (.rol (ns.map D.int)),be (.int k),be (.int n),be (.int left),be (.own (xs.map D.int)),o,be (.int sd)]/\xs.length=i/\Drawn xs/\0<=sd/\sd<2147483647,⟨[],Nh,_,rfl,rfl,(λx hx=>by cases hx),s1,s2⟩,?_,?_⟩
   .rintro i x z hi ⟨xs,sd,o,rfl,hl,hd,s1,s2⟩;k_places;have g_:i<n:=by simpa using(FG.mp hi).1
    have ex:x= .int (i:Int):=by simp[g_] at hi;exact hi.symm
    subst ex;refine⟨λd=>∃ v:Int,d= .int v/\0<=v/\v<2147483647,⟨.inr ⟨by decide,by decide⟩,by decide,ns,_,rfl,by lia,by decide,_,rfl,bU (by decide),bV (by decide)⟩,?_⟩;rintro _ ⟨QD,rfl,t1,t2⟩;k_places;refine⟨.inr ⟨by decide,by decide⟩,by decide,by decide,by simp;lia,?_⟩;rw[tf];exact⟨_,QD,_,rfl,by simp[hl],tm hd (bU (by decide)) (bV (by decide)),t1,t2⟩
   .rintro z ⟨xs,sd,o,rfl,hl,hd,_⟩;k_places;exact hR xs (by simpa using hl) hd
abbrev oO(V:Bx):Prop:=V.D 1 "_law_lines" kR Bh
def Du(T:V.T "_law_lines" kQ kR)(uA:V.m "range")(uB:V.m "len"):oO V:=by
 refine Tx.okDW T sc__law_lines (λds R h=>?_) (λf cdv A outer s H E J hr=>⟨_,((ah (ai 1 sc__law_lines.nd (am ad (aw (af (aa 0) ad) ad)))
   (ah (ai 2 sc__law_lines.nd (am ad (aw (af (aa 0) ad) ad)))
   (ah (cY (aY (aw (af (aa 0) ad) ad) ad) (ah (ai 1 sc__law_lines.nd (am ad (aw (af (aa 0) ad) ad)))
    (aj (ai 2 sc__law_lines.nd (am ad (aw (af (aa 0) ad) ad))))) aG)
   (ah (ai 3 sc__law_lines.nd (af (aL (ac ay (ac ay (ac ay (ac ay ae))))) (aw (af (aa 0) ad) ad)))
   (ah (eK 4 sc__law_lines.nd ae)
   (ah (bG 5 PassesOwn.never rfl sc__law_lines.nd uA (aa 2) (ah (ai 6 sc__law_lines.nd ay)
    (ah (bG 7 PassesOwn.never rfl sc__law_lines.nd uA (aa 1) (ah (ai 8 sc__law_lines.nd (am (ax (aa 5) (aa 1)) (aa 7)))
     (ah (ai 9 sc__law_lines.nd (aw (aN (af (aa 0) (am ad (aN (aa 8) ad))) (af (aL (ac ad (ac ad ae))) (aw (aa 8) ad))) ad))
     (aj (ai 6 sc__law_lines.nd (am (aa 6) (af (aa 3) (aw (aa 9) (cC uB (ac (aa 3) ae))))))))))
    (aj (dF 4 (aa 6))))))
   (eJ 4 (aj (ar (aa 4))))))))))),λds R h=>?_⟩)
 .obtain⟨_,rfl,_⟩:=h;rfl
 .obtain⟨xs,rfl,hl,hd,hR⟩:=h;have x_:∀ k:Nat,k<40->atI (xs.map D.int) (k:Int)=be (.int (cell xs k)):=λk hk=>cF (by lia) (by simpa using(by lia:k<xs.length));have a0:atI (xs.map D.int) 0=be (.int (cell xs 0)):=x_ 0 (by decide);have a1:atI (xs.map D.int) 1=be (.int (cell xs 1)):=x_ 1 (by decide);have a2:atI (xs.map D.int) 2=be (.int (cell xs 2)):=x_ 2 (by decide);have a3:atI (xs.map D.int) 3=be (.int (cell xs 3)):=x_ 3 (by decide);clear hl;refine⟨λd=>∃ v:Int,d= .int v/\1<=v/\v<=8,⟨_,a0,by decide,_,rfl,by lia⟩,?_⟩;rintro _ ⟨w0,rfl,QE⟩;k_places;refine⟨λd=>∃ v:Int,d= .int v/\1<=v/\v<=8,⟨_,a1,by decide,_,rfl,by lia⟩,?_⟩;rintro _ ⟨t0,rfl,RA⟩;k_places;refine⟨λz=>∃ w t:Nat,z=[be (.lst (xs.map D.int)),be (.int w),be (.int t),m9,m9,m9,m9,m9,m9,m9]/\(1<=w/\w<=8)/\(1<=t/\t<=8),⟨_,a2,by decide,ite2 (λ_=>?_) (λ_=>?_)⟩,?_⟩
  .refine⟨λd=>∃ v:Nat,d= .int v/\1<=v/\v<=8,⟨_,a0,by decide,(1+cell xs 0 % 8).toNat,by rw[F5 (by lia)],by lia⟩,?_⟩;rintro _ ⟨w,rfl,hw⟩;k_places;refine⟨λd=>∃ v:Nat,d= .int v/\1<=v/\v<=8,⟨_,a1,by decide,(1+cell xs 1 % 8).toNat,by rw[F5 (by lia)],by lia⟩,?_⟩;rintro _ ⟨t,rfl,ht⟩;k_places;exact⟨w,t,rfl,hw,ht⟩
  .obtain⟨w,rfl⟩:∃ w:Nat,w0=(w:Int):=⟨w0.toNat,by lia⟩;obtain⟨t,rfl⟩:∃ t:Nat,t0=(t:Int):=⟨t0.toNat,by lia⟩;exact⟨w,t,rfl,by lia,by lia⟩
  rintro _ ⟨w,t,rfl,hw,ht⟩;k_places;obtain⟨sg,es,hs⟩:=Bd (cell xs 3);refine⟨λd=>d= .str sg,⟨by simp,_,a3,by decide,_,es,rfl⟩,?_⟩;rintro _ rfl;k_places;refine⟨by simp,?_⟩;refine⟨⟨by lia,by lia⟩,λk z=>∃ (L:List D') (o1 o2 o3 o4 o5:Option D),z=[be (.lst (xs.map D.int)),be (.int w),be (.int t),be (.str sg),be (.own (L.map D.str)),o1,o2,o3,o4,o5]/\L.length=k/\∀ l∈L,l.length=w/\∀ c∈cs l,aF c,⟨[],_,_,_,_,_,rfl,rfl,(λx hx=>by cases hx)⟩,?_,?_⟩
  .rintro j x z hj ⟨L,o1,o2,o3,o4,o5,rfl,hL,p8⟩;k_places;have J6:j<t:=by simpa using(FG.mp hj).1
   have ex:x= .int (j:Int):=by simp[J6] at hj;exact hj.symm
   subst ex;refine⟨λd=>d= .str "",rfl,?_⟩;rintro _ rfl;k_places;refine⟨⟨by lia,by lia⟩,λi z=>∃ (ln:D') (o3 o4 o5:Option D),z=[be (.lst (xs.map D.int)),be (.int w),be (.int t),be (.str sg),be (.own (L.map D.str)),be (.int j),be (.str ln),o3,o4,o5]/\ln.length=i/\∀ c∈cs ln,aF c,⟨_,_,_,_,rfl,rfl,(λc hc=>by rw[tw] at hc;cases hc)⟩,?_,?_⟩
   .rintro i y z hi ⟨ln,o3,o4,o5,rfl,LU,Ni⟩;k_places;have g_:i<w:=by simpa using(FG.mp hi).1
    have ey:y= .int (i:Int):=by simp[g_] at hi;exact hi.symm
    subst ey;have pb:=bA (a:=(j:Int)) (d:=(w:Int)) (A:=7) (B:=8) (by lia) (by lia);have pn:0<=(j:Int)*(w:Int):=Hy (by lia) (by lia);refine⟨λd=>∃ p:Nat,d= .int p/\p<=63,⟨.inl ⟨by lia,by lia⟩,((j:Int)*w+i).toNat,by rw[F5 (by lia)],by lia⟩,?_⟩;rintro _ ⟨p,rfl,hp⟩;k_places;obtain⟨m,em,hm⟩:=Be (p:Int);have ap:=x_ (8+p / 2) (by lia);have ec:((8+p / 2:Nat):Int)=8+(p:Int) / 2:=by lia
    rw[ec] at ap;refine⟨λd=>∃ v:Int,d= .int v,⟨⟨by decide,by decide⟩,_,ap,by simp,by decide,_,em,⟨by lia,by lia⟩,by decide,_,rfl⟩,?_⟩;rintro _ ⟨v,rfl⟩;k_places;obtain⟨c,⟨h1,h2⟩,h3⟩:=A8 hs v;refine⟨λd=>∃ x:D',d= .str x/\x.length=i+1/\∀ c∈cs x,aF c,⟨h1,by have:=hs.1;lia,c,⟨h1,h2⟩,?_,_,rfl,Bf LU Ni h3⟩,?_⟩
    .rw[LU];show i+1<=1000000;lia
    rintro _ ⟨x,rfl,g1,g2⟩;k_places;exact⟨x,_,_,_,rfl,g1,g2⟩
   .rintro z ⟨ln,o3,o4,o5,rfl,LU,Ni⟩;k_places;have Nj:ln.length=w:=by simpa using LU
    refine⟨by simp[hL];lia,?_⟩;rw[Bg];refine⟨_,_,_,_,_,_,rfl,by simp[hL],λl hl=>?_⟩;rcases FO.mp hl with q|q
    .exact p8 l q
    .rw[Fl.mp q];exact⟨Nj,Ni⟩
  .rintro z ⟨L,o1,o2,o3,o4,o5,rfl,hL,p8⟩;k_places;exact hR L (Rows.of ht.1 ht.2 (by simpa using hL) hw.1 hw.2 p8)
abbrev oP(V:Bx):Prop:=V.D 1 "_law_shift_pair" kT A7
def Dv(T:V.T "_law_shift_pair" kS kT)(uD:V.m "int"):oP V:=by
 refine Tx.okDW T sc__law_shift_pair (λds R h=>?_) (λf cdv A outer s H E J hr=>⟨_,((ah (aP (aY (aw (aN (af (aa 0) ad) ad) ad) ad) (aj (ar (aL (ac (av (ac (am ad (aw (af (aa 0) ad) ad)) (ac ad ae))) (ac (av (ac ad (ac (am ad (aw (af (aa 0) ad) ad)) ae))) ae))))) aG)
   (ah (aP (aY (aw (aN (af (aa 0) ad) ad) ad) ad) (aj (ar (aL (ac (av (ac (am ad (aw (af (aa 0) ad) ad)) (ac ad ae))) (ac (av (ac (bq (aw (af (aa 0) ad) ad) ad) (ac (am ad (aw (af (aa 0) ad) ad)) ae))) ae))))) aG)
   (ah (ai 1 sc__law_shift_pair.nd (bq (aw (af (aa 0) ad) ad) ad))
   (ah (ai 2 sc__law_shift_pair.nd (bq (aw (af (aa 0) ad) ad) ad))
   (ah (ai 3 sc__law_shift_pair.nd (bq (aw (af (aa 0) ad) ad) ad))
   (ah (ai 4 sc__law_shift_pair.nd (bq (aw (af (aa 0) ad) ad) ad))
   (ah (ai 1 sc__law_shift_pair.nd (am (aa 1) (gL uD (ac (gK (dE (aa 1) ad) (gJ (dE (aa 2) ad))) ae))))
   (ah (aP (aY (ax (aa 1) (aa 4)) (ax (aa 2) (aa 3))) (aj (ar (aL (ac (av (ac (aa 1) (ac (aa 2) ae))) (ac (av (ac (cb (aa 2)) (ac (aa 1) ae))) ae))))) aG)
   (aj (ar (aL (ac (av (ac (aa 1) (ac (aa 2) ae))) (ac (av (ac (aa 3) (ac (aa 4) ae))) ae)))))))))))))),λds R h=>?_⟩)
 .obtain⟨_,rfl,_⟩:=h;rfl
 .obtain⟨xs,rfl,hl,hd,hR⟩:=h;have a3:=cF (xs:=xs) (k:=3) (by decide) (show 3<xs.length by lia);have a4:=cF (xs:=xs) (k:=4) (by decide) (show 4<xs.length by lia);have a5:=cF (xs:=xs) (k:=5) (by decide) (show 5<xs.length by lia);have a6:=cF (xs:=xs) (k:=6) (by decide) (show 6<xs.length by lia);have a7:=cF (xs:=xs) (k:=7) (by decide) (show 7<xs.length by lia);generalize cell xs 3=x3 at*;generalize cell xs 4=x4 at*;generalize cell xs 5=x5 at*;generalize cell xs 6=x6 at*;generalize cell xs 7=x7 at*;clear hl hd;refine⟨_,a3,⟨by decide,by decide⟩,by decide,ite2 (λ_=>?_) (λ_=>?_)⟩
  .refine⟨_,a4,by decide,by simp,_,a5,by decide,by simp,by simp,hR _ _ _ _ (by lia) (by lia) (by lia) (by lia) ?_⟩;have p:0<(1+x4 % 6)*(1+x5 % 6):=FE (by lia) (by lia);lia
  refine⟨_,a3,⟨by decide,by decide⟩,by decide,ite2 (λ_=>?_) (λ_=>?_)⟩
  .refine⟨_,a4,by decide,by simp,_,a6,by decide,_,a5,by decide,by simp,by simp,hR _ _ _ _ (by lia) (by lia) (by lia) (by lia) ?_⟩;have p:0<(1+x4 % 6)*(1+x5 % 4):=FE (by lia) (by lia);lia
  refine⟨λd=>∃ v:Int,d= .int v/\-12<=v/\v<=12,⟨_,a4,by decide,_,rfl,by lia⟩,?_⟩;rintro _ ⟨a,rfl,ha⟩;k_places;refine⟨λd=>∃ v:Int,d= .int v/\-12<=v/\v<=12,⟨_,a5,by decide,_,rfl,by lia⟩,?_⟩;rintro _ ⟨b,rfl,hb⟩;k_places;refine⟨λd=>∃ v:Int,d= .int v/\-12<=v/\v<=12,⟨_,a6,by decide,_,rfl,by lia⟩,?_⟩;rintro _ ⟨c,rfl,hc⟩;k_places;refine⟨λd=>∃ v:Int,d= .int v/\-12<=v/\v<=12,⟨_,a7,by decide,_,rfl,by lia⟩,?_⟩;rintro _ ⟨d,rfl,e8⟩;k_places;refine⟨λx=>∃ v:Int,x= .int v/\(-12<=v/\v<=12)/\¬ (v=0/\b=0),ite2 (λe=>?_) (λe=>?_),?_⟩
  .have e':=of_decide_eq_true e;by_cases O7:b=0
   .refine⟨_,rfl,?_⟩;subst e' O7;simp
   .refine⟨_,rfl,?_⟩;subst e';simp[O7]
  .have e':=of_decide_eq_false (FW.mpr e);refine⟨_,rfl,?_⟩;simp;lia
  rintro _ ⟨a,rfl,ha,K9⟩;k_places;refine⟨.inl (i64 ha.1 ha.2),.inl (i64 hb.1 hb.2),ite2 (λe=>?_) (λe=>?_)⟩
  .refine⟨by simp,by simp,by simp,hR a b (-b) a ha hb (by lia) ha ?_⟩;rw[Go];intro z;have s1:0<=a*a:=sq0 a;have s2:0<=b*b:=sq0 b;have z1:a*a=0:=by omega
   have z2:b*b=0:=by omega
   exact K9 ⟨(GT.mp z1).elim id id,(GT.mp z2).elim id id⟩
  .have e':=of_decide_eq_false (FW.mpr e);exact⟨by simp,by simp,by simp,hR a b c d ha hb hc e8 e'⟩
abbrev fZ(V:Bx):Prop:=V.D 1 "_law_motif_text" kW Bi
def Dw(T:V.T "_law_motif_text" kU kW)(uL:V.m "str"):fZ V:=by
 refine Tx.okDW T sc__law_motif_text (λds R h=>?_) (λf cdv A outer s H E J hr=>⟨_,((ah (ai 3 sc__law_motif_text.nd (am (am (am (am (am (am (am ay (cD uL (ac (af (aa 1) ad) ae))) ay) (cD uL (ac (af (aa 1) ad) ae))) ay) (cD uL (ac (af (aa 2) ad) ae))) ay) (cD uL (ac (af (aa 2) ad) ae))))
   (aj (ar (am (am (am ay (jS (aa 0))) (aa 3)) ay))))),λds R h=>?_⟩)
 .obtain⟨_,_,_,_,_,rfl,_⟩:=h;rfl
 .obtain⟨L,a,b,c,d,rfl,hL,ha,hb,hc,hd,hR⟩:=h;have la:=bw ha;have lb:=bw hb;have lc:=bw hc;have ld:=bw hd;have l1:(";":D').length=1:=rfl;have l2:(",":D').length=1:=rfl;have l3:("[":D').length=1:=rfl;have l4:("]":D').length=1:=rfl;have ls:=tz hL;have lj:=StrLaws.join_length_le "/" L;unfold B12 at ha hb hc hd;refine⟨λx=>x= .str ((((((((";":D')++(toString a:String))++",")++(toString b:String))++";")++(toString c:String))++",")++(toString d:String)),⟨_,rfl,by lia,?_,?_,_,rfl,by lia,?_,?_,_,rfl,by lia,?_,?_,_,rfl,by lia,?_,rfl⟩,?_⟩
  .lia
  .rw[aA];lia
  .rw[aA,aA];lia
  .rw[aA,aA,aA];lia
  .rw[aA,aA,aA,aA];lia
  .rw[aA,aA,aA,aA,aA];lia
  .rw[aA,aA,aA,aA,aA,aA];lia
  rintro _ rfl;k_places;have lg:(Txt.join "/" L).length<=72:=by
   have e:Txt.join "/" L=Str.join "/" L:=StrLaws.glued_eq_join _ _;rw[e];exact FA lj ls
  refine⟨L,hU L,by lia,?_,?_,?_,hR⟩
  .lia
  .repeat rw[aA]
   lia
  .repeat rw[aA]
   lia
abbrev iX(V:Bx):Prop:=V.D 3 "_law_motif" kY Bk
def Dx(T:V.T "_law_motif" kX kY)(J7:iW V)(Nk:oO V)(Nl:oP V)(IT:fZ V):iX V:=by
 refine Tx.okDW T sc__law_motif (λds R h=>?_) (λf cdv A outer s H E J hr=>⟨_,((ah (ai 2 sc__law_motif.nd (aq J7 hr (ac (aa 0) (ac (aa 1) (ac ad ae)))))
   (ah (ai 3 sc__law_motif.nd (aq Nk hr (ac (aa 2) ae)))
   (ah (rG rfl (aq Nl hr (ac (aa 2) ae)) (dg_cons 4 sc__law_motif.nd (dg_cons 5 sc__law_motif.nd cL)))
   (ah (ai 6 sc__law_motif.nd (av (ac (aa 3) (ac (aa 4) (ac (aa 5) (ac (av (ac ad (ac ad (ac ad (ac ad (ac ad (ac ad ae))))))) (ac (aL (ac ad (ac ad (ac ad (ac ad (ac ad (ac ad (ac ad ae)))))))) ae)))))))
   (aj (ar (aL (ac (aq IT hr (ac (aa 3) (ac (aa 4) (ac (aa 5) ae)))) (ac ad (ac (aL (ac (aa 6) ae)) ae))))))))))),λds R h=>?_⟩)
 .obtain⟨_,_,rfl,_⟩:=h;rfl
 .obtain⟨ns,k,rfl,hk,hR⟩:=h;refine⟨λx=>∃ xs:List Int,x= .lst (xs.map D.int)/\xs.length=40/\Drawn xs,⟨ns,k,40,rfl,hk,by decide,λxs h1 h2=>⟨xs,rfl,h1,h2⟩⟩,?_⟩;rintro _ ⟨xs,rfl,hl,hd⟩;k_places;refine⟨λx=>∃ L:List D',x= .lst (L.map D.str)/\Rows L,⟨xs,rfl,by lia,hd,λL h=>⟨L,rfl,h⟩⟩,?_⟩;rintro _ ⟨L,rfl,hL⟩;k_places;refine⟨xs,rfl,by lia,hd,λa b c d ha hb hc e8 hn=>⟨rfl,?_⟩⟩;refine⟨λx=>x=(bo L a b c d).D,⟨by simp,by simp,by simp,rfl⟩,?_⟩;rintro _ rfl;k_places;exact⟨L,a,b,c,d,rfl,hL,ha,hb,hc,e8,by simp,by simp,hR L a b c d hL ha hb hc e8 hn⟩
abbrev gc(V:Bx):Prop:=V.D 1 "_law_wrapped" kZ Bt
def Dy(T:V.T "_law_wrapped" ie kZ)(uL:V.m "str")(J8:V.m "list")(uD:V.m "int"):gc V:=by
 refine Tx.okDW T sc__law_wrapped (λds R h=>?_) (λf cdv A outer s H E J hr=>⟨_,((ah (aP (rB (af (aa 0) ad) ad) (aj (ar (aa 0))) aG)
   (ah (ai 2 sc__law_wrapped.nd (bq (aw (aN (aa 1) ad) ad) ad))
   (ah (ai 3 sc__law_wrapped.nd (bq (aw (aN (aa 1) ad) ad) ad))
   (ah (ai 4 sc__law_wrapped.nd (am ad (aw (aN (aa 1) ad) ad)))
   (ah (ai 5 sc__law_wrapped.nd (am ad (aw (aN (aa 1) ad) ad)))
   (ah (ai 6 sc__law_wrapped.nd (am (am (am (am ay (cD uL (ac (aa 2) ae))) ay) (cD uL (ac (aa 3) ae))) ay))
   (ah (ai 7 sc__law_wrapped.nd (af (aL (ac ay (ac ay (ac (aa 6) (ac (am (am ay (cD uL (ac (aa 4) ae))) (cD uL (ac (aa 5) ae))) ae))))) (aw (aa 1) ad)))
   (ah (ai 8 sc__law_wrapped.nd (aL (ac (av (ac (cb ad) (ac ad (ac ad (ac ad (ac ad (ac ad ae))))))) (ac (av (ac ad (ac ad (ac (cb ad) (ac ad (ac ad (ac ad ae))))))) ae))))
   (ah (ai 8 sc__law_wrapped.nd (am (aa 8) (aL (ac (av (ac ad (ac ad (ac ad (ac ad (ac (cb (aa 2)) (ac (cb (aa 3)) ae))))))) (ac (av (ac ad (ac ad (ac ad (ac ad (ac ad (ac ad ae))))))) ae)))))
   (ah (ai 9 sc__law_wrapped.nd (af (aa 8) (aw (aa 1) ad)))
   (ah (eK 10 sc__law_wrapped.nd ae)
   (ah (fM 11 PassesOwn.never rfl sc__law_wrapped.nd (af (aa 0) ad) (ah (jP rfl (af (aa 11) ad) (dg_cons 12 sc__law_wrapped.nd (dg_cons 13 sc__law_wrapped.nd (dg_cons 14 sc__law_wrapped.nd (dg_cons 15 sc__law_wrapped.nd (dg_cons 16 sc__law_wrapped.nd (dg_cons 17 sc__law_wrapped.nd cL)))))))
    (ah (ai 18 sc__law_wrapped.nd (av (ac (am (ax (aa 12) (af (aa 9) ad)) (ax (aa 13) (af (aa 9) ad))) (ac (am (ax (aa 12) (af (aa 9) ad)) (ax (aa 13) (af (aa 9) ad))) ae))))
    (ah (ai 18 sc__law_wrapped.nd (am (aa 18) (av (ac (am (ax (aa 14) (af (aa 9) ad)) (ax (aa 15) (af (aa 9) ad))) (ac (am (ax (aa 14) (af (aa 9) ad)) (ax (aa 15) (af (aa 9) ad))) ae)))))
    (ah (ai 16 sc__law_wrapped.nd (am (am (aa 16) (ax (aa 12) (af (aa 9) ad))) (ax (aa 13) (af (aa 9) ad))))
    (ah (ai 17 sc__law_wrapped.nd (am (am (aa 17) (ax (aa 14) (af (aa 9) ad))) (ax (aa 15) (af (aa 9) ad))))
    (ah (ai 19 sc__law_wrapped.nd (yB J8 (ac (af (aa 11) ad) ae)))
    (ah (cY (aY (aw (aa 1) ad) ad) (aj (yY 19 rfl (compScope (by change cM _ (ag ie) ["_law_part","_law_draw","_law_across","_law_down","_law_old","_law_new","_law_shift","_law_head","_law_ways","_law_by","_law_leaves","_law_leaf","_law_a","_law_b","_law_c","_law_d","_law_e","_law_f","_law_way","_law_hues"] _=true;decide+kernel)) sc__law_wrapped.nd (af (aa 11) ad) (λcl s0 H0 fp=>(af (aL (ac (aa 20) (ac (aa 5) ae))) (gL uD (ac (dE (aa 20) (aa 4)) ae)))))) aG)
    (aj (dF 10 (av (ac (af (aa 11) ad) (ac (af (aa 11) ad) (ac (af (aa 11) ad) (ac (am (aa 18) (av (ac (aa 16) (ac (aa 17) ae)))) (ac (aa 19) ae))))))))))))))))
   (eJ 10 (aj (ar (aL (ac (am (aa 7) (af (aa 0) ad)) (ac (am (af (aa 0) ad) ad) (ac (aa 10) ae)))))))))))))))))))),λds R h=>?_⟩)
 .obtain⟨_,_,rfl,_⟩:=h;rfl
 .obtain⟨p,draw,rfl,wf,hd,ht,hW⟩:=h;refine⟨_,rfl,ite2 (λc=>?_) (λc=>?_)⟩
  .have c':=of_decide_eq_true c;exact hW.1 (by lia)
  have c':=of_decide_eq_false (FW.mpr c);have e8:p.depth<5:=by lia
  refine⟨λd=>∃ v:Int,d= .int v/\B12 v,⟨⟨by decide,by decide⟩,by decide,_,rfl,by unfold B12;lia⟩,?_⟩;rintro _ ⟨A,rfl,hA⟩;simp only[FL,FN,aV];refine⟨λd=>∃ v:Int,d= .int v/\B12 v,⟨⟨by decide,by decide⟩,by decide,_,rfl,by unfold B12;lia⟩,?_⟩;rintro _ ⟨B,rfl,hB⟩;simp only[FL,FN,aV];refine⟨λd=>∃ v:Int,d= .int v/\1<=v/\v<=6,⟨⟨by decide,by decide⟩,by decide,_,rfl,by lia⟩,?_⟩;rintro _ ⟨d9,rfl,ho⟩;simp only[FL,FN,aV];refine⟨λd=>∃ v:Int,d= .int v/\1<=v/\v<=6,⟨⟨by decide,by decide⟩,by decide,_,rfl,by lia⟩,?_⟩;rintro _ ⟨new,rfl,hn⟩;simp only[FL,FN,aV];have l1:("s":D').length=1:=rfl;have l2:(",":D').length=1:=rfl;have l3:(":":D').length=1:=rfl;have l4:("h":D').length=1:=rfl;have lA:=bw hA;have lB:=bw hB;have lo:=db ho;have ln:=db hn;obtain⟨hs,b0,b1,b2,b3,b4,b5,e1,e2,hb,hl,hR⟩:=Br hW e8 (k:=0) hA hB ho hn (by lia);unfold B12 at hA hB;refine⟨λx=>x= .str ((((("s":D')++(toString A:String))++",")++(toString B:String))++":"),⟨by lia,?_,?_,by lia,?_,?_,rfl⟩,?_⟩
  .lia
  .rw[aA];lia
  .rw[aA,aA];lia
  .rw[aA,aA,aA];lia
  rintro _ rfl;simp only[FL,FN,aV];refine⟨λx=>x= .str hs,⟨by lia,?_,by lia,?_,by simp,by decide,_,e1,rfl⟩,?_⟩
  .lia
  .rw[aA];lia
  rintro _ rfl;simp only[FL,FN,aV];refine⟨λx=>x= .lst [D.tup [.int (-1),.int 0,.int 0,.int 1,.int 0,.int 0],D.tup [.int 0,.int 1,.int (-1),.int 0,.int 0,.int 0]],⟨by simp,by simp,by simp,rfl⟩,?_⟩;rintro _ rfl;simp only[FL,FN,aV];refine⟨λx=>x= .lst ([D.tup [.int (-1),.int 0,.int 0,.int 1,.int 0,.int 0],D.tup [.int 0,.int 1,.int (-1),.int 0,.int 0,.int 0]]++[D.tup [.int 1,.int 0,.int 0,.int 1,.int (-A),.int (-B)],D.tup [.int 1,.int 0,.int 0,.int 1,.int 0,.int 0]]),⟨by simp,by simp,by simp,by simp,rfl⟩,?_⟩;rintro _ rfl;simp only[FL,FN,aV];refine⟨λx=>x= .tup [.int b0,.int b1,.int b2,.int b3,.int b4,.int b5],⟨by decide,_,e2,rfl⟩,?_⟩;rintro _ rfl;simp only[FL,FN,aV];refine⟨by simp,?_⟩;generalize D.str ((((("s":D')++(toString A:String))++",")++(toString B:String))++":")=sD;generalize D.lst ([D.tup [.int (-1),.int 0,.int 0,.int 1,.int 0,.int 0],D.tup [.int 0,.int 1,.int (-1),.int 0,.int 0,.int 0]]++[D.tup [.int 1,.int 0,.int 0,.int 1,.int (-A),.int (-B)],D.tup [.int 1,.int 0,.int 0,.int 1,.int 0,.int 0]])=wD;clear e1 e2 hW lA lB lo ln l1 l2 l3 l4 hA hB c';refine⟨_,rfl,λk z=>∃ Nm Nn No Np Nq Nr Nt Nu J9:Option D,z=[be p.D,be (.int draw),be (.int A),be (.int B),be (.int d9),be (.int new),be sD,be (.str hs),be wD,be (.tup [.int b0,.int b1,.int b2,.int b3,.int b4,.int b5]),be (.own (((p.leaves.take k).map (Leaf.T (decide (draw % 4=3)) d9 new b0 b1 b2 b3 b4 b5)).map Leaf.D)),Nm,Nn,No,Np,Nq,Nr,Nt,Nu,J9],⟨_,_,_,_,_,_,_,_,_,rfl⟩,?_,?_⟩
  .rintro k v z hk ⟨Nm,Nn,No,Np,Nq,Nr,Nt,Nu,J9,rfl⟩;k_places;rw[FF] at hk;have n_:k<p.leaves.length:=by
    rcases GE k p.leaves.length with q|q
    .exact q
    .rw[Gn q] at hk;cases hk
   have J_:p.leaves[k]?=be p.leaves[k]:=FJ n_;rw[J_] at hk;cases hk;obtain⟨gd,nr⟩:=Pat.leaf_good wf p.leaves[k] (FT n_);have a_:(p.leaves.take k).length<=1000:=by rw[G0];have:=Pat.leaves_32 hd;lia
   generalize p.leaves[k]=l at J_ gd nr;obtain⟨r0,r1,r2,r3⟩:=nr.unit;obtain⟨q0,q1,q2,q3,q4,q5⟩:=hb;refine⟨_,rfl,rfl,?_⟩;simp only[FL,FN,aV];refine⟨λx=>x= .tup [.int (l.w0*b0+l.w1*b2),.int (l.w0*b1+l.w1*b3)],⟨_,rfl,.inr (n64 q0),_,rfl,.inr (n64 q2),_,rfl,.inr (n64 q1),_,rfl,.inr (n64 q3),by simp,rfl⟩,?_⟩;rintro _ rfl;simp only[FL,FN,aV];refine⟨λx=>x= .tup [.int (l.w0*b0+l.w1*b2),.int (l.w0*b1+l.w1*b3),.int (l.w2*b0+l.w3*b2),.int (l.w2*b1+l.w3*b3)],⟨_,rfl,.inr (n64 q0),_,rfl,.inr (n64 q2),_,rfl,.inr (n64 q1),_,rfl,.inr (n64 q3),by simp,by simp,rfl⟩,?_⟩;rintro _ rfl;simp only[FL,FN,aV];refine⟨λx=>x= .int (l.w4+l.w0*b4+l.w1*b5),⟨_,rfl,.inr (n64 q4),_,rfl,.inr (n64 q5),rfl⟩,?_⟩;rintro _ rfl;simp only[FL,FN,aV];refine⟨λx=>x= .int (l.w5+l.w2*b4+l.w3*b5),⟨_,rfl,.inr (n64 q4),_,rfl,.inr (n64 q5),rfl⟩,?_⟩;rintro _ rfl;simp only[FL,FN,aV];refine⟨λx=>x= .lst (l.hues.map D.int),⟨_,rfl,rfl⟩,?_⟩;rintro _ rfl;simp only[FL,FN,aV];refine⟨λz=>∃ J9:List Int,J9=(Leaf.T (decide (draw % 4=3)) d9 new b0 b1 b2 b3 b4 b5 l).hues/\z=[be p.D,be (.int draw),be (.int A),be (.int B),be (.int d9),be (.int new),be sD,be (.str hs),be wD,be (.tup [.int b0,.int b1,.int b2,.int b3,.int b4,.int b5]),be (.own (((p.leaves.take k).map (Leaf.T (decide (draw % 4=3)) d9 new b0 b1 b2 b3 b4 b5)).map Leaf.D)),be l.D,be (.int l.w0),be (.int l.w1),be (.int l.w2),be (.int l.w3),be (.int (l.w4+l.w0*b4+l.w1*b5)),be (.int (l.w5+l.w2*b4+l.w3*b5)),be (.tup [.int (l.w0*b0+l.w1*b2),.int (l.w0*b1+l.w1*b3),.int (l.w2*b0+l.w3*b2),.int (l.w2*b1+l.w3*b3)]),be (.lst (J9.map D.int))],⟨by decide,ite2 (λc=>?_) (λc=>?_)⟩,?_⟩
   .have c3:=of_decide_eq_true c;refine⟨λx=>x= .lst ((l.hues.map (bC d9 new)).map D.int),⟨_,rfl,by rw[Fs,gd.many];decide,λk ys=>ys=((l.hues.take k).map (bC d9 new)).map D.int,rfl,?_,?_⟩,?_⟩
    .rintro k' x ys hx hl rfl;rw[FF] at hx;cases e:l.hues[k']? with
     |none=>rw[e] at hx;cases hx
     |some hu=>
      rw[e] at hx;cases hx;refine⟨by simp,_,Bs hu d9 new,?_⟩;dsimp only;rw[kC e];simp
    .rintro ys hl rfl;rw[Fs,Hd]
    .rintro _ rfl;k_places;exact⟨_,by simp[Leaf.T,c3,Leaf.dye,Leaf.by],rfl⟩
   .have c3:=of_decide_eq_false (FW.mpr c);exact⟨_,by simp[Leaf.T,c3,Leaf.by],rfl⟩
   rintro _ ⟨hu,QF,rfl⟩;k_places;refine⟨_,rfl,_,rfl,_,rfl,by simp,by simp,by simp,by rw[Fs,Fs];lia,?_⟩;have eT:(D.tup [.lst (l.rows.map D.str),.tup [.int l.a,.int l.b],.tup [.int l.c,.int l.d],.tup ([.int (l.w0*b0+l.w1*b2),.int (l.w0*b1+l.w1*b3),.int (l.w2*b0+l.w3*b2),.int (l.w2*b1+l.w3*b3)]++[.int (l.w4+l.w0*b4+l.w1*b5),.int (l.w5+l.w2*b4+l.w3*b5)]),.lst (hu.map D.int)])=(Leaf.T (decide (draw % 4=3)) d9 new b0 b1 b2 b3 b4 b5 l).D:=by
    rw[QF];by_cases c3:draw % 4=3
    .simp[Leaf.T,c3,Leaf.D,Leaf.dye,Leaf.by]
    .simp[Leaf.T,c3,Leaf.D,Leaf.by]
   have e9:((p.leaves.take (k+1)).map (Leaf.T (decide (draw % 4=3)) d9 new b0 b1 b2 b3 b4 b5)).map Leaf.D=((p.leaves.take k).map (Leaf.T (decide (draw % 4=3)) d9 new b0 b1 b2 b3 b4 b5)).map Leaf.D++[(Leaf.T (decide (draw % 4=3)) d9 new b0 b1 b2 b3 b4 b5 l).D]:=by
    rw[kC J_,FX,FX,FB,FB,Gi,Gi]
   rw[e9,<- eT];exact⟨_,_,_,_,_,_,_,_,_,rfl⟩
  .rintro z ⟨Nm,Nn,No,Np,Nq,Nr,Nt,Nu,J9,rfl⟩;k_places;rw[Fs,Hd];refine⟨_,rfl,by lia,_,rfl,by simp,hR⟩
abbrev iY(V:Bx):Prop:=V.D 1 "_law_gcd" lh AW
def Dz(T:V.T "_law_gcd" lf lh)(uM:V.m "abs"):iY V:=by
 refine Tx.okDW T sc__law_gcd (λds R h=>?_) (λf cdv A outer s H E J hr=>⟨_,((ah (ai 0 sc__law_gcd.nd (eA uM (ac (aa 0) ae)))
   (ah (ai 1 sc__law_gcd.nd (eA uM (ac (aa 1) ae)))
   (ah (dG PassesOwn.never (ce (aa 1) ad) (aj (yu 0 1 rfl sc__law_gcd.nd (ac (aa 1) (ac (aw (aa 0) (aa 1)) ae)))))
   (aj (ar (aa 0))))))),λds R h=>?_⟩)
 .obtain⟨x,y,rfl,_⟩:=h;rfl
 .obtain⟨x,y,rfl,hR⟩:=h;refine⟨λd=>d= .int (if x<0 then -x else x),rfl,?_⟩;rintro _ rfl;k_places;refine⟨λd=>d= .int (if y<0 then -y else y),rfl,?_⟩;rintro _ rfl;k_places;have hx:0<=(if x<0 then -x else x):=by split<;>lia
  have hy:0<=(if y<0 then -y else y):=by split<;>lia
  have Nv:∀ e,(e∣(if x<0 then -x else x)/\e∣(if y<0 then -y else y))↔(e∣x/\e∣y):=λe=>by rw[sY,sY]
  generalize (if x<0 then -x else x)=a at hx Nv ⊢;generalize (if y<0 then -y else y)=b at hy Nv ⊢;refine⟨λm z=>∃ a b:Int,z=[be (.int a),be (.int b)]/\0<=a/\0<=b/\(∀ e,(e∣a/\e∣b)↔(e∣x/\e∣y))/\m=b.toNat,⟨_,a,b,rfl,hx,hy,Nv,rfl⟩,?_⟩;rintro m z ⟨a,b,rfl,ha,hb,K9,rfl⟩;k_places;refine ite2 (λc=>?_) (λc=>?_)
  .have c':¬ b=0:=by simpa using c
   have q1:=bU (a:=a) (show 0<b by lia);have q2:=bV (a:=a) (show 0<b by lia);refine⟨by lia,_,?_,b,a % b,rfl,hb,q1,λe=>?_,rfl⟩
   .lia
   .rw[<- K9 e];constructor
    .rintro⟨h1,h2⟩;exact⟨(sZ h1).mp h2,h1⟩
    .rintro⟨h1,h2⟩;exact⟨h2,(sZ h2).mpr h1⟩
  .have c':b=0:=by simpa using c
   subst c';have g:=(K9 a).mp ⟨Int.dvd_refl a,Int.dvd_zero a⟩;exact hR a ha g.1 g.2 λe h1 h2=>((K9 e).mpr ⟨h1,h2⟩).1
abbrev iZ(V:Bx):Prop:=V.D 1 "_law_on" lp AV
def DB(T:V.T "_law_on" lm lp):iZ V:=by
 refine Tx.okDW T sc__law_on (λds R h=>?_) (λf cdv A outer s H E J hr=>⟨_,((ah (ai 4 sc__law_on.nd (bq (ax (af (aa 0) ad) (af (aa 1) ad)) (ax (af (aa 0) ad) (af (aa 1) ad))))
   (aj (ar (gK (dE (rj (bq (ax (aa 2) (af (aa 1) ad)) (ax (aa 3) (af (aa 1) ad))) (aa 4)) ad) (gJ (dE (rj (bq (ax (af (aa 0) ad) (aa 3)) (ax (af (aa 0) ad) (aa 2))) (aa 4)) ad))))))),λds R h=>?_⟩)
 .obtain⟨a,b,c,d,u,v,rfl,_⟩:=h;rfl
 .obtain⟨a,b,c,d,u,v,rfl,ha,hb,hc,hd,hn,hR⟩:=h;have Ka:∀ {x:Int},x.natAbs<1073741824->-(2 ^ 64)<x/\x<2 ^ 64:=λh=>n64 (Nat.le_of_lt_succ h);refine⟨λx=>x= .int (a*d - b*c),⟨_,rfl,_,rfl,.inl (Ka ha),_,rfl,_,rfl,.inl (Ka hb),rfl⟩,?_⟩;rintro _ rfl;k_places;refine⟨_,rfl,.inr (Ka hd),_,rfl,.inr (Ka hc),by omega,ite2 (λe=>?_) (λe=>?_)⟩
  .have e':=of_decide_eq_true e;refine⟨_,rfl,.inl (Ka ha),_,rfl,.inl (Ka hb),by omega,?_⟩;have q:decide ((a*v - b*u).fmod (a*d - b*c)=0)=decide ((u*d - v*c).fmod (a*d - b*c)=0/\(a*v - b*u).fmod (a*d - b*c)=0):=by simp[e']
   have g:R (.bl (decide ((a*v - b*u).fmod (a*d - b*c)=0))):=by rw[q];exact hR
   exact g
  .have e':=of_decide_eq_false (FW.mpr e);have q:decide ((u*d - v*c).fmod (a*d - b*c)=0/\(a*v - b*u).fmod (a*d - b*c)=0)=false:=by simp[e']
   rw[q] at hR;exact hR
abbrev oQ(V:Bx):Prop:=V.D 2 "_law_leaf_family" lu Bv
def DC(T:V.T "_law_leaf_family" lr lu)(uM:V.m "abs")(Kb:iY V)(Kc:iZ V):oQ V:=by
 refine Tx.okDW T sc__law_leaf_family (λds R h=>?_) (λf cdv A outer s H E J hr=>⟨_,((ah (jP rfl (af (aa 0) ad) (dg_cons 1 sc__law_leaf_family.nd (dg_cons 2 sc__law_leaf_family.nd (dg_cons 3 sc__law_leaf_family.nd (dg_cons 4 sc__law_leaf_family.nd (dg_cons 5 sc__law_leaf_family.nd (dg_cons 6 sc__law_leaf_family.nd cL)))))))
   (ah (ai 7 sc__law_leaf_family.nd (av (ac (am (ax (aa 1) (af (af (aa 0) ad) ad)) (ax (aa 3) (af (af (aa 0) ad) ad))) (ac (am (ax (aa 2) (af (af (aa 0) ad) ad)) (ax (aa 4) (af (af (aa 0) ad) ad))) ae))))
   (ah (ai 8 sc__law_leaf_family.nd (av (ac (am (ax (aa 1) (af (af (aa 0) ad) ad)) (ax (aa 3) (af (af (aa 0) ad) ad))) (ac (am (ax (aa 2) (af (af (aa 0) ad) ad)) (ax (aa 4) (af (af (aa 0) ad) ad))) ae))))
   (ah (ai 9 sc__law_leaf_family.nd (aq Kb hr (ac (af (aa 7) ad) (ac (af (aa 8) ad) ae))))
   (ah (ai 10 sc__law_leaf_family.nd (aN (eA uM (ac (bq (ax (af (aa 7) ad) (af (aa 8) ad)) (ax (af (aa 7) ad) (af (aa 8) ad))) ae)) (aa 9)))
   (ah (ai 11 sc__law_leaf_family.nd ad)
   (ah (dG PassesOwn.never (eB (cv (aq Kc hr (ac (aa 7) (ac (aa 8) (ac (aa 11) (ac (aa 9) ae))))))) (aj (ai 11 sc__law_leaf_family.nd (am (aa 11) ad))))
   (aj (ar (av (ac (aa 10) (ac (aa 9) (ac (aa 11) ae)))))))))))))),λds R h=>?_⟩)
 .obtain⟨_,_,rfl,_⟩:=h;rfl
 .obtain⟨l,n,rfl,gd,nr,hR⟩:=h;obtain⟨h0,h1,h2,h3⟩:=nr.unit;obtain⟨z0,z1,z2,z3,ne,z5⟩:=Leaf.sizes gd nr;have ha:=gd.a;have hb:=gd.b;have hc:=gd.c;have hd:=gd.d;unfold B12 at ha hb hc hd;refine⟨_,rfl,rfl,?_⟩;simp only[FL,FN,aV];refine⟨λx=>x= .tup [.int l.o0,.int l.o1],⟨_,rfl,_,rfl,.inl (u64 h0),_,rfl,_,rfl,.inl (u64 h2),_,rfl,_,rfl,.inl (u64 h1),_,rfl,_,rfl,.inl (u64 h3),by simp,rfl⟩,?_⟩;rintro _ rfl;k_places;refine⟨λx=>x= .tup [.int l.t0,.int l.t1],⟨_,rfl,_,rfl,.inl (u64 h0),_,rfl,_,rfl,.inl (u64 h2),_,rfl,_,rfl,.inl (u64 h1),_,rfl,_,rfl,.inl (u64 h3),by simp,rfl⟩,?_⟩;rintro _ rfl;k_places;generalize l.o0=o0 at*;generalize l.o1=o1 at*;generalize l.t0=t0 at*;generalize l.t1=t1 at*;refine⟨λx=>∃ g:Int,x= .int g/\0<=g/\g∣o1/\g∣t1/\∀ e,e∣o1->e∣t1->e∣g,⟨_,rfl,_,rfl,o1,t1,rfl,λg q0 q1 q2 q3=>⟨g,rfl,q0,q1,q2,q3⟩⟩,?_⟩;rintro _ ⟨g,rfl,q0,q1,q2,q3⟩;k_places;obtain⟨w,s,f⟩:=Bu ne q0 q1 q2 q3;have hg:=f.2.1;have k1:=bA (a:=o0) (d:=t1) (A:=24) (B:=24) z0 z3;have k2:=bA (a:=o1) (d:=t0) (A:=24) (B:=24) z1 z2;have RB:=f.bd (N:=288) z5;have j8:=f.cells;have ew:(if o0*t1 - o1*t0<0 then -(o0*t1 - o1*t0) else o0*t1 - o1*t0) / g=w:=by
   have hp:=FE f.1 hg;have:(if o0*t1 - o1*t0<0 then -(o0*t1 - o1*t0) else o0*t1 - o1*t0)=w*g:=by split<;>lia
   rw[this];exact FY _ (by lia)
  refine⟨λx=>x= .int w,⟨_,rfl,_,rfl,.inl (n64 z0),_,rfl,_,rfl,.inl (n64 z1),⟨by lia,by lia⟩,?_⟩,?_⟩
  .exact congrArg D.int ew
  rintro _ rfl;k_places;refine⟨λx=>x= .int 0,rfl,?_⟩;rintro _ rfl;k_places;have hp:=FE f.1 hg;refine⟨λm z=>∃ x:Int,z=[be l.D,be (.int l.w0),be (.int l.w1),be (.int l.w2),be (.int l.w3),be (.int l.w4),be (.int l.w5),be (.tup [.int o0,.int o1]),be (.tup [.int t0,.int t1]),be (.int g),be (.int w),be (.int x)]/\0<=x/\x<=s/\m=(s - x).toNat,⟨_,0,rfl,by lia,f.2.2.1,rfl⟩,?_⟩;rintro m z ⟨x,rfl,x0,x1,rfl⟩;k_places;refine⟨o0,o1,t0,t1,x,g,rfl,by lia,by lia,by lia,by lia,ne,?_⟩;refine ite2 (λc=>?_) (λc=>?_)
  .have c':¬ ((x*t1 - g*t0).fmod (o0*t1 - o1*t0)=0/\(o0*g - o1*x).fmod (o0*t1 - o1*t0)=0):=notT c;have xs:x≠s:=by
    rintro rfl;obtain⟨_,_,_,_,m',n',k',l',_,e1,e2,e3,e4⟩:=id f;exact c' (sV e3 e4)
   refine⟨λd=>d= .int (x+1),rfl,?_⟩;rintro _ rfl;k_places;exact⟨_,by lia,x+1,rfl,by lia,by lia,rfl⟩
  .have c':(x*t1 - g*t0).fmod (o0*t1 - o1*t0)=0/\(o0*g - o1*x).fmod (o0*t1 - o1*t0)=0:=by
    exact notF c
   obtain⟨i,j,e1,e2⟩:=tJ ne c';have:x=s:=f.uniq_lean e1 e2 x0 x1;subst this;exact⟨by simp,hR w g x f (by lia)⟩
abbrev oR(V:Bx):Prop:=V.D 1 "_law_in_family" ly AU
def DD(T:V.T "_law_in_family" lv ly):oR V:=by
 refine Tx.okDW T CQ (λds R h=>?_) (λf cdv A outer s H E J hr=>⟨_,((aj (ar (gK (dE (aw (aa 2) (af (aa 0) ad)) ad) (gJ (dE (aw (bq (aa 1) (ax (aN (aa 2) (af (aa 0) ad)) (af (aa 0) ad))) (af (aa 0) ad)) ad)))))),λds R h=>?_⟩)
 .obtain⟨w,h,s,x,y,rfl,_⟩:=h;rfl
 .obtain⟨w,h,s,x,y,rfl,hw,hh,B_,hs,k9,hR⟩:=h;refine⟨_,rfl,hh,ite2 (λc=>?_) (λc=>?_)⟩
  .have c':=of_decide_eq_true c;refine⟨_,rfl,⟨hh,B_⟩,_,rfl,.inr ⟨by lia,by lia⟩,_,rfl,hw,?_⟩;have e:decide ((x - y / h*s) % w=0)=decide (y % h=0/\(x - y / h*s) % w=0):=by simp[c']
   have g:R (.bl (decide ((x - y / h*s) % w=0))):=by rw[e];exact hR
   exact g
  .have c':=of_decide_eq_false (FW.mpr c);have e:decide (y % h=0/\(x - y / h*s) % w=0)=false:=by simp[c']
   rw[e] at hR;exact hR
abbrev ja(V:Bx):Prop:=V.D 2 "_law_both" lC Bz
def DF(T:V.T "_law_both" lz lC)(Kb:iY V)(Nw:oR V):ja V:=by
  refine Tx.okDW T sc__law_both (λds R h=>?_) (λf cdv A outer s H E J hr=>⟨_,((ah (ai 2 sc__law_both.nd (aN (ax (af (aa 0) ad) (af (aa 1) ad)) (aq Kb hr (ac (af (aa 0) ad) (ac (af (aa 1) ad) ae)))))
      (ah (ai 3 sc__law_both.nd (af (aa 0) ad))
      (ah (dG PassesOwn.never (jL (ax (aa 2) (aa 3)) ad) (ah (ai 4 sc__law_both.nd (aw (ax (af (aa 0) ad) (aN (aa 3) (af (aa 0) ad))) (af (aa 0) ad)))
        (ah (dG PassesOwn.never (fH (aa 4) (aa 2)) (ah (aP (cv (aq Nw hr (ac (aa 1) (ac (aa 4) (ac (aa 3) ae))))) (aj (ar (av (ac (aa 2) (ac (aa 3) (ac (aa 4) ae)))))) aG)
          (aj (ai 4 sc__law_both.nd (am (aa 4) (af (aa 0) ad))))))
        (aj (ai 3 sc__law_both.nd (am (aa 3) (af (aa 0) ad)))))))
      (aj (ar bz)))))),λds R h=>?_⟩)
  . obtain⟨_,_,_,_,_,_,rfl,_⟩:=h;rfl
  . obtain⟨w1,h1,s1,w2,h2,s2,rfl,f1,f2,hR⟩:=h;obtain⟨a1,a2,a3,a4,a5,a6⟩:=f1;obtain⟨b1,b2,b3,b4,b5,b6⟩:=f2;obtain⟨g,u,W,Hh,S,A,M1,eW,M⟩:=By ⟨a1,a2,a3,a4,a5,a6⟩ ⟨b1,b2,b3,b4,b5,b6⟩;have O8:=hR W Hh S A M;have wb:W<=518400:=by
      have:=(kz a1 b1 M1).2.1;have:=bA (a:=w1) (d:=w2) (A:=720) (B:=720) (by lia) (by lia);lia
    have mw:=M.w0;have mh:=M.h0;have ms:=M.s0;have RC:=M.sw;refine⟨λx=>x= .int W,⟨_,rfl,_,rfl,.inl ⟨by lia,by lia⟩,_,rfl,_,rfl,w1,w2,rfl,λG q0 q1 q2 q3=>?_⟩,?_⟩
    . have eG:=M1.gcd q0 q1 q2 q3;subst eG;have hg:=M1.pos a1;have Ny:=M1.le a1;exact⟨⟨hg,by lia⟩,by rw[<- eW]⟩
    rintro _ rfl;k_places;refine⟨λx=>x= .int h1,⟨_,rfl,rfl⟩,?_⟩;rintro _ rfl;k_places;obtain⟨i0,j0,eS,eH⟩:=M.up1;have QG:1<=j0:=by
      rcases(by lia:j0<=0\/1<=j0) with z|z
      . have:=Gm z (show 0<=h1 by lia);lia
      . exact z
    refine⟨λm z=>∃ (j:Int) (o:Option D),z=[be (.tup [.int w1,.int h1,.int s1]),be (.tup [.int w2,.int h2,.int s2]),be (.int W),be (.int (j*h1)),o]/\1<=j/\j<=j0/\m=(j0 - j).toNat,⟨_,1,_,by rw[IH];rfl,by lia,QG,rfl⟩,?_⟩;rintro m z ⟨j,o,rfl,IU,Nz,rfl⟩;k_places;have QH:0<j*h1:=FE (by lia) a3;have QI:j*h1<=Hh:=by
      rw[eH];exact FH Nz (by lia)
    have RD:=G9 QI (show 0<=W by lia);refine⟨.inl ⟨by lia,by lia⟩,ite2 (λc=>?_) (λc=>?_)⟩
    . have c':=of_decide_eq_true c;have RE:j*h1<=720:=by
        have:=(ci (w:=W) (h:=j*h1) mw QH).2;lia
      have QJ:j*h1 / h1=j:=FY _ (by lia);refine⟨λx=>∃ v:Int,x= .int v/\0<=v/\v<w1/\∃ i,v=i*w1+j*s1,⟨_,rfl,_,rfl,⟨by lia,by lia⟩,.inl ⟨by lia,by lia⟩,_,rfl,a1,_,rfl,bU a1,bV a1,?_⟩,?_⟩
      . rw[QJ];refine⟨-(s1*j / w1),?_⟩;have:=F6 (s1*j) w1;rw[this];have e1:s1*j=j*s1:=FK _ _;have e2:w1*(s1*j / w1)=s1*j / w1*w1:=FK _ _;rw[e2,Gy];lia
      rintro _ ⟨x0,rfl,x1,x2,i1,O9⟩;k_places;refine⟨λm z=>∃ (x:Int),z=[be (.tup [.int w1,.int h1,.int s1]),be (.tup [.int w2,.int h2,.int s2]),be (.int W),be (.int (j*h1)),be (.int x)]/\0<=x/\(∃ i,x=i*w1+j*s1)/\(j=j0->x<=S)/\m=(W - x).toNat,⟨_,x0,rfl,x1,⟨i1,O9⟩,λej=>?_,rfl⟩,?_⟩
      . subst ej;obtain⟨k,ek,k0⟩:=BA a1 x2 x1 ms eS ⟨i1,O9⟩;have:=Hy k0 (show 0<=w1 by lia);lia
      rintro m z ⟨x,rfl,y0,⟨i2,ex⟩,yS,rfl⟩;k_places;refine ite2 (λc=>?_) (λc=>?_)
      . have cW:=of_decide_eq_true c;refine⟨w2,h2,s2,x,j*h1,rfl,b1,b3,by lia,b5,by lia,?_⟩;refine ite2 (λq=>?_) (λq=>?_)
        . have q':=of_decide_eq_true q;obtain⟨i3,k3,e3,e4⟩:=Bw q';obtain⟨z1,z2⟩:=M.high a3 IU ⟨i2,ex⟩ ⟨i3,k3,e3,e4⟩;have NA:j*h1=Hh:=by lia
          have:=z2 NA y0 cW;subst this;have:=O8.1 (by rw[<- NA];lia);rw[<- NA] at this;exact⟨by simp,this⟩
        . have q':=of_decide_eq_false (FW.mpr q);refine⟨λd=>d= .int (x+w1),⟨_,rfl,rfl⟩,?_⟩;rintro _ rfl;k_places;refine⟨_,by lia,x+w1,rfl,by lia,⟨i2+1,by grind⟩,λej=>?_,rfl⟩;subst ej;have hx:=yS rfl;have ne:x≠S:=by
            rintro rfl;obtain⟨i4,j4,e5,e6⟩:=M.up2;exact q' (in_fam (i:=i4) (j:=j4) b3 e5 (by rw[<- eH];exact e6))
          have:∃ t:Int,S=x+t*w1:=⟨i0 - i2,by rw[ex];grind⟩;obtain⟨t,et⟩:=this;have t1:1<=t:=by
            rcases(by lia:t<=0\/1<=t) with z|z
            . have:=Gm z (show 0<=w1 by lia);lia
            . exact z
          have:=FH t1 (show 0<=w1 by lia);lia
      . have cW:=of_decide_eq_false (FW.mpr c);have RF:j<j0:=by
          rcases(by lia:j<j0\/j=j0) with z|z
          . exact z
          . have:=yS z;lia
        refine⟨λd=>d= .int ((j+1)*h1),⟨_,rfl,by congr 1;grind⟩,?_⟩;rintro _ rfl;k_places;exact⟨_,by lia,j+1,_,rfl,by lia,by lia,rfl⟩
    . have c':=of_decide_eq_false (FW.mpr c);exact O8.2 (by lia)
abbrev gf(V:Bx):Prop:=V.D 3 "_law_family" lF kD
def DG(T:V.T "_law_family" lD lF)(LV:oQ V)(Kd:ja V):gf V:=by
  refine Tx.okDW T sc__law_family (λds R h=>?_) (λf cdv A outer s H E J hr=>⟨_,((ah (ai 1 sc__law_family.nd (aq LV hr (ac (af (aa 0) ad) ae)))
      (ah (fM 2 PassesOwn.never rfl sc__law_family.nd (yJ (aa 0) ad) (ah (ai 1 sc__law_family.nd (aq Kd hr (ac (aa 1) (ac (aq LV hr (ac (aa 2) ae)) ae))))
        (aj (aP (jM (aa 1) bz) (aj (ar bz)) aG))))
      (aj (ar (aa 1)))))),λds R h=>?_⟩)
  . obtain⟨_,_,rfl,_⟩:=h;rfl
  . obtain⟨ls,n,rfl,j3,hg,hR⟩:=h;cases ls with
    |nil=>exact absurd rfl j3
    |cons l0 ls=>
    refine⟨λx=>∃ w h s:Int,x= .tup [.int w,.int h,.int s]/\FamOf l0.o0 l0.o1 l0.t0 l0.t1 w h s/\w*h<=288,⟨_,bZ (j:=0) rfl,l0,n,rfl,(hg l0 Fv).1,(hg l0 Fv).2,λw h s f q=>⟨w,h,s,rfl,f,q⟩⟩,?_⟩;rintro _ ⟨w0,h0,s0,rfl,f0,q0⟩;k_places
    try simp only[FL,FN]
    have ec:cutD (GM Leaf.D (l0::ls)) (be 1) m9=ls.map Leaf.D:=by rw[FB,cut1]
    refine⟨λk z=>∃ (w h s:Int) (o:Option D),z=[be (.lst ((l0::ls).map Leaf.D)),be (.tup [.int w,.int h,.int s]),o]/\Fam0 w h s/\w*h<=720/\∀ x y,InF w h s x y↔bL (l0::ls.take k) x y,⟨w0,h0,s0,_,rfl,⟨f0.1,f0.2.1,f0.2.2.1,f0.2.2.2.1⟩,by lia,λx y=>?_⟩,?_,?_⟩
    . rw[f0.lat];constructor
      . intro q l z;rcases Fp.mp z with e|e
        . rw[e];exact q
        . cases e
      . intro q;exact q l0 Fv
    . rintro k v z hk ⟨w,h,s,o,rfl,fm,O_,lat⟩;k_places;rw[ec,FF] at hk;have n_:k<ls.length:=by
        rcases GE k ls.length with q|q
        . exact q
        . rw[Gn q] at hk;cases hk
      have J_:ls[k]?=be ls[k]:=FJ n_;rw[J_] at hk;cases hk;obtain⟨gd,nr⟩:=hg ls[k] (Fu _ (FT n_));have K':∀ l∈ls.drop (k+1),l.Good/\l.Near n:=λl q=>hg l (Fu _ (II q));have F_:∀ x y,bL (l0::ls) x y↔(bL (l0::ls.take k) x y/\ls[k].Lat x y)/\bL (ls.drop (k+1)) x y:=λx y=>by
        have ed:ls=ls.take k++ls[k]::ls.drop (k+1):=by rw[<- GU n_,List.take_append_drop]
        constructor
        . intro q;refine⟨⟨λl z=>?_,q _ (Fu _ (FT n_))⟩,λl z=>q l (Fu _ (II z))⟩;rcases Fp.mp z with e|e
          . exact q l (e ▸ Fv)
          . exact q l (Fu _ (List.mem_of_mem_take e))
        . rintro⟨⟨q1,q2⟩,q3⟩ l z;rcases Fp.mp z with e|e
          . exact q1 l (e ▸ Fv)
          . rw[ed] at e;rcases FO.mp e with e|e
            . exact q1 l (Fu _ e)
            . rcases Fp.mp e with e|e
              . rw[e];exact q2
              . exact q3 l e
      have g9:∀ x y,bL (l0::ls.take (k+1)) x y↔bL (l0::ls.take k) x y/\ls[k].Lat x y:=λx y=>by
        rw[kC J_];constructor
        . intro q;refine⟨λl z=>q l ?_,q _ (Fu _ (FC _ Fv))⟩;rcases Fp.mp z with e|e
          . rw[e];exact Fv
          . exact Fu _ (Ge _ e)
        . rintro⟨q1,q2⟩ l z;rcases Fp.mp z with e|e
          . exact q1 l (e ▸ Fv)
          . rcases FO.mp e with e|e
            . exact q1 l (Fu _ e)
            . rw[Fl.mp e];exact q2
      generalize ls[k]=l at gd nr F_ g9;obtain⟨p1,p2⟩:=ci fm.w0 fm.h0;refine⟨λx=>(∃ w h s:Int,x= .tup [.int w,.int h,.int s]/\Fam0 w h s/\w*h<=720/\∀ x y,InF w h s x y↔bL (l0::ls.take (k+1)) x y)\/(x= .non/\R .non),⟨l,n,rfl,gd,nr,λw2 h2 s2 f2 b2=>?_⟩,?_⟩
      . obtain⟨r1,r2⟩:=ci f2.1 f2.2.1;refine⟨w,h,s,w2,h2,s2,rfl,⟨fm.w0,by lia,fm.h0,by lia,fm.s0,fm.sw⟩,⟨f2.1,by lia,f2.2.1,by lia,f2.2.2.1,f2.2.2.2.1⟩,λW Hh S A M=>⟨λq=>?_,λq=>?_⟩⟩
        . refine .inl ⟨W,Hh,S,rfl,⟨M.w0,M.h0,M.s0,M.sw⟩,q,λx y=>?_⟩;rw[M.lat,lat,f2.lat,g9];exact Iff.rfl
        . refine .inr ⟨rfl,?_⟩;obtain⟨w3,h3,s3,f3,e3⟩:=tL (ls.drop (k+1)) W Hh S ⟨M.w0,M.h0,M.s0,M.sw⟩ K';refine(hR w3 h3 s3 f3 λx y=>?_).2 ?_
          . rw[e3,M.lat,lat,f2.lat,F_];exact Iff.rfl
          . have:=(InF.le M.w0 M.h0 f3.w0 f3.h0 (λx y z=>((e3 x y).mp z).1)).1;lia
      . rintro _ (⟨W,Hh,S,rfl,QK,q,e'⟩|⟨rfl,hn⟩);k_places
        . try simp only[FL,FN]
          exact⟨W,Hh,S,_,rfl,QK,q,e'⟩
        . try simp only[FL,FN]
          exact hn
    . rintro z ⟨w,h,s,o,rfl,fm,O_,lat⟩;k_places;rw[ec,Fs,Hd] at lat;exact(hR w h s fm lat).1 O_
abbrev gh(V:Bx):Prop:=V.D 4 "_law_over" lH tP
def DJ(T:V.T "_law_over" lG lH)(JR:V.m "max")(IV:gf V):gh V:=by
 refine Tx.okDW T sc__law_over (λds R h=>?_) (λf cdv A outer s H E J hr=>⟨_,((ah (ai 2 sc__law_over.nd (am (af (aa 0) ad) (af (aa 1) ad)))
   (ah (aP (cK (gI (rB (jR rfl JR (ac (af (aa 0) ad) (ac (af (aa 1) ad) ae))) ad) (gH (jM (aq IV hr (ac (aa 2) ae)) bz)))) (aj (ar (aa 0))) aG)
   (aj (ar (aL (ac (am (am (am (am ay (af (aa 0) ad)) ay) (af (aa 1) ad)) ay) (ac (am ad (jR rfl JR (ac (af (aa 0) ad) (ac (af (aa 1) ad) ae)))) (ac (aa 2) ae))))))))),λds R h=>?_⟩)
 .obtain⟨_,_,rfl,_⟩:=h;rfl
 .obtain⟨p,q,rfl,wp,wq,dp,dq,LW,LX⟩:=h;have n1:=Pat.leaves_32 dp;have n2:=Pat.leaves_32 dq;refine⟨λx=>x= .lst ((Pat.over p q).leaves.map Leaf.D),⟨_,rfl,_,rfl,?_,?_⟩,?_⟩
  .rw[Fs,Fs];lia
  .rw[Pat.leaves,FX]
  rintro _ rfl;k_places;refine⟨_,rfl,_,rfl,ite2 (λc=>LW) (λc=>?_)⟩;have c':=of_decide_eq_false (FW.mpr c);have ep:p.depth<5/\q.depth<5:=by
   split at c'<;>lia
  refine⟨(Pat.over p q).leaves,(Pat.over p q).depth,rfl,?_,λl hl=>Pat.leaf_good (p:= .over p q) ⟨wp,wq⟩ l hl,λw h s f lat=>⟨λsm=>?_,λ_=>LW⟩⟩
  .intro z;have:(Pat.over p q).leaves.length=0:=by rw[z];rfl
   rw[Pat.leaves,Fx] at this;have:=Pat.leaves_pos p;lia
  have t1:=Pat.text_short wp dp;have t2:=Pat.text_short wq dq;have l1:("(":D').length=1:=rfl;have l2:("|":D').length=1:=rfl;have l3:(")":D').length=1:=rfl;have Ng:(Pat.over p q).Fits:=⟨w,h,s,⟨f,λx y=>(lat x y).trans (Pat.lat_leaves (.over p q) x y)⟩,sm⟩;refine⟨_,rfl,?_,?_,_,rfl,?_,?_,_,rfl,_,rfl,by simp,?_⟩
  .lia
  .rw[aA];lia
  .rw[aA,aA];lia
  .rw[aA,aA,aA];lia
  have g:=LX ep.1 ep.2 Ng;have e:(1+(if(q.depth:Int)>(p.depth:Int) then(q.depth:Int) else(p.depth:Int)))=(((Pat.over p q).depth:Nat):Int):=by
   rw[Pat.depth];split<;>lia
  unfold Pat.D at g;rw[<- e] at g;exact g
abbrev jb(V:Bx):Prop:=V.D 5 "_law_pattern" lK BC
def DK(T:V.T "_law_pattern" lJ lK)(uA:V.m "range")(J7:iW V)(JS:iX V)(uJ:gc V)(uU:gh V):jb V:=by
  refine Tx.okDW T sc__law_pattern (λds R h=>?_) (λf cdv A outer s H E J hr=>⟨_,((ah (ai 2 sc__law_pattern.nd (aq J7 hr (ac (aa 0) (ac (aa 1) (ac ad ae)))))
      (ah (ai 3 sc__law_pattern.nd (aq JS hr (ac (aa 0) (ac (am (aa 1) ad) ae))))
      (ah (bG 4 PassesOwn.never rfl sc__law_pattern.nd uA (aw (af (aa 2) ad) ad) (ah (ai 5 sc__law_pattern.nd (af (aa 2) (am ad (ax ad (aa 4)))))
        (aj (cY (aY (aw (aa 5) ad) ad) (aj (ai 3 sc__law_pattern.nd (aq uJ hr (ac (aa 3) (ac (aN (aa 5) ad) ae))))) (ah (ai 6 sc__law_pattern.nd (aq JS hr (ac (aa 0) (ac (am (am (aa 1) ad) (ax ad (aa 4))) ae))))
         (ah (cY (aY (aw (aN (aa 5) ad) ad) ad) (aj (ai 6 sc__law_pattern.nd (aq uJ hr (ac (aa 6) (ac (af (aa 2) (am ad (ax ad (aa 4)))) ae))))) aG)
         (aj (ai 3 sc__law_pattern.nd (af (aL (ac (aq uU hr (ac (aa 3) (ac (aa 6) ae))) (ac (aq uU hr (ac (aa 6) (ac (aa 3) ae))) ae))) (aw (aN (aa 5) ad) ad))))))))))
      (aj (ar (aa 3))))))),λds R h=>?_⟩)
  . obtain⟨_,_,rfl,_⟩:=h;rfl
  . obtain⟨ns,k,rfl,hk,hR⟩:=h;refine⟨λx=>∃ xs:List Int,x= .lst (xs.map D.int)/\xs.length=13/\Drawn xs,⟨ns,k,13,rfl,hk,by decide,λxs h1 h2=>⟨xs,rfl,h1,h2⟩⟩,?_⟩;rintro _ ⟨xs,rfl,hl,hd⟩;k_places;refine⟨λx=>∃ p:Pat,x=p.D/\p.Ok,⟨ns,k+2,rfl,by lia,λL a b c d h1 h2 h3 h4 h5 h6=>⟨.mot L a b c d,rfl,⟨h1,h2,h3,h4,h5,h6⟩,by simp[Pat.depth],Pat.fits_mot h2 h3 h4 h5 h6⟩⟩,?_⟩;rintro _ ⟨p0,rfl,QL⟩;k_places;have a0:=cF (xs:=xs) (k:=0) (by decide) (show 0<xs.length by lia);have h7:=bU (a:=cell xs 0) (show(0:Int)<7 by decide);have h8:=bV (a:=cell xs 0) (show(0:Int)<7 by decide);refine⟨_,a0,by decide,⟨by lia,by lia⟩,λi z=>∃ (p:Pat) (o1 o2 o3:Option D),z=[be (.rol (ns.map D.int)),be (.int k),be (.lst (xs.map D.int)),be p.D,o1,o2,o3]/\p.Ok,⟨p0,_,_,_,rfl,QL⟩,?_,?_⟩
    . rintro i v z hi ⟨p,o1,o2,o3,rfl,ok⟩;k_places;obtain⟨g_,rfl⟩:=bK hi;have a1:=cF (xs:=xs) (k:=1+2*(i:Int)) (by lia) (by lia);have a2:=cF (xs:=xs) (k:=2+2*(i:Int)) (by lia) (by lia);generalize cell xs (1+2*(i:Int))=st at a1;generalize cell xs (2+2*(i:Int))=sv at a2;refine⟨λx=>x= .int st,⟨.inr ⟨by lia,by lia⟩,_,a1,rfl⟩,?_⟩;rintro _ rfl;k_places;refine⟨λz=>∃ (p:Pat) (o3:Option D),z=[be (.rol (ns.map D.int)),be (.int k),be (.lst (xs.map D.int)),be p.D,be (.int i),be (.int st),o3]/\p.Ok,⟨by decide,ite2 (λc=>?_) (λc=>?_)⟩,?_⟩
      . refine⟨λx=>∃ p:Pat,x=p.D/\p.Ok,⟨⟨by decide,by decide⟩,p,_,rfl,ok.wf,ok.deep,by have:=Pat.text_short ok.wf ok.deep;lia,Wraps.of ok λq hq=>⟨q,rfl,hq⟩⟩,?_⟩;rintro _ ⟨q,rfl,b_⟩;k_places;exact⟨q,_,rfl,b_⟩
      . refine⟨λx=>∃ p:Pat,x=p.D/\p.Ok,⟨.inr ⟨by lia,by lia⟩,ns,k+4+2*(i:Int),rfl,by lia,λL a b c d h1 h2 h3 h4 h5 h6=>⟨.mot L a b c d,rfl,⟨h1,h2,h3,h4,h5,h6⟩,by simp[Pat.depth],Pat.fits_mot h2 h3 h4 h5 h6⟩⟩,?_⟩;rintro _ ⟨q,rfl,b_⟩;k_places;refine⟨λz=>∃ (q:Pat),z=[be (.rol (ns.map D.int)),be (.int k),be (.lst (xs.map D.int)),be p.D,be (.int i),be (.int st),be q.D]/\q.Ok,⟨⟨by decide,by decide⟩,by decide,ite2 (λc=>?_) (λc=>?_)⟩,?_⟩
        . refine⟨λx=>∃ p:Pat,x=p.D/\p.Ok,⟨.inr ⟨by lia,by lia⟩,_,a2,q,_,rfl,b_.wf,b_.deep,by have:=Pat.text_short b_.wf b_.deep;lia,Wraps.of b_ λq hq=>⟨q,rfl,hq⟩⟩,?_⟩;rintro _ ⟨q,rfl,b_⟩;k_places;exact⟨q,rfl,b_⟩
        . exact⟨q,rfl,b_⟩
        rintro _ ⟨q,rfl,b_⟩;k_places;refine⟨λx=>∃ p:Pat,x=p.D/\p.Ok,?_,?_⟩
        . have c_:∀ r r':Pat,r.Ok->r'.Ok->∃ x,atI [r.D,r'.D] (st / 4 % 2)=be x/\∃ p:Pat,x=p.D/\p.Ok:=λr r' hr QM=>by
            rcases(by lia:st / 4 % 2=0\/st / 4 % 2=1) with e|e<;>rw[e]
            . exact⟨_,rfl,r,rfl,hr⟩
            . exact⟨_,rfl,r',rfl,QM⟩
          have Pa:p.depth<5->q.depth<5->(Pat.over p q).Fits->(Pat.over p q).Ok:=λd1 d2 ft=>⟨⟨ok.wf,b_.wf⟩,by simp only[Pat.depth];lia,ft⟩;have Pb:q.depth<5->p.depth<5->(Pat.over q p).Fits->(Pat.over q p).Ok:=λd1 d2 ft=>⟨⟨b_.wf,ok.wf⟩,by simp only[Pat.depth];lia,ft⟩;refine⟨p,q,rfl,ok.wf,b_.wf,ok.deep,b_.deep,?_,λd1 d2 ft=>?_⟩<;>refine⟨q,p,rfl,b_.wf,ok.wf,b_.deep,ok.deep,?_,λd3 d4 Pc=>?_⟩<;>refine⟨by simp,⟨by decide,by decide⟩,by decide,?_⟩
          . exact c_ _ _ ok b_
          . exact c_ _ _ ok (Pb d3 d4 Pc)
          . exact c_ _ _ (Pa d1 d2 ft) b_
          . exact c_ _ _ (Pa d1 d2 ft) (Pb d3 d4 Pc)
        rintro _ ⟨q',rfl,NC⟩;k_places;exact⟨q',_,rfl,NC⟩
      rintro _ ⟨q,o3,rfl,b_⟩;k_places;exact⟨q,_,_,_,rfl,b_⟩
    . rintro z ⟨p,o1,o2,o3,rfl,ok⟩;k_places;exact hR p ok
def DL:SpD:=λds R=>∃ (p:Pat) (d:Int),ds=[p.D,.int d]/\p.Ok/\∀ q:Pat,q.Ok->R q.D
abbrev oS(V:Bx):Prop:=V.D 5 "_law_veiled" lM DL
def DM(T:V.T "_law_veiled" lL lM)(uU:gh V)(IT:fZ V):oS V:=by
 refine Tx.okDW T sc__law_veiled (λds R h=>?_) (λf cdv A outer s H E J hr=>⟨_,((ah (aP (ce (aw (aa 1) ad) ad) (aj (ar (aa 0))) aG)
   (ah (ai 2 sc__law_veiled.nd (av (ac (am ad (aw (aN (aa 1) ad) ad)) (ac ad ae))))
   (ah (ai 3 sc__law_veiled.nd (av (ac (bq (aw (aN (aa 1) ad) ad) ad) (ac (am ad (aw (aN (aa 1) ad) ad)) ae))))
   (ah (ai 4 sc__law_veiled.nd (av (ac (aL (ac ay ae)) (ac (aa 2) (ac (aa 3) (ac (av (ac ad (ac ad (ac ad (ac ad (ac ad (ac ad ae))))))) (ac (aL (ac ad (ac ad (ac ad (ac ad (ac ad (ac ad (ac ad ae)))))))) ae)))))))
   (aj (ar (aq uU hr (ac (aa 0) (ac (aL (ac (aq IT hr (ac (aL (ac ay ae)) (ac (aa 2) (ac (aa 3) ae)))) (ac ad (ac (aL (ac (aa 4) ae)) ae)))) ae)))))))))),λds R h=>?_⟩)
 .obtain⟨_,_,rfl,_⟩:=h;rfl
 .obtain⟨p,d,rfl,ok,hR⟩:=h;refine⟨by decide,ite2 (λ_=>hR p ok) λ_=>?_⟩;obtain⟨a,ha,a6⟩:∃ a:Int,1+d / 3 % 6=a/\1<=a/\a<=6:=⟨_,rfl,by omega,by omega⟩;obtain⟨c,hc,c6⟩:∃ c:Int,d / 108 % 13 - 6=c/\-6<=c/\c<=6:=⟨_,rfl,by omega,by omega⟩;obtain⟨b,hb,b6⟩:∃ b:Int,1+d / 18 % 6=b/\1<=b/\b<=6:=⟨_,rfl,by omega,by omega⟩;refine⟨λx=>x= .tup [.int a,.int 0],⟨⟨by decide,by decide⟩,by decide,by show(2:Nat)<=1000;decide,by rw[<- ha]⟩,?_⟩;rintro _ rfl;k_places;refine⟨λx=>x= .tup [.int c,.int b],⟨⟨by decide,by decide⟩,by decide,⟨by decide,by decide⟩,by decide,by show(2:Nat)<=1000;decide,by rw[<- hc,<- hb]⟩,?_⟩;rintro _ rfl;k_places;refine⟨λx=>x=(bo ["."] a 0 c b).D,⟨by show(1:Nat)<=1000;decide,by show(6:Nat)<=1000;decide,by show(7:Nat)<=1000;decide,by show(5:Nat)<=1000;decide,rfl⟩,?_⟩;rintro _ rfl;k_places;have hL:Rows ["."]:=row_one (n:=1) rfl (by decide) (by decide+kernel);have ab:0<a*b:=FE (by omega) (by omega);have b_:=vf (L:=["."]) (a:=a) (b:=0) (c:=c) (d:=b) hL ⟨by omega,by omega⟩ ⟨by decide,by decide⟩ ⟨by omega,by omega⟩ ⟨by omega,by omega⟩ (by rw[GS];omega);exact⟨by show(1:Nat)<=1000;decide,["."],a,0,c,b,rfl,hL,b_.wf.2.1,b_.wf.2.2.1,b_.wf.2.2.2.1,b_.wf.2.2.2.2.1,by show(1:Nat)<=1000;decide,by show(3:Nat)<=1000;decide,oN (q:= .mot ["."] a 0 c b) ok b_ hR⟩
def DN:SpD:=λds R=>∃ (p:Pat) (k:Int),ds=[p.D,.int k]/\p.Ok/\(k=0\/k=1)/\∀ q:Pat,q.Ok->R q.D
abbrev oU(V:Bx):Prop:=V.D 4 "_law_shifted_home" lP DN
def DO(T:V.T "_law_shifted_home" lN lP)(IV:gf V)(uJ:gc V):oU V:=by
 refine Tx.okDW T sc__law_shifted_home (λds R h=>?_) (λf cdv A outer s H E J hr=>⟨_,((ah (ai 2 sc__law_shifted_home.nd (aq IV hr (ac (af (aa 0) ad) ae)))
   (ah (jP rfl (af (aL (ac (av (ac (af (aa 2) ad) (ac ad ae))) (ac (av (ac (af (aa 2) ad) (ac (af (aa 2) ad) ae))) ae))) (aa 1)) (dg_cons 3 sc__law_shifted_home.nd (dg_cons 4 sc__law_shifted_home.nd cL)))
   (ah (aP (cK (gI (fJ (aa 3) ad) (gH (fJ (aa 4) ad)))) (aj (ar (aa 0))) aG)
   (aj (ar (aq uJ hr (ac (aa 0) (ac (am (am ad (ax ad (am (aa 3) ad))) (ax ad (am (aa 4) ad))) ae))))))))),λds R h=>?_⟩)
 .obtain⟨_,_,rfl,_⟩:=h;rfl
 .obtain⟨p,k,rfl,ok,hk,hR⟩:=h;refine⟨FamD p,⟨_,rfl,kL ok⟩,?_⟩;rintro _ ⟨w,h,s,rfl,F,wh,w7,h7⟩;k_places;have ND:∃ a b:Int,atI [D.tup [.int w,.int 0],.tup [.int s,.int h]] k=be (.tup [.int a,.int b]):=by
   rcases hk with rfl|rfl
   .exact⟨_,_,rfl⟩
   .exact⟨_,_,rfl⟩
  obtain⟨a,b,e⟩:=ND;refine⟨_,rfl,by show(2:Nat)<=1000;decide,_,rfl,_,rfl,by show(2:Nat)<=1000;decide,by show(2:Nat)<=1000;decide,_,e,rfl,ite2 (λ_=>hR p ok) λ_=>ite2 (λ_=>hR p ok) λ_=>?_⟩;exact⟨.inl ⟨by decide,by decide⟩,.inl ⟨by decide,by decide⟩,p,_,rfl,ok.wf,ok.deep,by have:=Pat.text_short ok.wf ok.deep;omega,Wraps.of ok hR⟩
def DP:SpD:=λds R=>∃ (p:Pat) (n:Int) (c:Nat),ds=[p.D,.int n,.str ⟨#[c]⟩]/\p.Ok/\aF c/\∀ q:Pat,q.Ok->R q.D
abbrev oV(V:Bx):Prop:=V.D 1 "_law_respelled" lR DP
def DQ(T:V.T "_law_respelled" lQ lR)(uB:V.m "len")(J8:V.m "list"):oV V:=by
 refine Tx.okDW T sc__law_respelled (λds R h=>?_) (λf cdv A outer s H E J hr=>⟨_,((ah (ai 3 sc__law_respelled.nd (af (af (aa 0) ad) ad))
   (ah (ai 4 sc__law_respelled.nd (cC uB (ac (af (af (aa 3) ad) ad) ae)))
   (ah (ai 5 sc__law_respelled.nd (aN (aw (aa 1) (ax (aa 4) (cC uB (ac (af (aa 3) ad) ae)))) (aa 4)))
   (ah (ai 6 sc__law_respelled.nd (aw (aa 1) (aa 4)))
   (ah (AI 7 J8 sc__law_respelled.nd (ac (af (aa 3) ad) ae))
   (ah (zb 7 (am (am (cP (eN 7 (aa 5)) cN (cO (aa 6))) (aa 2)) (cP (eN 7 (aa 5)) (cO (am (aa 6) ad)) cN)) (aa 5))
   (ah (ai 8 sc__law_respelled.nd (am (am (am (ss (af (aa 0) ad) (ac ay ae)) ad) (ax (aa 5) (am (aa 4) ad))) (aa 6)))
   (ah (ai 9 sc__law_respelled.nd (am (am (cP (af (aa 0) ad) cN (cO (aa 8))) (aa 2)) (cP (af (aa 0) ad) (cO (am (aa 8) ad)) cN)))
   (eJ 7 (aj (ar (aL (ac (aa 9) (ac (af (aa 0) ad) (ac (am (aL (ac (av (ac (aa 7) (ac (af (aa 3) ad) (ac (af (aa 3) ad) (ac (af (aa 3) ad) (ac (af (aa 3) ad) ae)))))) ae)) (cP (af (aa 0) ad) (cO ad) cN)) ae)))))))))))))))),λds R h=>?_⟩)
 .obtain⟨_,_,_,rfl,_⟩:=h;rfl
 .obtain⟨p,n,c,rfl,ok,hc,hR⟩:=h;obtain⟨A,B,l,ls,r⟩:=Pat.re_ex ok.wf;obtain⟨m,w,w8,hr⟩:=r.rows;have hw:∀ s∈l.rows,s.length=w:=λs hs=>(hr s hs).1;have QN:=Pat.text_short ok.wf ok.deep;have Pd:=cq p;rw[r.tl] at Pd;obtain⟨i0,rest,eo,ei⟩:=Dn Pd r.no;have wm:0<w*l.rows.length:=Nat.mul_pos (by omega) (by omega);obtain⟨j,hj,jm⟩:∃ j:Nat,n % ((w:Int)*l.rows.length) / w=j/\j<l.rows.length:=by
   have h0:=FU n (show((w*l.rows.length:Nat):Int)≠0 by omega);have h1:=FV n (show 0<((w*l.rows.length:Nat):Int) by omega);rw[HA] at h0 h1;have q0:=IJ h0 (show 0<=(w:Int) by omega);have q1:=Int.ediv_lt_of_lt_mul (show 0<(w:Int) by omega) (show n % ((w:Int)*l.rows.length)<(l.rows.length:Int)*w by rw[FK (l.rows.length:Int)];exact h1);exact⟨(n % ((w:Int)*l.rows.length) / w).toNat,by omega,by omega⟩
  obtain⟨i,hi,iw⟩:∃ i:Nat,n % (w:Int)=i/\i<w:=by
   have h0:=FU n (show(w:Int)≠0 by omega);have h1:=FV n (show 0<(w:Int) by omega);exact⟨(n % (w:Int)).toNat,by omega,by omega⟩
  have QO:atI (p.leaves.map Leaf.D) 0=be l.D:=bZ (j:=0) (by rw[r.leaves];rfl);have NE:atI (l.rows.map D.str) 0=be (.str (l.rows[0]'(by omega))):=bZ (j:=0) (by rw[FF,FJ (show 0<l.rows.length by omega)];rfl);have K_:atI (l.rows.map D.str) (j:Int)=be (.str l.rows[j]):=bZ (by rw[FF,FJ jm];rfl);have NF:=hw (l.rows[0]'(by omega)) (FT _);have QP:=hw l.rows[j] (FT jm);refine⟨λd=>d=l.D,⟨_,rfl,_,QO,rfl⟩,?_⟩;rintro _ rfl;k_places;refine⟨λd=>d= .int (w:Int),⟨_,rfl,_,NE,by omega,by rw[NF]⟩,?_⟩;rintro _ rfl;k_places;refine⟨λd=>d= .int (j:Int),⟨_,rfl,.inl ⟨by omega,by omega⟩,?_,⟨by omega,by omega⟩,?_⟩,?_⟩
  .rw[Fs,<- HA];omega
  .rw[Fs,hj]
  rintro _ rfl;k_places;refine⟨λd=>d= .int (i:Int),⟨by omega,by rw[hi]⟩,?_⟩;rintro _ rfl;k_places;show dSeq _ _ _ [_,_,_,_,_,_,_,_,_,_];refine⟨_,rfl,?_⟩;have s1:=Txt.slice_le l.rows[j] m9 (be (i:Int));have s2:=Txt.slice_le l.rows[j] (be ((i:Int)+1)) m9;have c1:(⟨#[c]⟩:D').length=1:=rfl;have hs:=ve (c:=c) (show i<l.rows[j].length by omega);generalize A_:((Txt.slice l.rows[j] m9 (be (i:Int))++⟨#[c]⟩)++Txt.slice l.rows[j] (be ((i:Int)+1)) m9:D')=s' at hs;obtain⟨q,b_,dq,lq,sp,tq⟩:=r.put ok hw jm iw hc hs;refine⟨_,K_,by omega,by omega,_,K_,by omega,by rw[aA];omega,j,?_,?_⟩
  .rw[Fs];unfold ixN;rw[if_pos (by omega),if_pos (by omega),G2]
  rw[A_,<- IG];have QQ:(i0:Int)=A.length:=by omega
  refine⟨λd=>d= .int ((A.length+1+j*(w+1)+i:Nat):Int),⟨_,rfl,i0,rest,eo,.inl ⟨by omega,by omega⟩,?_⟩,?_⟩
  .show D.int _=D.int _;rw[QQ];simp
  rintro _ rfl;k_places;have t1:=Txt.slice_le p.text m9 (be ((A.length+1+j*(w+1)+i:Nat):Int));have t2:=Txt.slice_le p.text (be (((A.length+1+j*(w+1)+i:Nat):Int)+1)) m9;refine⟨λd=>d= .str q.text,⟨_,rfl,by omega,by omega,_,rfl,by omega,by rw[aA];omega,?_⟩,?_⟩
  .show D.str _=D.str _;rw[tq _ (ve sp)]
  rintro _ rfl;k_places;have RG:=Pat.leaves_32 ok.deep;have ec:cutD (p.leaves.map Leaf.D) (be 1) m9=ls.map Leaf.D:=by rw[r.leaves,FB,cut1]
  refine⟨_,rfl,_,rfl,_,rfl,_,rfl,_,rfl,by show(5:Nat)<=1000;decide,by show(1:Nat)<=1000;decide,_,rfl,?_,by show(3:Nat)<=1000;decide,?_⟩
  .have:=congrArg Gu r.leaves;rw[Fq] at this;show 1+(cutD (p.leaves.map Leaf.D) (be 1) m9).length<=1000000;rw[ec,Fs];omega
  have e:=hR q b_;unfold Pat.D at e;rw[dq,lq,FB,<- ec] at e;exact e
def DR:SpD:=λds R=>∃ (p:Pat) (ns:List Int) (k d:Int),ds=[p.D,.rol (ns.map D.int),.int k,.int d]/\p.Ok/\0<=k/\∀ q:Pat,q.Ok->R q.D
abbrev oW(V:Bx):Prop:=V.D 6 "_law_twin" lV DR
def DU(T:V.T "_law_twin" lU lV)(uJ:gc V)(uU:gh V)(NG:oU V)(JS:iX V)(NH:oV V)(Ke:jb V):oW V:=by
 refine Tx.okDW T sc__law_twin (λds R h=>?_) (λf cdv A outer s H E J hr=>⟨_,((ah (ai 4 sc__law_twin.nd (aw (aa 3) ad))
   (ah (ai 3 sc__law_twin.nd (aN (aa 3) ad))
   (ah (aP (cK (fL (aY (aa 4) ad) (fK (jL (af (aa 0) ad) ad)))) (aj (ar (aq uJ hr (ac (aq uJ hr (ac (aa 0) (ac ad ae))) (ac ad ae))))) aG)
   (ah (aP (cK (fL (aY (aa 4) ad) (fK (jL (af (aa 0) ad) ad)))) (aj (ar (aq uJ hr (ac (aq uJ hr (ac (aq uJ hr (ac (aq uJ hr (ac (aa 0) (ac ad ae))) (ac ad ae))) (ac ad ae))) (ac ad ae))))) aG)
   (ah (aP (aY (aa 4) ad) (aj (ar (aq uU hr (ac (aa 0) (ac (aa 0) ae))))) aG)
   (ah (aP (aY (aa 4) ad) (aj (ar (aq NG hr (ac (aa 0) (ac (aw (aa 3) ad) ae))))) aG)
   (ah (aP (aY (aa 4) ad) (aj (ar (aq uJ hr (ac (aa 0) (ac (am ad (ax ad (aw (aa 3) ad))) ae))))) aG)
   (ah (aP (aY (aa 4) ad) (aj (ar (aq uU hr (ac (aa 0) (ac (aq JS hr (ac (aa 1) (ac (aa 2) ae))) ae))))) aG)
   (ah (aP (aY (aa 4) ad) (aj (ar (aq NH hr (ac (aa 0) (ac (aN (aa 3) ad) (ac (af ay (aw (aa 3) ad)) ae)))))) aG)
   (ah (aP (aY (aa 4) ad) (aj (ar (aq Ke hr (ac (aa 1) (ac (aa 2) ae))))) aG)
   (aj (ar (aa 0)))))))))))))),λds R h=>?_⟩)
 .obtain⟨_,_,_,_,rfl,_⟩:=h;rfl
 .obtain⟨p,ns,k,d,rfl,ok,k0,hR⟩:=h;have wr:∀ {q:Pat},q.Ok->q.text.length<=100000:=λ{q} h=>by have:=Pat.text_short h.wf h.deep;omega
  refine⟨λx=>x= .int (d % 9),⟨by decide,rfl⟩,?_⟩;rintro _ rfl;k_places;refine⟨λx=>x= .int (d / 9),⟨⟨by decide,by decide⟩,rfl⟩,?_⟩;rintro _ rfl;k_places;show dSeq _ _ _ [_,_,_,_,_];refine(λhr=>ite2 (λ_=>⟨_,rfl,ite2 (λ_=>⟨p,0,rfl,ok.wf,ok.deep,wr ok,Wraps.of ok λq k=>⟨q,0,rfl,k.wf,k.deep,wr k,Wraps.of k hR⟩⟩) (λ_=>hr)⟩) (λ_=>hr)) ?_;refine ite2 (λz=>nomatch z) λ_=>?_;refine(λhr=>ite2 (λ_=>⟨_,rfl,ite2 (λ_=>⟨p,1,rfl,ok.wf,ok.deep,wr ok,Wraps.of ok λq k=>⟨q,1,rfl,k.wf,k.deep,wr k,Wraps.of k λq k=>⟨q,1,rfl,k.wf,k.deep,wr k,Wraps.of k λq k=>⟨q,1,rfl,k.wf,k.deep,wr k,Wraps.of k hR⟩⟩⟩⟩) (λ_=>hr)⟩) (λ_=>hr)) ?_;refine ite2 (λz=>nomatch z) λ_=>?_;refine ite2 (λ_=>oN ok ok hR) λ_=>?_;refine ite2 (λ_=>⟨by decide,p,_,rfl,ok,by omega,hR⟩) λ_=>?_;refine ite2 (λ_=>⟨by decide,.inl ⟨by decide,by decide⟩,p,_,rfl,ok.wf,ok.deep,wr ok,Wraps.of ok hR⟩) λ_=>?_;refine ite2 (λ_=>⟨ns,k,rfl,k0,λL a b c d h1 h2 h3 h4 h5 h6=>oN (q:= .mot L a b c d) ok ⟨⟨h1,h2,h3,h4,h5,h6⟩,by simp[Pat.depth],Pat.fits_mot h2 h3 h4 h5 h6⟩ hR⟩) λ_=>?_;refine ite2 (λ_=>?_) λ_=>?_
  .obtain⟨c,hc,LC⟩:=Dq (d / 9);exact⟨⟨by decide,by decide⟩,by decide,c,⟨by decide,hc⟩,p,_,c,rfl,ok,LC,hR⟩
  refine ite2 (λ_=>⟨ns,k,rfl,k0,hR⟩) λ_=>hR p ok
def DV:SpD:=λds R=>∃ d:Int,ds=[.int d]/\∀ p q:Pat,p.Ok->q.Ok->R (.lst [p.D,q.D])
abbrev oX(V:Bx):Prop:=V.D 2 "_law_bound_pair" lY DV
def DY(T:V.T "_law_bound_pair" lW lY)(uL:V.m "str")(IT:fZ V):oX V:=by
 refine Tx.okDW T sc__law_bound_pair (λds R h=>?_) (λf cdv A outer s H E J hr=>⟨_,((ah (ai 1 sc__law_bound_pair.nd (af (aL (ac (av (ac (av (ac ad (ac ad ae))) (ac (av (ac ad (ac ad ae))) ae))) (ac (av (ac (av (ac ad (ac ad ae))) (ac (av (ac (cb ad) (ac ad ae))) ae))) (ac (av (ac (av (ac ad (ac ad ae))) (ac (av (ac ad (ac ad ae))) ae))) (ac (av (ac (av (ac ad (ac ad ae))) (ac (av (ac ad (ac ad ae))) ae))) ae))))) (aw (aa 0) ad)))
   (ah (ai 2 sc__law_bound_pair.nd (af (aL (ac (av (ac (av (ac ad (ac ad ae))) (ac (av (ac ad (ac ad ae))) ae))) (ac (av (ac (av (ac ad (ac ad ae))) (ac (av (ac ad (ac ad ae))) ae))) (ac (av (ac (av (ac ad (ac ad ae))) (ac (av (ac (cb ad) (ac ad ae))) ae))) (ac (av (ac (av (ac ad (ac ad ae))) (ac (av (ac ad (ac ad ae))) ae))) ae))))) (aw (aa 0) ad)))
   (ah (ai 3 sc__law_bound_pair.nd (av (ac ad (ac ad (ac ad (ac ad (ac ad (ac ad ae))))))))
   (ah (eK 4 sc__law_bound_pair.nd ae)
   (ah (AK PassesOwn.never rfl (aL (ac (av (ac (cD uL (ac (am ad (aw (aN (aa 0) ad) ad)) ae)) (ac (aa 1) ae))) (ac (av (ac (cD uL (ac (am ad (aw (aN (aa 0) ad) ad)) ae)) (ac (aa 2) ae))) ae))) (dg_cons 5 sc__law_bound_pair.nd (dg_cons 6 sc__law_bound_pair.nd cL)) (ah (ai 7 sc__law_bound_pair.nd (av (ac (aL (ac (aa 5) ae)) (ac (af (aa 6) ad) (ac (af (aa 6) ad) (ac (aa 3) (ac (aL (ac ad (ac ad (ac ad (ac ad (ac ad (ac ad (ac ad ae)))))))) ae)))))))
    (aj (dF 4 (aL (ac (aq IT hr (ac (aL (ac (aa 5) ae)) (ac (af (aa 6) ad) (ac (af (aa 6) ad) ae)))) (ac ad (ac (aL (ac (aa 7) ae)) ae))))))))
   (aj (ar (aL (ac (eN 4 (aw (aN (aa 0) ad) ad)) (ac (eN 4 (bq ad (aw (aN (aa 0) ad) ad))) ae))))))))))),λds R h=>?_⟩)
 .obtain⟨_,rfl,_⟩:=h;rfl
 .obtain⟨d,rfl,hR⟩:=h;obtain⟨a1,b1,c1,d1,e1,w1⟩:=bp1 d;obtain⟨a2,b2,c2,d2,e2,w2⟩:=bp2 d;have r1:=vg (v:=1+d / 4 % 6) (by omega);have r2:=vg (v:=1+d / 24 % 6) (by omega);generalize m6:((toString (1+d / 4 % 6):String):D')=s1 at r1;generalize k9:((toString (1+d / 24 % 6):String):D')=s2 at r2;refine⟨λx=>x=wayD a1 b1 c1 d1,?_,?_⟩
  .iterate 13 (refine⟨by decide,?_⟩)
   exact⟨by decide,_,e1,rfl⟩
  rintro _ rfl;k_places;refine⟨λx=>x=wayD a2 b2 c2 d2,?_,?_⟩
  .iterate 13 (refine⟨by decide,?_⟩)
   exact⟨by decide,_,e2,rfl⟩
  rintro _ rfl;k_places;refine⟨λx=>x= .tup [.int 1,.int 0,.int 0,.int 1,.int 0,.int 0],⟨by show(6:Nat)<=1000;decide,rfl⟩,?_⟩;rintro _ rfl;k_places;show dSeq _ _ _ [_,_,_,_,_,_,_,_];refine⟨by decide,⟨by decide,by decide⟩,by decide,by omega,?_⟩;rw[m6];refine⟨by show(2:Nat)<=1000;decide,⟨by decide,by decide⟩,by decide,by omega,?_⟩;rw[k9];refine⟨by show(2:Nat)<=1000;decide,by show(2:Nat)<=1000;decide,λk z=>∃ (ps:List Pat) (o5 o6 o7:Option D),z=[be (.int d),be (wayD a1 b1 c1 d1),be (wayD a2 b2 c2 d2),be (.tup [.int 1,.int 0,.int 0,.int 1,.int 0,.int 0]),be (.own (ps.map Pat.D)),o5,o6,o7]/\ps.length=k/\∀ p∈ps,p.Ok,⟨[],_,_,_,rfl,rfl,λp hp=>absurd hp Gd⟩,?_,?_⟩
  .rintro k v z hk ⟨ps,o5,o6,o7,rfl,pl,pk⟩;k_places;have q_:k<2:=(FG.mp hk).1;obtain⟨s,a,b,c,d',rfl,row,w4⟩:∃ (s:D') (a b c d:Int),v= .tup [.str s,wayD a b c d]/\Rows [s]/\Way4 a b c d:=by
    rcases(by omega:k=0\/k=1) with rfl|rfl<;>cases hk
    .exact⟨_,_,_,_,_,rfl,r1,w1⟩
    .exact⟨_,_,_,_,_,rfl,r2,w2⟩
   have ok:=vf (L:=[s]) row w4.1 w4.2.1 w4.2.2.1 w4.2.2.2.1 w4.2.2.2.2;refine⟨_,rfl,rfl,λx=>x=(bo [s] a b c d').D,⟨by show(1:Nat)<=1000;decide,_,rfl,_,rfl,by show(7:Nat)<=1000;decide,by show(5:Nat)<=1000;decide,rfl⟩,?_⟩;rintro _ rfl;k_places;refine⟨by show(1:Nat)<=1000;decide,_,rfl,_,rfl,[s],a,b,c,d',rfl,row,w4.1,w4.2.1,w4.2.2.1,w4.2.2.2.1,by show(1:Nat)<=1000;decide,by show(3:Nat)<=1000;decide,by rw[Fs];omega,?_⟩;refine⟨ps++[Pat.mot [s] a b c d'],be (.str s),be (wayD a b c d'),be (bo [s] a b c d').D,?_,by rw[Fx,pl];rfl,λp hp=>?_⟩
   .rw[FX];rfl
   .rcases FO.mp hp with q|q
    .exact pk p q
    .rw[Fl.mp q];exact ok
  .rintro z ⟨ps,o5,o6,o7,rfl,pl,pk⟩;k_places;obtain⟨p,q,rfl⟩:∃ p q,ps=[p,q]:=by
    match ps,pl with
    |[p,q],_=>exact⟨p,q,rfl⟩
   have f8:=pk p (by simp);have b_:=pk q (by simp);rcases(by omega:d / 144 % 2=0\/d / 144 % 2=1) with e|e
   .refine⟨⟨by decide,by decide⟩,by decide,?_⟩;rw[e];refine⟨_,rfl,⟨by decide,by decide⟩,by decide,?_⟩;rw[e];exact⟨_,rfl,by show(2:Nat)<=1000;decide,hR p q f8 b_⟩
   .refine⟨⟨by decide,by decide⟩,by decide,?_⟩;rw[e];refine⟨_,rfl,⟨by decide,by decide⟩,by decide,?_⟩;rw[e];exact⟨_,rfl,by show(2:Nat)<=1000;decide,hR q p b_ f8⟩
abbrev oY(V:Bx):Prop:=V.D 1 "_law_keeps" ma CN
def DZ(T:V.T "_law_keeps" lZ ma)(uA:V.m "range"):oY V:=by
 refine Tx.okDW T sc__law_keeps (λds R h=>?_) (λf cdv A outer s H E J hr=>⟨_,((ah (bG 4 PassesOwn.never rfl sc__law_keeps.nd uA (af (aa 1) ad) (ah (ai 5 sc__law_keeps.nd (af (aa 0) (aw (am (aa 4) (aa 3)) (af (aa 1) ad))))
    (ah (ai 6 sc__law_keeps.nd (aw (bq (aa 2) (ax (aN (am (aa 4) (aa 3)) (af (aa 1) ad)) (af (aa 1) ad))) (af (aa 1) ad)))
    (aj (aP (ce (am (cP (aa 5) (cO (aa 6)) cN) (cP (aa 5) cN (cO (aa 6)))) (af (aa 0) (aa 4))) (aj (ar ca)) aG)))))
   (aj (ar ca)))),λds R h=>?_⟩)
 .obtain⟨_,_,_,_,_,_,rfl,_⟩:=h;rfl
 .obtain⟨p,w,h,s,x,y,rfl,ok,F,w7,h7,hR⟩:=h;have f:=F.f;have y7:∀ k:Int,0<=k->k<h->atI ((Ft h.toNat).map λ(y:Nat)=>D.str (aI p 0 (y:Int) w.toNat)) k=be (.str (aI p 0 k w.toNat)):=λk a b=>by
   have e:k=((k.toNat:Nat):Int):=by lia
   rw[e];exact bZ (by rw[FF,GI (by lia)];simp)
  refine⟨_,rfl,⟨by have:=f.h0;lia,by lia⟩,λk z=>∃ o1 o2 o3,z=[be (bP p w h),be (.tup [.int w,.int h,.int s]),be (.int x),be (.int y),o1,o2,o3]/\∀ j:Nat,j<k->aI p x (y+j) w.toNat=aI p 0 j w.toNat,⟨_,_,_,rfl,λj hj=>absurd hj (Gw j)⟩,?_,?_⟩
  .rintro k v z hk ⟨o1,o2,o3,rfl,hj⟩;k_places;obtain⟨q_,rfl⟩:=bK hk;have m0:=FU (y+(k:Int)) (show h≠0 by have:=f.h0;lia);have m1:=FV (y+(k:Int)) f.h0;refine⟨λd=>d= .str (aI p 0 ((y+k) % h) w.toNat),⟨_,rfl,f.h0,_,by rw[Hm];exact y7 _ m0 m1,rfl⟩,?_⟩;rintro _ rfl;k_places;refine⟨λd=>d= .int (hmX w h s x (y+k)),⟨_,rfl,⟨f.h0,by lia⟩,_,rfl,.inr ⟨by have:=f.s0;lia,by have:=f.sw;lia⟩,_,rfl,f.w0,by rw[Hm (k:Int) y];rfl⟩,?_⟩;rintro _ rfl;k_places;have l:=uk p 0 ((y+k) % h) w.toNat;have e:=va f.w0 f.h0 (λ_ _ q=>F.keeps q) x (y+k);refine⟨by lia,by lia,?_,?_⟩
   .rw[<- bp,<- bp,<- Fx,<- bv,e,dU];simp;lia
   rw[e];refine⟨_,y7 k (by lia) (by lia),ite2 (λc=>?_) (λc=>?_)⟩
   .refine hR false ?_;have c':¬ aI p x (y+k) w.toNat=aI p 0 k w.toNat:=λz=>by simp[z] at c
    rw[<- ic ok F];exact⟨(λz=>nomatch z),λz=>absurd (z k (by lia)) c'⟩
   .have c':aI p x (y+k) w.toNat=aI p 0 k w.toNat:=by simpa using c
    refine⟨_,_,_,rfl,λj Nz=>?_⟩;by_cases e:j=k
    .subst e;exact c'
    .exact hj j (by lia)
  .rintro z ⟨o1,o2,o3,rfl,hj⟩;k_places;rw[bB] at hj;exact hR true ⟨λ_=>(ic ok F x y).mp hj,λ_=>rfl⟩
abbrev oZ(V:Bx):Prop:=V.D 2 "_law_least" mf CO
def D0(T:V.T "_law_least" me mf)(LY:oY V):oZ V:=by
  refine Tx.okDW T sc__law_least (λds R h=>?_) (λf cdv A outer s H E J hr=>⟨_,((ah (ai 2 sc__law_least.nd ad)
      (ah (dG PassesOwn.never (eB (cv (aq LY hr (ac (aa 0) (ac (aa 1) (ac (aa 2) (ac ad ae))))))) (aj (ai 2 sc__law_least.nd (am (aa 2) ad))))
      (ah (ai 3 sc__law_least.nd ad)
      (ah (ai 4 sc__law_least.nd ad)
      (ah (dG PassesOwn.never (eB (cv (aq LY hr (ac (aa 0) (ac (aa 1) (ac (aa 4) (ac (aa 3) ae))))))) (ah (ai 4 sc__law_least.nd (am (aa 4) ad))
        (aj (cY (aY (aa 4) (aa 2)) (ah (ai 4 sc__law_least.nd ad)
         (aj (ai 3 sc__law_least.nd (am (aa 3) ad)))) aG))))
      (aj (ar (av (ac (aa 2) (ac (aa 3) (ac (aa 4) ae)))))))))))),λds R h=>?_⟩)
  . obtain⟨_,_,_,_,rfl,_⟩:=h;rfl
  . obtain⟨p,w,h,s,rfl,ok,F,w7,h7,hR⟩:=h;obtain⟨w',h',s',L,d1,d2,NI,Pe,JT⟩:=Pat.least_ex F;have w0:=L.f.w0;have h0:=L.f.h0;have kw:p.Keeps w' 0:=(L.lat _ _).mp (InF.one _ _ _);have ks:p.Keeps s' h':=(L.lat _ _).mp (InF.two _ _ _);refine⟨λd=>d= .int 1,rfl,?_⟩;rintro _ rfl;k_places;refine⟨λm z=>∃ x:Int,z=[be (bP p w h),be (.tup [.int w,.int h,.int s]),be (.int x),m9,m9]/\1<=x/\x<=w'/\m=(w' - x).toNat,⟨_,1,rfl,by lia,by lia,rfl⟩,?_⟩;rintro m z ⟨x,rfl,x1,xw,hm⟩;k_places;refine⟨p,w,h,s,x,0,rfl,ok,F,w7,h7,λb hb=>?_⟩;cases b with
    |false=>
      have nk:¬ p.Keeps x 0:=λz=>nomatch hb.mpr z;have:x≠w':=λz=>nk (z ▸ kw);refine⟨λd=>d= .int (x+1),rfl,?_⟩;rintro _ rfl;k_places;exact⟨(w' - (x+1)).toNat,by lia,x+1,rfl,by lia,by lia,rfl⟩
    |true=>
      have k:=hb.mp rfl;obtain⟨i,j,e1,e2⟩:=(L.lat x 0).mpr k;have j0:j=0:=small_mul (i:=j) h0 (by lia) (by lia);subst j0;have ex:x=w':=by
        rcases GJ i 1 with q|q|q
        . have:=FH (show i<=0 by lia) (show 0<=w' by lia);lia
        . subst q;lia
        . have:=FH (show 2<=i by lia) (show 0<=w' by lia);lia
      subst ex;refine⟨λd=>d= .int 1,rfl,?_⟩;rintro _ rfl;k_places;refine⟨λd=>d= .int 0,rfl,?_⟩;rintro _ rfl;k_places;have NJ:∀ a b:Int,a<b->a*x+x<=b*x:=λa b q=>by
        have:=FH (show a+1<=b by lia) (show 0<=x by lia);rw[Hg] at this;lia
      refine⟨λm z=>∃ y l:Int,z=[be (bP p w h),be (.tup [.int w,.int h,.int s]),be (.int x),be (.int y),be (.int l)]/\1<=y/\y<=h'/\0<=l/\l<x/\(y=h'->l<=s')/\m=(h'*x - y*x+(x - l)).toNat,⟨_,1,0,rfl,by lia,by lia,by lia,w0,λ_=>L.f.s0,rfl⟩,?_⟩;rintro m z ⟨y,l,rfl,y1,yh,l0,lx,Pf,hm⟩;k_places;have my:y*x<=h'*x:=FH yh (by lia);refine⟨p,w,h,s,l,y,rfl,ok,F,w7,h7,λb hb=>?_⟩;cases b with
      |false=>
        have nk:¬ p.Keeps l y:=λz=>nomatch hb.mpr z;have ne:y=h'->l≠s':=λq z=>nk (q ▸ z ▸ ks);have sw:=L.f.sw;refine⟨λd=>d= .int (l+1),rfl,?_⟩;rintro _ rfl;k_places;refine⟨λz=>∃ y' l':Int,z=[be (bP p w h),be (.tup [.int w,.int h,.int s]),be (.int x),be (.int y'),be (.int l')]/\1<=y'/\y'<=h'/\0<=l'/\l'<x/\(y'=h'->l'<=s')/\(h'*x - y'*x+(x - l')).toNat<m,ite2 (λc=>?_) (λc=>?_),?_⟩
        . have c':=of_decide_eq_true c;have yl:y<h':=by
            rcases Int.lt_or_eq_of_le yh with q|q
            . exact q
            . have:=Pf q;have:=ne q;lia
          have:=NJ y h' yl;refine⟨λd=>d= .int 0,rfl,?_⟩;rintro _ rfl;k_places;refine⟨λd=>d= .int (y+1),rfl,?_⟩;rintro _ rfl;k_places;refine⟨y+1,0,rfl,by lia,by lia,by lia,w0,λ_=>L.f.s0,?_⟩;rw[Hg,IH];lia
        . have c':¬ (l+1=x):=λz=>c (decide_eq_true z);exact⟨y,l+1,rfl,y1,yh,by lia,by lia,λq=>by have:=Pf q;have:=ne q;lia,by lia⟩
        . rintro _ ⟨y',l',rfl,a1,a2,a3,a4,a5,a6⟩;k_places;exact⟨_,a6,y',l',rfl,a1,a2,a3,a4,a5,rfl⟩
      |true=>
        have k:=hb.mp rfl;have ey:y=h':=by have:=(L.down k (by lia)).1;lia
        subst ey;have el:=L.slant l0 lx k;subst el;exact⟨by show(3:Nat)<=1000;decide,hR x y l L NI Pe JT⟩
abbrev pd(V:Bx):Prop:=V.D 2 "_law_leaf_shows" mj Bl
def D1(T:V.T "_law_leaf_shows" mi mj)(uA:V.m "range")(uB:V.m "len")(uD:V.m "int")(Kc:iZ V):pd V:=by
 refine Tx.okDW T sc__law_leaf_shows (λds R h=>?_) (λf cdv A outer s H E J hr=>⟨_,((ah (ai 3 sc__law_leaf_shows.nd (af (aa 0) ad))
   (ah (ai 4 sc__law_leaf_shows.nd (am (am (ax (af (aa 3) ad) (aa 1)) (ax (af (aa 3) ad) (aa 2))) (af (aa 3) ad)))
   (ah (ai 5 sc__law_leaf_shows.nd (am (am (ax (af (aa 3) ad) (aa 1)) (ax (af (aa 3) ad) (aa 2))) (af (aa 3) ad)))
   (ah (bG 6 PassesOwn.never rfl sc__law_leaf_shows.nd uA (cC uB (ac (af (aa 0) ad) ae)) (aj (bG 7 PassesOwn.never rfl sc__law_leaf_shows.nd uA (cC uB (ac (af (af (aa 0) ad) (aa 6)) ae)) (aj (aP (cK (fL (ce (af (af (af (aa 0) ad) (aa 6)) (aa 7)) ay) (fK (cv (aq Kc hr (ac (af (aa 0) ad) (ac (af (aa 0) ad) (ac (bq (aa 4) (aa 7)) (ac (bq (aa 5) (aa 6)) ae))))))))) (aj (ar (af (af (aa 0) ad) (gL uD (ac (af (af (af (aa 0) ad) (aa 6)) (aa 7)) ae))))) aG)))))
   (aj (ar ad))))))),λds R h=>?_⟩)
 .obtain⟨_,_,_,rfl,_⟩:=h;rfl
 .obtain⟨l,x,y,rfl,ok,hR⟩:=h;obtain⟨hm,wd,QR,p8⟩:=id ok.rows;refine⟨λd=>d= .tup [.int l.w0,.int l.w1,.int l.w2,.int l.w3,.int l.w4,.int l.w5],⟨_,rfl,rfl⟩,?_⟩;rintro _ rfl;k_places;refine⟨λd=>d= .int (l.w0*x+l.w1*y+l.w4),⟨_,rfl,.inl (n64 ok.w0),_,rfl,.inl (n64 ok.w1),_,rfl,rfl⟩,?_⟩;rintro _ rfl;k_places;refine⟨λd=>d= .int (l.w2*x+l.w3*y+l.w5),⟨_,rfl,.inl (n64 ok.w2),_,rfl,.inl (n64 ok.w3),_,rfl,rfl⟩,?_⟩;rintro _ rfl;k_places;have Jl:R (.int (match l.hit x y with|some c=>cell l.hues ((c:Int) - 48)|none=>0)):=hR;unfold Leaf.hit at Jl;generalize l.w0*x+l.w1*y+l.w4=U at Jl ⊢;generalize l.w2*x+l.w3*y+l.w5=V at Jl ⊢;generalize ef:(λi j=>onB l.a l.b l.c l.d (U - i) (V - j))=f at Jl;have e0:∀ i j,f i j=onB l.a l.b l.c l.d (U - i) (V - j):=λi j=>by rw[<- ef]
  have a_:((l.rows.map D.str).length:Int).toNat=l.rows.length:=by simp
  refine⟨_,rfl,⟨by lia,by simp;lia⟩,λk z=>∃ o1 o2:Option D,z=[be l.D,be (.int x),be (.int y),be (.tup [.int l.w0,.int l.w1,.int l.w2,.int l.w3,.int l.w4,.int l.w5]),be (.int U),be (.int V),o1,o2]/\bJ f 0 l.rows=bJ f k (l.rows.drop k),⟨_,_,rfl,rfl⟩,?_,?_⟩
  .rintro j v z hj ⟨o1,o2,rfl,hs⟩;k_places;obtain⟨J6,rfl⟩:=bK hj;rw[a_] at J6;have La:l.rows[j]?=be l.rows[j]:=FJ J6;have y8:l.rows.drop j=l.rows[j]::l.rows.drop (j+1):=GU J6;obtain⟨p7,x9⟩:=p8 l.rows[j] (FT J6);generalize l.rows[j]=row at La y8 p7 x9;have JU:=at_str La;have j8:=bp row;refine⟨_,rfl,_,JU,by lia,⟨by lia,by lia⟩,λi z=>∃ o2:Option D,z=[be l.D,be (.int x),be (.int y),be (.tup [.int l.w0,.int l.w1,.int l.w2,.int l.w3,.int l.w4,.int l.w5]),be (.int U),be (.int V),be (.int j),o2]/\scanRow (λi=>f i j) 0 (cs row)=scanRow (λi=>f i j) i ((cs row).drop i),⟨_,rfl,rfl⟩,?_,?_⟩
   .rintro i v z hi ⟨o2,rfl,Kf⟩;k_places;obtain⟨g_,rfl⟩:=bK hi;have NK:i<(cs row).length:=by lia
    have IW:(cs row).drop i=(cs row)[i]::(cs row).drop (i+1):=GU NK;have Lb:=x9 (cs row)[i] (FT NK);have NL:atI (cs row) (i:Int)=be (cs row)[i]:=bZ (FJ NK);generalize (cs row)[i]=c at IW Lb NL;refine⟨_,rfl,_,JU,c,⟨by lia,NL⟩,ite2 (λq=>?_) (λq=>?_)⟩
    .have v3:¬ c=46:=by
      intro z;have:(⟨#[c]⟩:D')=".":=one_sign.mpr z;simp[this] at q
     refine⟨_,rfl,_,rfl,l.a,l.b,l.c,l.d,U - i,V - j,rfl,ok.a.lt,ok.b.lt,ok.c.lt,ok.d.lt,ok.ne,?_⟩;refine ite2 (λq2=>?_) (λq2=>?_)
     .have c_:f i j=true:=by rw[e0];exact q2
      have QS:49<=c/\c<=54:=by unfold aF at Lb;lia
      refine⟨_,rfl,_,rfl,_,JU,c,⟨by lia,NL⟩,_,⟨digit_of QS,by show 1<=640;decide⟩,_,cF (by lia) (by rw[ok.many];lia),?_⟩;rw[hs,y8,bJ,Kf,IW,scanRow,if_pos ⟨v3,c_⟩] at Jl;exact Jl
     .have c_:¬ f i j=true:=by rw[e0];exact q2
      refine⟨_,rfl,?_⟩;rw[Kf,IW,scanRow,if_neg (λz=>c_ z.2)]
    .have v3:c=46:=by
      rcases Classical.em (c=46) with z|z
      .exact z
      .exact absurd (by
        have:¬ (⟨#[c]⟩:D')=".":=λw=>z (one_sign.mp w);simp[this]) q
     refine⟨_,rfl,?_⟩;rw[Kf,IW,scanRow,if_neg (λz=>z.1 v3)]
   .rintro z ⟨o2,rfl,Kf⟩;k_places;refine⟨_,_,rfl,?_⟩;have hn:((row.length:Int).toNat)=(cs row).length:=by lia
    rw[bB,hn,HI (Fo _),scanRow] at Kf;rw[hs,y8,bJ,Kf]
  .rintro z ⟨o1,o2,rfl,hs⟩;k_places;rw[bB,a_,HI (Fo _),bJ] at hs;rw[hs] at Jl;exact Jl
abbrev jc(V:Bx):Prop:=V.D 3 "_law_shows" mn Bm
def D2(T:V.T "_law_shows" mm mn)(NM:pd V):jc V:=by
 refine Tx.okDW T sc__law_shows (λds R h=>?_) (λf cdv A outer s H E J hr=>⟨_,((ah (fM 3 PassesOwn.never rfl sc__law_shows.nd (aa 0) (ah (ai 4 sc__law_shows.nd (aq NM hr (ac (aa 3) (ac (aa 1) (ac (aa 2) ae)))))
    (aj (aP (ce (aa 4) ad) (aj (ar (aa 4))) aG))))
   (aj (ar ad)))),λds R h=>?_⟩)
 .obtain⟨_,_,_,rfl,_⟩:=h;rfl
 .obtain⟨ls,x,y,rfl,ok,hR⟩:=h;refine⟨λk z=>∃ o1 o2:Option D,z=[be (.lst (ls.map Leaf.D)),be (.int x),be (.int y),o1,o2]/\aX ls x y=aX (ls.drop k) x y,⟨_,_,rfl,rfl⟩,?_,?_⟩
  .rintro k v z hk ⟨o1,o2,rfl,hs⟩;k_places;rw[FF] at hk;have n_:k<ls.length:=by
    rcases GE k ls.length with q|q
    .exact q
    .rw[Gn q] at hk;cases hk
   rw[FJ n_] at hk;cases hk;have ed:ls.drop k=ls[k]::ls.drop (k+1):=GU n_;have Pg:=ok ls[k] (FT n_);generalize ls[k]=l at ed Pg;refine⟨λd=>d= .int (l.shows x y),⟨l,x,y,rfl,Pg,rfl⟩,?_⟩;rintro _ rfl;k_places;refine ite2 (λq=>?_) (λq=>?_)
   .have q':¬ l.shows x y=0:=by simpa using q
    rw[hs,ed,aX,if_pos q'] at hR;exact hR
   .have q':l.shows x y=0:=by simpa using q
    refine⟨_,_,rfl,?_⟩;rw[hs,ed,aX,if_neg (λz=>z q')]
  .rintro z ⟨o1,o2,rfl,hs⟩;k_places;rw[Fs,HI (Fo _),aX] at hs;rw[hs] at hR;exact hR
abbrev pe(V:Bx):Prop:=V.D 4 "_law_table" mo CM
def D3(T:V.T "_law_table" ig mo)(uA:V.m "range")(JV:jc V):pe V:=by
 refine Tx.okDW T sc__law_table (λds R h=>?_) (λf cdv A outer s H E J hr=>⟨_,((ah (eK 2 sc__law_table.nd ae)
   (ah (bG 3 PassesOwn.never rfl sc__law_table.nd uA (af (aa 1) ad) (aj (dF 2 (jS (jW rfl (compScope (by change cM _ (ag ig) ["_law_leaves","_law_three","_law_lines_here","_law_y"] _=true;decide+kernel)) uA (af (aa 1) ad) (λcl s0 H0 fp=>(af ay (aq JV hr (ac (aa 0) (ac (aa 4) (ac (aa 3) ae)))))))))))
   (eJ 2 (aj (ar (aa 2))))))),λds R h=>?_⟩)
 .obtain⟨_,_,_,_,rfl,_⟩:=h;rfl
 .obtain⟨p,w,h,s,rfl,wf,dp,w0,w7,h0,h7,hR⟩:=h;refine⟨by simp,?_⟩;refine⟨_,rfl,⟨by lia,by lia⟩,λk z=>∃ o,z=[be (.lst (p.leaves.map Leaf.D)),be (.tup [.int w,.int h,.int s]),be (.own ((Ft k).map λ(y:Nat)=>D.str (aI p 0 (y:Int) w.toNat))),o],⟨_,rfl⟩,?_,?_⟩
  .rintro k v z hk ⟨o,rfl⟩;k_places;obtain⟨q_,rfl⟩:=bK hk;refine⟨_,rfl,⟨by lia,by lia⟩,by rw[bB];lia,λi ys=>ys=(Ft i).map λ(x:Nat)=>D.str ⟨#[bO (p.show (0+(x:Int)) k)]⟩,rfl,?_,?_⟩
   .rintro i v ys hi hl rfl;obtain⟨Jn,rfl⟩:=bK hi;refine⟨p.leaves,i,k,rfl,Pat.leaf_ok wf (by lia),?_⟩;rw[Pat.show_leaves wf (by lia)];obtain⟨b0,b6⟩:=Pat.show_le wf (by lia) (i:Int) k;refine⟨_,⟨by decide,ul b0 b6⟩,?_⟩;show _=GM _ (Ft (i+1));rw[GO,FX];simp only[FB,Gi,HG]
   .rintro ys hl rfl;rw[bB,CL];refine⟨_,hU _,?_,?_⟩
    .rw[CK,show("":D').length=0 from rfl];simp;lia
    .rw[CJ];refine⟨by simp;lia,?_⟩;refine⟨be (.int k),?_⟩;rw[GO,FX];rfl
  .rintro z ⟨o,rfl⟩;k_places;rw[bB];exact hR
abbrev jd(V:Bx):Prop:=V.E 1 "WrongSign" mv Ck
def D4(T:V.Te "WrongSign" "WrongSign.__init__" mq mv)(Kg:V.b "MotifError")(uBG:V.ea "WrongSign")(NN:V.xf "WrongSign" "place"):jd V:=by
 refine Txe.okE T CS (λds R h=>?_) (λf cdv A outer s H E J hr=>⟨_,((rZ Kg uBG (ac (aa 1) ae) (se uBG NN (aa 1) rY))),λds R h=>?_⟩)
 .obtain⟨i,rfl,_⟩:=h;rfl
 .obtain⟨i,rfl,hR⟩:=h;exact⟨by show(1:Nat)<=1000;decide,rfl,hR⟩
abbrev dv(V:Bx):Prop:=V.Q 1 "Reading" "may_take" mz BI
def D5(T:V.Tm "Reading" "may_take" "Reading.may_take" mx mz)(uB:V.m "len")(Jo:V.a "Reading" "text")(uG:V.a "Reading" "place"):dv V:=by
 refine Txm.okM T CT (λds M R RX h=>?_) (λf cdv A outer s H E J hr hx=>⟨_,((aB (cn (mt_w (zE (gW (aO uG (ao (aa 0))) (sE uB (aW (aO Jo (ao (aa 0))) bt))) (zC (zA (sA (aO Jo (ao (aa 0))) (aO uG (ao (aa 0)))) (ao (aa 1)))))) (aE (aQ (ao ay))) cf)
   (aB (gZ uG (ao (aa 0)) (gT (aO uG (ao (aa 0))) (ao ad)))
   (aE (aQ (sA (aO Jo (ao (aa 0))) (kh (aO uG (ao (aa 0))) (ao ad)))))))),λds M R RX b7 h=>?_⟩)
 .obtain⟨_,_,_,_,_,rfl,_⟩:=h;rfl
 .obtain⟨a,t,k,l,al,rfl,rfl,d8,hR⟩:=h;refine⟨_,aR,_,dg,_,aR,_,kE,FA d8.sz (by decide),?_⟩;cases l with
  |nil=>
   refine ifdT (by rw[d8.nil]) (ifT rfl ?_);exact hR
  |cons c l=>
   have lt:=d8.lt;refine ifdF (by lia) ?_;refine⟨_,aR,_,kE,_,aR,_,dg,c,⟨FA d8.sz (by decide),bZ d8.get⟩,?_⟩;refine ite2 (λe=>?_) (λe=>?_)
   .have e2:(!(!(Builtin.Str.occurrences al ⟨#[c]⟩ 0 al.length 1).isEmpty))=true:=e;rw[tV] at e2;have nc:c ∉ cs al:=by simpa using e2
    rw[dh nc,dm nc] at hR;exact hR
   .have e2:¬ (!(!(Builtin.Str.occurrences al ⟨#[c]⟩ 0 al.length 1).isEmpty))=true:=e;rw[tV] at e2;have nc:c∈cs al:=by simpa using e2
    rw[dN nc,dO nc] at hR;refine⟨_,aR,_,dg,_,aR,by show(2:Nat)<1000;decide,?_⟩;rw[show mput (RdM a t k) a (.ins "Reading" (putD ("place":D') (.int ((k:Int)+1)) (rdF t k)))=RdM a t (k+1) by rw[BG];exact fk];refine⟨_,aR,_,kE,_,aR,_,dg,c,⟨FA d8.sz (by decide),?_⟩,hR⟩;rw[show((k+1:Nat):Int) - 1=(k:Int) by lia];exact bZ d8.get
abbrev cJ(V:Bx):Prop:=V.Q 3 "Reading" "take" mC BJ
def D6(T:V.Tm "Reading" "take" "Reading.take" mB mC)(uG:V.a "Reading" "place")(uI:dv V)(uX:jd V):cJ V:=by
 refine Txm.okM T sc_Reading_take (λds M R RX h=>?_) (λf cdv A outer s H E J hr hx=>⟨_,((aB (bj 2 sc_Reading_take.nd (bb (CalMth.one uI) hx hr (ao (aa 0)) (aD (ac (aa 1) ae))))
   (aB (cn (cm (aY (aa 2) ay)) (aE (km uX hr hx rfl (aW (aO uG (ao (aa 0))) bt))) cf)
   (aE (aQ (ao (aa 2))))))),λds M R RX b7 h=>?_⟩)
 .obtain⟨_,_,_,_,_,rfl,_⟩:=h;rfl
 .obtain⟨a,t,k,l,al,rfl,rfl,d8,hR,hX⟩:=h;refine⟨λd M'=>d= .str (mayS al l)/\M'=RdM a t (k+mayN al l),⟨_,Fl.mpr rfl,_,aR,cS,a,t,k,l,al,rfl,rfl,d8,rfl,rfl⟩,?_⟩;rintro _ _ ⟨rfl,rfl⟩;k_places;have no:(∀ c l',l=c::l'->c ∉ cs al)->mayS al l=""/\mayN al l=0:=λh=>by
   cases l with
   |nil=>exact⟨rfl,rfl⟩
   |cons c l=>exact⟨dh (h c l rfl),dm (h c l rfl)⟩
  by_cases h:∃ c l',l=c::l'/\c∈cs al
  .obtain⟨c,l',rfl,hc⟩:=h;rw[dN hc,dO hc];exact hR c l' rfl hc
  .have h':∀ c l',l=c::l'->c ∉ cs al:=λc l' e hc=>h ⟨c,l',e,hc⟩;obtain⟨e1,e2⟩:=no h';rw[e1,e2];refine⟨_,aR,_,dg,by show(1:Nat)<=1000;decide,(k:Int),rfl,?_⟩;rw[b7];exact hX h' _
abbrev pf(V:Bx):Prop:=V.MM 4 "line_from" mF BQ
def D7(T:V.T "line_from" mD mF)(uA:V.m "range")(uW:V.gs "SIGNS" ".123456")(uC:cJ V)(uI:dv V):pf V:=by
 refine Tx.okM T sc_line_from (λds M R RX h=>?_) (λf cdv A outer s H E J hr hx=>⟨_,((aB (bj 3 sc_line_from.nd (ao ay))
   (aB (Aa 4 PassesOwn.leaving rfl sc_line_from.nd uA (ao (aa 2)) (aE (bj 3 sc_line_from.nd (gT (ao (aa 3)) (fP (cm (fH (aa 4) (aa 1))) (bb (CalMth.one uC) hx hr (ao (aa 0)) (aD (ac (gP uW) ae))) (bb (CalMth.one uI) hx hr (ao (aa 0)) (aD (ac (gP uW) ae))))))))
   (aE (aQ (ao (aa 3))))))),λds M R RX b7 h=>?_⟩)
 .obtain⟨_,_,_,_,_,_,rfl,_⟩:=h;rfl
 .obtain⟨a,t,k,l,n,m,rfl,rfl,d8,RH,RI,hR,hX⟩:=h;refine⟨λd M'=>d= .str ""/\M'=RdM a t k,⟨rfl,rfl⟩,?_⟩;rintro _ _ ⟨rfl,rfl⟩;k_places;refine⟨⟨by lia,by lia⟩,λi z M'=>i<=m/\∃ col,z=[be (.ptr a),be (.int n),be (.int m),be (.str ⟨(sgPre i l).toArray⟩),col]/\M'=RdM a t (k+(sgPre i l).length)/\min i n<=(sgPre i l).length,⟨FR _,m9,rfl,rfl,by simp⟩,?_,?_⟩
  .rintro i x z M' hi ⟨RJ,col,rfl,rfl,y9⟩;k_places;obtain⟨Jn,rfl⟩:=bK hi;have Jn:i<m:=by lia
   have NI:=hV i l;rcases sgPre_succ i l with⟨c,l',h1,h2,h3,h4⟩|⟨l',h1,h2,h3⟩
   .have d5:At t (k+(sgPre i l).length) (c::l'):=by have:=d8;rw[h1] at this;exact this.app
    refine⟨λd M'=>d= .str ⟨(sgPre (i+1) l).toArray⟩/\M'=RdM a t (k+(sgPre i l).length+1),?_,?_⟩
    .refine ite2 (λ_=>?_) (λ_=>?_)
     .refine⟨_,Fl.mpr rfl,_,aR,cj,a,t,_,_,".123456",rfl,rfl,d5,λc' l2 e hc=>?_,λd6=>absurd (signs_is.mpr h3) (d6 c l' rfl)⟩;cases e;refine⟨by rw[dR,show(⟨#[c]⟩:D').length=1 from rfl];lia,?_,rfl⟩;rw[show(⟨#[c]⟩:D')=⟨[c].toArray⟩ from rfl,fo,h4]
     .refine⟨_,Fl.mpr rfl,_,aR,cS,a,t,_,_,".123456",rfl,rfl,d5,?_⟩;rw[dN (signs_is.mpr h3),dO (signs_is.mpr h3)];refine⟨by rw[dR,show(⟨#[c]⟩:D').length=1 from rfl];lia,?_,rfl⟩;rw[show(⟨#[c]⟩:D')=⟨[c].toArray⟩ from rfl,fo,h4]
    .rintro _ _ ⟨rfl,rfl⟩;k_places;refine⟨Jn,_,rfl,?_,?_⟩
     .rw[h4,Fx];rfl
     .rw[h4,Fx,h2];show _<=i+1;lia
   .have d5:At t (k+(sgPre i l).length) l':=by have:=d8;rw[h1] at this;exact this.app
    have d6:∀ c l2,l'=c::l2->c ∉ cs ".123456":=λc l2 q z=>by
     have:=h2 c l2 q;rw[signs_is.mp z] at this;cases this
    have y_:mayS ".123456" l'=""/\mayN ".123456" l'=0:=by
     cases l' with
     |nil=>exact⟨rfl,rfl⟩
     |cons c l2=>exact⟨dh (d6 c l2 rfl),dm (d6 c l2 rfl)⟩
    refine⟨λd M'=>d= .str ⟨(sgPre (i+1) l).toArray⟩/\M'=RdM a t (k+(sgPre i l).length)/\¬ i<n,?_,?_⟩
    .refine ite2 (λc=>?_) (λc=>?_)
     .have c':=of_decide_eq_true c;refine⟨_,Fl.mpr rfl,_,aR,cj,a,t,_,_,".123456",rfl,rfl,d5,λc' l2 e hc=>absurd hc (d6 c' l2 e),λ_ M'=>?_⟩;rw[b7];have:=hX (by rw[h3 m (by lia)];lia) M';rw[h3 m (by lia)] at this;exact this
     .have c':¬ i<n:=λz=>c (decide_eq_true (by lia));refine⟨_,Fl.mpr rfl,_,aR,cS,a,t,_,_,".123456",rfl,rfl,d5,?_⟩;rw[y_.1,y_.2];refine⟨by rw[dR,show("":D').length=0 from rfl];lia,?_,rfl,c'⟩;rw[show("":D')=⟨([]:List Nat).toArray⟩ from rfl,fo,F7,h3 (i+1) (by lia)]
    .rintro _ _ ⟨rfl,rfl,p8⟩;k_places;refine⟨Jn,_,rfl,by rw[h3 (i+1) (by lia)],?_⟩;rw[h3 (i+1) (by lia)];lia
  .intro z M' hz;rw[bB,G2] at hz;obtain⟨_,col,rfl,rfl,y9⟩:=hz;exact hR (by lia)
abbrev ph(V:Bx):Prop:=V.MM 5 "lines_from" mH BT
def D8(T:V.T "lines_from" mG mH)(uB:V.m "len")(LZ:pf V)(L0:V.gi "LONGEST" 8)(uI:dv V):ph V:=by
  refine Tx.okM T sc_lines_from (λds M R RX h=>?_) (λf cdv A outer s H E J hr hx=>⟨_,((aB (bj 1 sc_lines_from.nd (zH (aW (bg (CalMM.frame LZ) hx hr (aD (ac (aa 0) (ac ad (ac (eQ L0) ae))))) bt)))
      (aB (bj 2 sc_lines_from.nd (sE uB (aW (Ad (ao (aa 1)) (ao ad)) bt)))
      (aB (zZ PassesOwn.leaving (mt_w (zD (sB (Ac uB (ao (aa 1))) (ao (eQ L0))) (zB (gW (bb (CalMth.one (CalMth.frame uI)) hx hr (ao (aa 0)) (aD (ac ay ae))) (ao ay))))) (aE (cx (Af (ao (aa 1)) (bg (CalMM.frame LZ) hx hr (aD (ac (aa 0) (ac (aa 2) (ac (aa 2) ae)))))))))
      (sJ 1 (aE (aQ (ao (aa 1))))))))),λds M R RX b7 h=>?_⟩)
  . obtain⟨_,_,_,_,rfl,_⟩:=h;rfl
  . obtain⟨a,t,k,l,rfl,rfl,d8,hR,hX⟩:=h;obtain⟨l1,L3,hg⟩:=sgPre_split 8 l;have Ph:=sgPre_sign 8 l;have IY:=hV 8 l;refine⟨λd M'=>∃ p,p≠a/\1<=(sgPre 8 l).length/\d= .ptr p/\M'=(p,.lst [.str ⟨(sgPre 8 l).toArray⟩])::RdM a t (k+(sgPre 8 l).length),⟨[],RdM a t k,rfl,a,t,k,l,1,8,rfl,rfl,d8,by decide,by decide,λh1=>⟨by show 1<=1000;decide,λp hp=>?_⟩,λh1 M'=>?_⟩,?_⟩
    . exact⟨p,λe=>hp (by rw[e];exact Fl.mpr rfl),h1,rfl,rfl⟩
    . rw[b7];refine hX _ (λr=>?_) _;have e0:sgPre 8 l=[]:=Hx (by lia);rw[e0] at L3 hg ⊢;rw[L3];have:=tY (w:=1) (n:=0) (x:=[]) (l:=l1) (λc z=>nomatch z) (by decide) (by decide) (λ_=>rfl) (hg.resolve_left (by decide)) r k;refine walk_bad (λz=>nomatch z) λc l' q=>?_;rw[dM];unfold cR;rw[hg.resolve_left (by decide) c l' q,if_neg Fz];exact if_pos (.inl rfl)
    rintro _ _ ⟨p,QT,h1,rfl,rfl⟩;k_places;refine⟨λd M'=>d= .int (sgPre 8 l).length/\M'=(p,.lst [.str ⟨(sgPre 8 l).toArray⟩])::RdM a t (k+(sgPre 8 l).length),⟨_,cT,_,rfl,by rw[dR];lia,by rw[dR],rfl⟩,?_⟩;rintro _ _ ⟨rfl,rfl⟩;k_places;refine⟨λm z M'=>∃ (L:List (List Nat)) (w0:Nat) (l2:List Nat),RowsL L (sgPre 8 l).length/\l=rowsL L++l2/\LinAt w0 (sgPre 8 l).length L.length l2/\(∀ r,walk (.lin 0 0 0::r) l k=walk (.lin w0 (sgPre 8 l).length (L.length - 1)::r) l2 (k+(rowsL L).length))/\m=8 - L.length/\z=[be (.ptr a),be (.ptr p),be (.int (sgPre 8 l).length)]/\M'=(p,.lst (lstD L))::RdM a t (k+(rowsL L).length),⟨7,[sgPre 8 l],0,l1,⟨by simp,h1,IY,λx hx=>?_⟩,L3,⟨h1,by simp,λ_=>hg,λz=>absurd z (by simp)⟩,λr=>?_,rfl,rfl,rfl⟩,?_⟩
    . rw[Fl.mp hx];exact⟨rfl,Ph⟩
    . have:=fg (w:=0) (k:=0) (r:=r) (sgPre 8 l) 0 l1 k Ph (by simp;lia);rw[<- L3,GV] at this;exact this
    rintro m z M' ⟨L,w0,l2,hL,Jg,JW,hw,rfl,rfl,rfl⟩;k_places;have x8:=hL.many;have m8:At t (k+(rowsL L).length) l2:=by have:=d8;rw[Jg] at this;exact this.app
    have Ld:(lstD L).length=L.length:=by simp[lstD]
    have done:(L.length=8\/∀ l',l2≠47::l')->R (.lst (lstD L)) (RdM a t (k+(rowsL L).length)):=λst=>hR L _ l2 hL Jg λr=>by rw[hw r,BS JW (by lia) st]
    refine⟨_,cT,?_⟩;rw[Ld];refine ite2 (λc=>?_) (λc=>?_)
    . have c':L.length<8:=by have:=of_decide_eq_true c;lia
      refine⟨_,Fl.mpr rfl,_,BR QT,cS,[(p,_)],RdM a t _,rfl,a,t,_,l2,"/",rfl,rfl,m8,?_⟩;by_cases Pj:∃ l',l2=47::l'
      . obtain⟨l3,rfl⟩:=Pj;have Pk:(47:Nat)∈cs "/":=by decide
        rw[dN Pk,dO Pk];obtain⟨l4,NO,QU⟩:=sgPre_split (sgPre 8 l).length l3;have NP:=sgPre_sign (sgPre 8 l).length l3;have QV:=hV (sgPre 8 l).length l3;refine⟨⟨_,cT⟩,[(p,_)],RdM a t _,rfl,a,t,_,l3,(sgPre 8 l).length,(sgPre 8 l).length,rfl,rfl,m8.next,Fo _,IY,λh2=>?_,λh2 M'=>?_⟩
        . have a_:(sgPre (sgPre 8 l).length l3).length=(sgPre 8 l).length:=by lia
          refine⟨_,cT,by rw[Ld];lia,?_⟩;refine⟨8 - (L.length+1),by lia,L++[sgPre (sgPre 8 l).length l3],(sgPre 8 l).length,l4,⟨by rw[Fx];simp;lia,h1,IY,λx hx=>?_⟩,?_,⟨h1,by rw[Fx];simp,λz=>?_,λ_=>rfl⟩,λr=>?_,by rw[Fx];rfl,rfl,?_⟩
          . rcases FO.mp hx with q|q
            . exact hL.each x q
            . rw[Fl.mp q];exact⟨a_,NP⟩
          . rw[hZ L _ (λq=>by rw[q] at x8;simp at x8),F4,F9,<- NO];exact Jg
          . rw[Fx] at z;simp at z;rw[z] at x8;simp at x8
          . rw[hw r,tX JW c' r];have:=fg (w:=(sgPre 8 l).length) (k:=L.length) (r:=r) (sgPre (sgPre 8 l).length l3) 0 l4 (k+(rowsL L).length+1) NP (by rw[if_pos (by lia)];lia);rw[<- NO,GV,a_] at this;rw[this,hZ L _ (λq=>by rw[q] at x8;simp at x8),Fx,Fx];show walk (.lin _ _ L.length::r) l4 _=walk (.lin _ _ (L.length+1 - 1)::r) l4 _;congr 1;rw[Fq,a_];lia
          . show mput ((p,MO.lst (lstD L))::RdM a t _) p _=_;rw[tW,hZ L _ (λq=>by rw[q] at x8;simp at x8)];show _::RdM a t _=_;congr 1
            . simp[lstD]
            . congr 1;simp;lia
        . rw[b7];refine hX _ (λr=>?_) _;rw[hw r,tX JW c' r];have:=tY (w:=(sgPre 8 l).length) (n:=L.length) NP h2 IY (λq=>by lia) (QU.resolve_left (by lia)) r (k+(rowsL L).length+1);rw[<- NO] at this;exact this
      . have d6:∀ l',l2≠47::l':=λl' q=>Pj ⟨l',q⟩;have y_:mayS "/" l2=""/\mayN "/" l2=0:=by
          cases l2 with
          |nil=>exact⟨rfl,rfl⟩
          |cons c l3=>
            have:c ∉ cs "/":=λq=>d6 l3 (by rw[show c=47 from Fl.mp q]);exact⟨dh this,dm this⟩
        rw[y_.1,y_.2];refine⟨_,cT,?_⟩;rw[show mdel ([(p,MO.lst (lstD L))]++RdM a t (k+(rowsL L).length+0)) p=RdM a t (k+(rowsL L).length) from kG];exact done (.inr d6)
    . have c':L.length=8:=by
        have:¬ ((L.length:Int)<8):=λz=>c (decide_eq_true z);lia
      refine⟨_,cT,?_⟩;rw[kG];exact done (.inl c')
abbrev pi(V:Bx):Prop:=V.MM 4 "number_from" mJ BO
def D9(T:V.T "number_from" mI mJ)(uD:V.m "int")(uI:dv V)(uC:cJ V):pi V:=by
  refine Tx.okM T sc_number_from (λds M R RX h=>?_) (λf cdv A outer s H E J hr hx=>⟨_,((aB (cn (gW (bb (CalMth.one uI) hx hr (ao (aa 0)) (aD (ac ay ae))) (ao ay)) (aE (aQ (ao ad))) cf)
      (aB (bj 1 sc_number_from.nd (gT (bb (CalMth.one uI) hx hr (ao (aa 0)) (aD (ac ay ae))) (bb (CalMth.one uC) hx hr (ao (aa 0)) (aD (ac ay ae)))))
      (aB (sI (cm (cv (zx (aa 1) (ac ay ae)))) (aE (bj 1 sc_number_from.nd (gT (ao (aa 1)) (bb (CalMth.one uI) hx hr (ao (aa 0)) (aD (ac ay ae)))))) cf)
      (aE (aQ (ao (gL uD (ac (aa 1) ae))))))))),λds M R RX b7 h=>?_⟩)
  . obtain⟨_,_,_,_,rfl,_⟩:=h;rfl
  . obtain⟨a,t,k,l,rfl,rfl,d8,hR,hX⟩:=h;refine⟨_,Fl.mpr rfl,_,aR,cS,a,t,k,l,"0",rfl,rfl,d8,?_⟩;by_cases z0:∃ l',l=48::l'
    . obtain⟨l',rfl⟩:=z0;have e0:(48:Nat)∈cs "0":=by decide
      rw[dN e0,dO e0];refine hR 0 l' (by unfold B12;lia) ?_ λe r=>?_
      . rw[show numL 0=[48] by decide+kernel];rfl
      . rw[show numL 0=[48] by decide+kernel,aH (st':= .sign e::r) (by simp[step,aJ,aM])];rfl
    have n0:mayS "0" l=""/\mayN "0" l=0:=by
      cases l with
      |nil=>exact⟨rfl,rfl⟩
      |cons c l=>
        have:c ∉ cs "0":=λq=>z0 ⟨l,by rw[show c=48 from Fl.mp q]⟩;exact⟨dh this,dm this⟩
    rw[n0.1,n0.2];obtain⟨pre,l1,hp,rfl,hS,hN,h0⟩:∃ pre l1,(pre=[]\/pre=[45])/\l=pre++l1/\mayS "-" l=⟨pre.toArray⟩/\mayN "-" l=pre.length/\(pre=[]->∀ c l',l1=c::l'->c≠48/\c≠45):=by
      by_cases z1:∃ l',l=45::l'
      . obtain⟨l',rfl⟩:=z1;exact⟨[45],l',.inr rfl,rfl,rfl,rfl,λq=>nomatch q⟩
      . refine⟨[],l,.inl rfl,rfl,?_⟩;cases l with
        |nil=>exact⟨rfl,rfl,λ_ c l' q=>nomatch q⟩
        |cons c l=>
          have:c ∉ cs "-":=λq=>z1 ⟨l,by rw[show c=45 from Fl.mp q]⟩;refine⟨dh this,dm this,λ_ c' l' q=>?_⟩;cases q;exact⟨λe=>z0 ⟨l,by rw[e]⟩,λe=>z1 ⟨l,by rw[e]⟩⟩
    have d5:=d8.app;refine⟨λd M'=>∃ c l2,l1=c::l2/\(49<=c/\c<=57)/\d= .str ⟨(pre++[c]).toArray⟩/\M'=RdM a t (k+pre.length+1),?_,?_⟩
    . refine⟨_,Fl.mpr rfl,_,aR,cS,a,t,k,_,"-",rfl,rfl,d8,?_⟩;rw[hS,hN];refine⟨_,Fl.mpr rfl,_,aR,cj,a,t,k+pre.length,l1,"123456789",rfl,rfl,d5,λc l2 e hc=>?_,λd6 M'=>?_⟩
      . refine⟨?_,c,l2,e,digits19.mp hc,?_,rfl⟩
        . rcases hp with rfl|rfl<;>simp[Str.length]
        . rw[show(⟨#[c]⟩:D')=⟨[c].toArray⟩ from rfl,fo]
      . rw[b7];exact hX _ (BM hp rfl (λc l' q=>λz=>d6 c l' q (digits19.mpr z)) h0 k) M'
    . rintro _ _ ⟨c,l2,rfl,hc,rfl,rfl⟩;k_places;have m8:=d5.next;refine⟨λz M'=>∃ x l3,((c=49/\∃ d,(48<=d/\d<=50)/\x=[d])\/(x=[]/\(c=49->∀ d l',l3=d::l'->¬ (48<=d/\d<=50))))/\l2=x++l3/\z=[be (.ptr a),be (.str ⟨(pre++c::x).toArray⟩)]/\M'=RdM a t (k+pre.length+1+x.length),?_,?_⟩
      . show if Txt.endswith ⟨(pre++[c]).toArray⟩ "1"=true then _ else _
        rw[BN];refine ite2 (λe=>?_) (λe=>?_)
        . have e':=of_decide_eq_true e;by_cases z2:∃ d l3,l2=d::l3/\(48<=d/\d<=50)
          . obtain⟨d,l3,rfl,hd⟩:=z2;refine⟨λv M'=>v= .str ⟨(pre++[c,d]).toArray⟩/\M'=RdM a t (k+pre.length+1+1),⟨_,Fl.mpr rfl,_,aR,cS,a,t,_,_,"012",rfl,rfl,m8,?_⟩,?_⟩
            . rw[dN (digits02.mpr hd),dO (digits02.mpr hd)];refine⟨?_,?_,rfl⟩
              . rcases hp with rfl|rfl<;>simp[Str.length]
              . rw[show(⟨#[d]⟩:D')=⟨[d].toArray⟩ from rfl,fo];simp
            . rintro _ _ ⟨rfl,rfl⟩;k_places;exact⟨[d],l3,.inl ⟨e',d,hd,rfl⟩,rfl,rfl,rfl⟩
          . have d6:∀ d l',l2=d::l'->¬ (48<=d/\d<=50):=λd l' q z=>z2 ⟨d,l',q,z⟩;have hm:mayS "012" l2=""/\mayN "012" l2=0:=by
              cases l2 with
              |nil=>exact⟨rfl,rfl⟩
              |cons d l2=>exact⟨dh (λq=>d6 d l2 rfl (digits02.mp q)),dm (λq=>d6 d l2 rfl (digits02.mp q))⟩
            refine⟨λv M'=>v= .str ⟨(pre++[c]).toArray⟩/\M'=RdM a t (k+pre.length+1),⟨_,Fl.mpr rfl,_,aR,cS,a,t,_,_,"012",rfl,rfl,m8,?_⟩,?_⟩
            . rw[hm.1,hm.2];refine⟨?_,?_,rfl⟩
              . rcases hp with rfl|rfl<;>simp[Str.length,show(Str.ofString "").cps.size=0 from rfl]
              . rw[show("":D')=⟨([]:List Nat).toArray⟩ from rfl,fo];simp
            . rintro _ _ ⟨rfl,rfl⟩;k_places;exact⟨[],l2,.inr ⟨rfl,λ_=>d6⟩,rfl,rfl,rfl⟩
        . have e':¬ c=49:=λz=>e (decide_eq_true z);exact⟨[],l2,.inr ⟨rfl,λz=>absurd z e'⟩,rfl,rfl,rfl⟩
      . rintro _ _ ⟨x,l3,hx,rfl,rfl,rfl⟩;k_places;have hn:isNumL (pre++c::x):=by
          rcases hx with⟨rfl,d,hd,rfl⟩|⟨rfl,_⟩
          . rcases hp with rfl|rfl
            . exact .inr (.inl ⟨d,hd,rfl⟩)
            . exact .inr (.inr (.inr ⟨d,hd,rfl⟩))
          . rcases hp with rfl|rfl
            . exact .inl ⟨c,by lia,rfl⟩
            . exact .inr (.inr (.inl ⟨c,hc,rfl⟩))
        obtain⟨v,hv,ev⟩:=BD hn;refine⟨v,⟨?_,?_⟩,?_⟩
        . rw[<- ev];exact kF hv
        . rw[<- ev];have:=bw hv;rw[<- bp] at this ⊢;show(numL v).length<=640;exact FA this (by decide)
        . have:=hR v l3 hv (by rw[ev];simp) λe r=>by rw[ev];exact BL hp hc hx k e r rfl
          rw[ev] at this;have e2:k+(pre++c::x).length=k+pre.length+1+x.length:=by simp;lia
          rw[e2] at this;exact this
abbrev gj(V:Bx):Prop:=V.MM 5 "shift_from" mL BP
def Ea(T:V.T "shift_from" mK mL)(L4:pi V)(uC:cJ V):gj V:=by
 refine Tx.okM T sc_shift_from (λds M R RX h=>?_) (λf cdv A outer s H E J hr hx=>⟨_,((aB (bj 1 sc_shift_from.nd (bg L4 hx hr (aD (ac (aa 0) ae))))
   (aB (cx (bb (CalMth.one uC) hx hr (ao (aa 0)) (aD (ac ay ae))))
   (aE (aQ (zG (aW (ao (aa 1)) (aW (bg L4 hx hr (aD (ac (aa 0) ae))) bt)))))))),λds M R RX b7 h=>?_⟩)
 .obtain⟨_,_,_,_,rfl,_⟩:=h;rfl
 .obtain⟨a,t,k,l,rfl,rfl,d8,hR,hX⟩:=h;refine⟨λd M'=>∃ x l1,B12 x/\l=numL x++l1/\(∀ e r,walk (.num:: .sign e::r) l k=walk (.sign e::r) l1 (k+(numL x).length))/\d= .int x/\M'=RdM a t (k+(numL x).length),⟨a,t,k,l,rfl,rfl,d8,λx l' hx e hw=>⟨x,l',hx,e,hw,rfl,rfl⟩,λj hj M'=>?_⟩,?_⟩
  .rw[b7];exact hX j (λr=>hj _) M'
  rintro _ _ ⟨x,l1,gV,rfl,p7,rfl,rfl⟩;k_places;have d5:=d8.app;refine⟨_,Fl.mpr rfl,_,aR,cj,a,t,_,l1,",",rfl,rfl,d5,λc l2 e hc=>?_,λd6 M'=>?_⟩
  .have ec:c=44:=Fl.mp hc;subst ec;subst e;refine⟨a,t,_,l2,rfl,rfl,d5.next,λy l' hy e hw=>?_,λj hj M'=>?_⟩
   .subst e;refine⟨by simp,hR x y l' gV hy rfl λe r=>?_⟩;rw[p7 44 _,dQ,hw e r]
   .rw[b7];refine hX j (λr=>?_) M';rw[p7 44 _,dQ,hj]
  .rw[b7];refine hX _ (λr=>?_) M';rw[p7 44 _,dP λl' q=>d6 44 l' q (by decide)]
abbrev je(V:Bx):Prop:=V.D 1 "levelled" mN AY
def Eb(T:V.T "levelled" mM mN):je V:=by
 refine Tx.okDW T sc_levelled (λds R h=>?_) (λf cdv A outer s H E J hr=>⟨_,((ah (dG PassesOwn.never (ce (af (aa 1) ad) ad) (ah (ai 2 sc_levelled.nd (xW (af (aa 0) ad) (af (aa 1) ad)))
    (ah (ai 3 sc_levelled.nd (av (ac (bq (af (aa 0) ad) (ax (aa 2) (af (aa 1) ad))) (ac (bq (af (aa 0) ad) (ax (aa 2) (af (aa 1) ad))) ae))))
    (ah (ai 0 sc_levelled.nd (aa 1))
    (aj (ai 1 sc_levelled.nd (aa 3)))))))
   (ah (cY (fH (af (aa 0) ad) ad) (aj (ai 0 sc_levelled.nd (av (ac (cb (af (aa 0) ad)) (ac (cb (af (aa 0) ad)) ae))))) aG)
   (aj (ar (av (ac (aa 0) (ac (aa 1) ae)))))))),λds R h=>?_⟩)
 .obtain⟨a,b,c,d,rfl,_⟩:=h;rfl
 .obtain⟨a,b,c,d,rfl,hb,hd,hR⟩:=h;refine⟨λm z=>∃ (f0 f1 s0 s1:Int) (t r:Option D),z=[be (.tup [.int f0,.int f1]),be (.tup [.int s0,.int s1]),t,r]/\Uni a b c d f0 f1 s0 s1/\f1.natAbs<4611686018427387904/\s1.natAbs<4611686018427387904/\m=s1.natAbs,⟨_,a,b,c,d,m9,m9,rfl,Uni.refl a b c d,hb,hd,rfl⟩,?_⟩;rintro m z ⟨f0,f1,s0,s1,t,r,rfl,hu,hf,hs,rfl⟩;k_places;refine⟨_,rfl,ite2 (λcc=>?_) (λcc=>?_)⟩
  .have c':¬ s1=0:=by simpa using cc
   obtain⟨g1,g2⟩:=fdm f1 s1 c';refine⟨λd=>d= .int (f1.fdiv s1),⟨_,rfl,_,rfl,⟨c',hs⟩,rfl⟩,?_⟩;rintro _ rfl;k_places;refine⟨λd=>d= .tup [.int (f0 - f1.fdiv s1*s0),.int (f1 - f1.fdiv s1*s1)],⟨_,rfl,_,rfl,.inl ⟨by lia,by lia⟩,_,rfl,_,rfl,.inl ⟨by lia,by lia⟩,by simp,rfl⟩,?_⟩;rintro _ rfl;k_places;refine⟨λd=>d= .tup [.int s0,.int s1],rfl,?_⟩;rintro _ rfl;k_places;refine⟨λd=>d= .tup [.int (f0 - f1.fdiv s1*s0),.int (f1 - f1.fdiv s1*s1)],rfl,?_⟩;rintro _ rfl;k_places;exact⟨_,g1,s0,s1,_,_,_,_,rfl,hu.step _,hs,by lia,rfl⟩
  .have c':s1=0:=by simpa using cc
   subst c';refine⟨λz=>∃ p0 p1:Int,z=[be (.tup [.int p0,.int p1]),be (.tup [.int s0,.int 0]),t,r]/\Lev a b c d p0 p1 s0,⟨_,rfl,ite2 (λe=>?_) (λe=>?_)⟩,?_⟩
   .have e':=of_decide_eq_true e;refine⟨λd=>d= .tup [.int (-f0),.int (-f1)],⟨_,rfl,_,rfl,by simp,rfl⟩,?_⟩;rintro _ rfl;k_places;exact⟨_,_,rfl,by lia,hu.neg⟩
   .have e':=of_decide_eq_false (FW.mpr e);exact⟨_,_,rfl,by lia,hu⟩
   .rintro _ ⟨p0,p1,rfl,hL⟩;k_places;exact⟨by simp,hR p0 p1 s0 hL⟩
abbrev jg(V:Bx):Prop:=V.D 2 "spread" mQ AZ
def Ec(T:V.T "spread" mO mQ)(uM:V.m "abs")(Kh:je V):jg V:=by
 refine Tx.okDW T sc_spread (λds R h=>?_) (λf cdv A outer s H E J hr=>⟨_,((ah (aP (aY (ax (af (aa 0) ad) (af (aa 1) ad)) (ax (af (aa 0) ad) (af (aa 1) ad))) (aj (ar bz)) aG)
   (ah (ai 2 sc_spread.nd (aq Kh hr (ac (aa 0) (ac (aa 1) ae))))
   (ah (ai 3 sc_spread.nd (eA uM (ac (af (af (aa 2) ad) ad) ae)))
   (aj (ar (av (ac (aa 3) (ac (af (af (aa 2) ad) ad) (ac (aw (af (af (aa 2) ad) ad) (aa 3)) ae)))))))))),λds R h=>?_⟩)
 .obtain⟨a,b,c,d,rfl,_⟩:=h;rfl
 .obtain⟨a,b,c,d,rfl,ha,hb,hc,hd,hN,hR⟩:=h;refine⟨_,rfl,_,rfl,.inl ⟨by lia,by lia⟩,_,rfl,_,rfl,.inl ⟨by lia,by lia⟩,ite2 (λe=>?_) (λe=>?_)⟩
  .exact hN (of_decide_eq_true e)
  .have e':=of_decide_eq_false (FW.mpr e);refine⟨λx=>∃ p0 p1 q0:Int,x= .tup [.tup [.int p0,.int p1],.tup [.int q0,.int 0]]/\Lev a b c d p0 p1 q0,⟨a,b,c,d,rfl,hb,hd,λp0 p1 q0 hL=>⟨p0,p1,q0,rfl,hL⟩⟩,?_⟩;rintro _ ⟨p0,p1,q0,rfl,hL⟩;k_places;have hF:=fQ e' hL;refine⟨λx=>x= .int (if q0<0 then -q0 else q0),⟨_,rfl,_,rfl,rfl⟩,?_⟩;rintro _ rfl;k_places;exact⟨_,rfl,_,rfl,_,rfl,_,rfl,hF.1,by simp,hR e' _ _ _ hF⟩
abbrev fB(V:Bx):Prop:=V.D 1 "home" mU AX
def Ed(T:V.T "home" mR mU):fB V:=by
 refine Tx.okDW T sc_home (λds R h=>?_) (λf cdv A outer s H E J hr=>⟨_,((ah (ai 3 sc_home.nd (af (aa 0) ad))
   (ah (ai 4 sc_home.nd (af (aa 0) ad))
   (ah (ai 5 sc_home.nd (af (aa 0) ad))
   (aj (ar (av (ac (aw (bq (aa 1) (ax (aN (aa 2) (aa 4)) (aa 5))) (aa 3)) (ac (aw (aa 2) (aa 4)) ae))))))))),λds R h=>?_⟩)
 .obtain⟨w,h,s,x,y,rfl,_⟩:=h;rfl
 .obtain⟨w,h,s,x,y,rfl,hw,hh,B_,hs,k9,hR⟩:=h;refine⟨λd=>d= .int w,⟨_,rfl,rfl⟩,?_⟩;rintro _ rfl;k_places;refine⟨λd=>d= .int h,⟨_,rfl,rfl⟩,?_⟩;rintro _ rfl;k_places;refine⟨λd=>d= .int s,⟨_,rfl,rfl⟩,?_⟩;rintro _ rfl;k_places;exact⟨⟨hh,B_⟩,.inr ⟨by lia,by lia⟩,hw,hh,by simp,hR⟩
abbrev pj(V:Bx):Prop:=V.MM 2 "hues_by_home" mW BY
def Ee(T:V.T "hues_by_home" mV mW)(JX:V.m "enumerate")(uT:fB V)(uW:V.gs "SIGNS" ".123456"):pj V:=by
 refine Tx.okM T sc_hues_by_home (λds M R RX h=>?_) (λf cdv A outer s H E J hr hx=>⟨_,((aB (bj 2 sc_hues_by_home.nd Av)
   (aB (Al PassesOwn.leaving rfl JX (ao (aa 0)) (dg_cons 3 sc_hues_by_home.nd (dg_cons 4 sc_hues_by_home.nd cL)) (aE (Am PassesOwn.leaving rfl JX (ao (aa 4)) (dg_cons 5 sc_hues_by_home.nd (dg_cons 6 sc_hues_by_home.nd cL)) (aE (sI (cm (ce (aa 6) ay)) (aE (cx (Ay (qO hr) (ao (aa 2)) (aD (ac (aq uT hr (ac (aa 1) (ac (aa 5) (ac (aa 3) ae)))) (ac (ss (gP uW) (ac (aa 6) ae)) ae)))))) cf)))))
   (sJ 2 (aE (aQ (ao (aa 2)))))))),λds M R RX b7 h=>?_⟩)
 .obtain⟨_,_,_,_,_,rfl,_⟩:=h;rfl
 .obtain⟨L,wd,w,h,s,rfl,hL,hw,hh,B_,hs,k9,hR⟩:=h;have QR:=hL.w8;refine⟨λd M'=>∃ p,p ∉ az M/\d= .ptr p/\M'=(p,.dti [])::M,λp hp=>⟨p,hp,rfl,rfl⟩,?_⟩;rintro _ _ ⟨p,hp,rfl,rfl⟩;k_places;refine⟨λj z M'=>∃ (kv:List ((Int × Int) × Int)) (x3 x4 x5 x6:Option D),hAll w h s j (L.drop j) kv=hAll w h s 0 L []/\kv.length<=8*j/\z=[be (.lst (lstD L)),be (.tup [.int w,.int h,.int s]),be (.ptr p),x3,x4,x5,x6]/\M'=(p,.dti kv)::M,⟨[],m9,m9,m9,m9,rfl,by simp,rfl,rfl⟩,?_,?_⟩
  .rintro j d z M' hd ⟨kv,x3,x4,x5,x6,e1,QW,rfl,rfl⟩;k_places;obtain⟨x,gV,rfl⟩:=BW hd;have hj:j<L.length:=(FG.mp gV).1;have RK:=hL.many;obtain⟨xl,xs⟩:=hL.each x (G1 gV);rw[ub gV] at e1;refine⟨BV xs,λi z M'=>∃ (IZ:List ((Int × Int) × Int)) (x5 x6:Option D),hRow w h s j i (x.drop i) IZ=hRow w h s j 0 x kv/\IZ.length<=8*j+i/\i<=x.length/\z=[be (.lst (lstD L)),be (.tup [.int w,.int h,.int s]),be (.ptr p),be (.int j),be (.str ⟨x.toArray⟩),x5,x6]/\M'=(p,.dti IZ)::M,⟨kv,x5,x6,rfl,by lia,FR _,rfl,rfl⟩,?_,?_⟩
   .rintro i d z M' p9 ⟨IZ,y5,y6,e2,NQ,hi,rfl,rfl⟩;k_places;obtain⟨c,hc,rfl⟩:=BX p9;have Jn:i<x.length:=(FG.mp hc).1;have sc:=xs c (G1 hc);rw[ub hc,hRow] at e2;refine⟨λz M'=>∃ Le:List ((Int × Int) × Int),hRow w h s j (i+1) (x.drop (i+1)) Le=hRow w h s j 0 x kv/\Le.length<=8*j+(i+1)/\z=[be (.lst (lstD L)),be (.tup [.int w,.int h,.int s]),be (.ptr p),be (.int j),be (.str ⟨x.toArray⟩),be (.int i),be (.str ⟨#[c]⟩)]/\M'=(p,.dti Le)::M,?_,?_⟩
    .show if(!decide ((⟨#[c]⟩:D')="."))=true then _ else _;by_cases v3:c=46
     .subst v3;rw[if_pos rfl] at e2;exact⟨IZ,e2,by lia,rfl,rfl⟩
     .rw[if_neg v3] at e2;refine ifT (by simp[one_sign,v3]) ?_;have c6:49<=c/\c<=54:=by unfold aF at sc;lia
      obtain⟨ix,rest,ho,KO⟩:=BU c6;refine⟨⟨_,cT⟩,w,h,s,i,j,rfl,hw,hh,B_,hs,k9,ix,rest,ho,_,cT,by have:=tZ IZ (hmX w h s i j) ((j:Int) % h) ((c:Int) - 48);lia,λv=>?_⟩;rw[tW,KO];exact⟨_,e2,by have:=tZ IZ (hmX w h s i j) ((j:Int) % h) ((c:Int) - 48);lia,rfl,rfl⟩
    .rintro z M' ⟨Le,e3,h3,rfl,rfl⟩;k_places;exact⟨Le,_,_,e3,h3,Jn,rfl,rfl⟩
   .rintro z M' hz;rw[sq,dR] at hz;obtain⟨IZ,y5,y6,e2,NQ,hi,rfl,rfl⟩:=hz;rw[IK] at e2;refine⟨IZ,_,_,_,_,?_,by lia,rfl,rfl⟩;rw[<- e1,hAll,<- e2];rfl
  .rintro z M' hz;rw[show(lstD L).length=L.length by simp[lstD]] at hz;obtain⟨kv,x3,x4,x5,x6,e1,QW,rfl,rfl⟩:=hz;rw[IK] at e1;refine⟨_,cT,?_⟩;rw[kG];have e2:kv=hAll w h s 0 L []:=e1;rw[<- e2] at hR;exact hR
abbrev pp(V:Bx):Prop:=V.M 3 "Motif" mZ BZ
def Ef(T:V.Ti "Motif" "Motif.__init__" mY mZ)(Ki:jg V)(NR:pj V)(Jp:V.a "Motif" "place")(uK:V.a "Motif" "shifts")(Jq:V.a "Motif" "hues"):pp V:=by
 refine Txi.okIM T CU (λds R h=>?_) (λf cdv A outer s H E J hr hx=>⟨_,((aB (gZ Jp (ao (aa 0)) (ao (aa 1)))
   (aB (gZ uK (ao (aa 0)) (ao (aq Ki hr (ac (aa 3) (ac (aa 4) ae)))))
   (aE (gZ Jq (ao (aa 0)) (fP (sC (aO uK (ao (aa 0))) (ao bz)) Au (bg NR hx hr (aW (ao (aa 2)) (aW (aO uK (ao (aa 0))) bt))))))))),λa ds R d6 h=>?_⟩)
 .obtain⟨_,_,_,_,_,_,_,rfl,_⟩:=h;rfl
 .obtain⟨k,L,wd,x,y,u,v,rfl,hL,gV,hy,hu,hv,h0,h1⟩:=h;unfold B12 at gV hy hu hv;refine⟨_,cH,by show(0:Nat)<1000;decide,?_⟩;rw[fk,B0];refine⟨x,y,u,v,rfl,by lia,by lia,by lia,by lia,λe=>?_,λe w h s F=>?_⟩
  .refine⟨_,cH,by show(1:Nat)<1000;decide,?_⟩;rw[fk,uc];refine⟨_,cH,_,kH,?_⟩;refine⟨_,cH,by show(2:Nat)<1000;decide,?_⟩;rw[fk,ud];exact⟨_,rfl,h0 e⟩
  .refine⟨_,cH,by show(1:Nat)<1000;decide,?_⟩;rw[fk,uc];refine⟨_,cH,_,kH,?_⟩;obtain⟨b1,b2,b3⟩:=F.bd (N:=288) (by
    have m1:=bA (a:=x) (d:=v) (A:=12) (B:=12) (by lia) (by lia);have m2:=bA (a:=y) (d:=u) (A:=12) (B:=12) (by lia) (by lia);lia)
   refine⟨_,cH,_,kH,L,wd,w,h,s,rfl,hL,F.1,F.2.1,by lia,F.2.2.1,by lia,?_⟩;refine⟨_,cH,by show(2:Nat)<1000;decide,?_⟩;rw[fk,ud];exact⟨_,rfl,h1 e w h s F⟩
abbrev jh(V:Bx):Prop:=V.MM 6 "motif_from" nh B7
def Eg(T:V.T "motif_from" ng nh)(NS:ph V)(uZ:gj V)(uG:V.a "Reading" "place")(NT:pp V)(uC:cJ V):jh V:=by
  refine Tx.okM T sc_motif_from (λds M R RX h=>?_) (λf cdv A outer s H E J hr hx=>⟨_,((aB (bj 1 sc_motif_from.nd (aO uG (ao (aa 0))))
      (aB (cx (bb (CalMth.one uC) hx hr (ao (aa 0)) (aD (ac ay ae))))
      (aB (bj 2 sc_motif_from.nd (bg NS hx hr (aD (ac (aa 0) ae))))
      (aB (cx (bb (CalMth.one uC) hx hr (ao (aa 0)) (aD (ac ay ae))))
      (aB (bj 3 sc_motif_from.nd (bg uZ hx hr (aD (ac (aa 0) ae))))
      (aB (cx (bb (CalMth.one uC) hx hr (ao (aa 0)) (aD (ac ay ae))))
      (aB (bj 4 sc_motif_from.nd (bg uZ hx hr (aD (ac (aa 0) ae))))
      (aB (cx (bb (CalMth.one uC) hx hr (ao (aa 0)) (aD (ac ay ae))))
      (aE (aQ (ao (jY NT hr (ac (aa 1) (ac (aa 2) (ac (aa 3) (ac (aa 4) ae))))))))))))))))),λds M R RX b7 h=>?_⟩)
  . obtain⟨_,_,_,_,rfl,_⟩:=h;rfl
  . obtain⟨a,t,k,l,rfl,rfl,d8,hR,hX⟩:=h;refine⟨λd M'=>d= .int k/\M'=RdM a t k,⟨_,aR,_,dg,rfl,rfl⟩,?_⟩;rintro _ _ ⟨rfl,rfl⟩;k_places;refine⟨_,Fl.mpr rfl,_,aR,cj,a,t,_,l,"[",rfl,rfl,d8,λc l1 e hc=>?_,λd6 M'=>?_⟩
    . have ec:c=91:=Fl.mp hc;subst ec;subst e;have hb:∀ r,walk (.pat 5::r) (91::l1) k=walk (motW r) l1 (k+1):=λr=>aH (by rw[bN];rfl);refine⟨λd M'=>∃ (L:List (List Nat)) (w:Nat) (l2:List Nat),RowsL L w/\l1=rowsL L++l2/\(∀ r,walk (.lin 0 0 0::r) l1 (k+1)=walk (.sign 59::r) l2 (k+1+(rowsL L).length))/\d= .lst (lstD L)/\M'=RdM a t (k+1+(rowsL L).length),⟨a,t,_,l1,rfl,rfl,d8.next,λL w l' h1 h2 h3=>⟨L,w,l',h1,h2,h3,rfl,rfl⟩,λj hj M'=>?_⟩,?_⟩
      . rw[b7];exact hX j (λr=>by rw[hb];exact hj _) M'
      rintro _ _ ⟨L,w,l2,hL,rfl,x9,rfl,rfl⟩;k_places;have m8:=d8.next.app;have K7:∀ r,walk (.pat 5::r) (91::(rowsL L++l2)) k=walk (.sign 59:: .num:: .sign 44:: .num:: .sign 59:: .num:: .sign 44:: .num:: .sign 93::r) l2 (k+1+(rowsL L).length):=λr=>by rw[hb];exact x9 _
      refine⟨_,Fl.mpr rfl,_,aR,cj,a,t,_,l2,";",rfl,rfl,m8,λc l3 e hc=>?_,λd6 M'=>?_⟩
      . have ec:c=59:=Fl.mp hc;subst ec;subst e;have I_:=m8.next;have NU:∀ r,walk (.pat 5::r) (91::(rowsL L++59::l3)) k=walk (.num:: .sign 44:: .num:: .sign 59:: .num:: .sign 44:: .num:: .sign 93::r) l3 (k+1+(rowsL L).length+1):=λr=>by rw[K7,dQ]
        refine⟨λd M'=>∃ x y l4,B12 x/\B12 y/\l3=numL x++44::(numL y++l4)/\(∀ e r,walk (.num:: .sign 44:: .num:: .sign e::r) l3 (k+1+(rowsL L).length+1)=walk (.sign e::r) l4 (k+1+(rowsL L).length+1+(numL x).length+1+(numL y).length))/\d= .tup [.int x,.int y]/\M'=RdM a t (k+1+(rowsL L).length+1+(numL x).length+1+(numL y).length),⟨a,t,_,l3,rfl,rfl,I_,λx y l' h1 h2 h3 h4=>⟨x,y,l',h1,h2,h3,h4,rfl,rfl⟩,λj hj M'=>?_⟩,?_⟩
        . rw[b7];exact hX j (λr=>by rw[NU];exact hj _) M'
        rintro _ _ ⟨x,y,l4,gV,hy,rfl,Pl,rfl,rfl⟩;k_places;have Lf:At t (k+1+(rowsL L).length+1+(numL x).length+1+(numL y).length) l4:=I_.app.next.app;refine⟨_,Fl.mpr rfl,_,aR,cj,a,t,_,l4,";",rfl,rfl,Lf,λc l5 e hc=>?_,λd6 M'=>?_⟩
        . have ec:c=59:=Fl.mp hc;subst ec;subst e;have Lg:=Lf.next;have Pm:∀ r,walk (.pat 5::r) (91::(rowsL L++59::(numL x++44::(numL y++59::l5)))) k=walk (.num:: .sign 44:: .num:: .sign 93::r) l5 (k+1+(rowsL L).length+1+(numL x).length+1+(numL y).length+1):=λr=>by rw[NU,Pl,dQ]
          refine⟨λd M'=>∃ u v l6,B12 u/\B12 v/\l5=numL u++44::(numL v++l6)/\(∀ e r,walk (.num:: .sign 44:: .num:: .sign e::r) l5 (k+1+(rowsL L).length+1+(numL x).length+1+(numL y).length+1)=walk (.sign e::r) l6 (k+1+(rowsL L).length+1+(numL x).length+1+(numL y).length+1+(numL u).length+1+(numL v).length))/\d= .tup [.int u,.int v]/\M'=RdM a t (k+1+(rowsL L).length+1+(numL x).length+1+(numL y).length+1+(numL u).length+1+(numL v).length),⟨a,t,_,l5,rfl,rfl,Lg,λx y l' h1 h2 h3 h4=>⟨x,y,l',h1,h2,h3,h4,rfl,rfl⟩,λj hj M'=>?_⟩,?_⟩
          . rw[b7];exact hX j (λr=>by rw[Pm];exact hj _) M'
          rintro _ _ ⟨u,v,l6,hu,hv,rfl,Pn,rfl,rfl⟩;k_places;have NV:At t (k+1+(rowsL L).length+1+(numL x).length+1+(numL y).length+1+(numL u).length+1+(numL v).length) l6:=Lg.app.next.app;refine⟨_,Fl.mpr rfl,_,aR,cj,a,t,_,l6,"]",rfl,rfl,NV,λc l7 e hc=>?_,λd6 M'=>?_⟩
          . have ec:c=93:=Fl.mp hc;subst ec;subst e;obtain⟨LW,LX⟩:=B6 hL;have Po:(Pat.mot (L.map λx=>(⟨x.toArray⟩:D')) x y u v).tl=motL L x y u v:=by rw[Pat.tl,LX]
            have Lh:∀ w,FormOf (Pat.mot (L.map λx=>(⟨x.toArray⟩:D')) x y u v) k w->R w (RdM a t (k+1+(rowsL L).length+1+(numL x).length+1+(numL y).length+1+(numL u).length+1+(numL v).length+1)):=λw hw=>by
              have:=hR (Pat.mot (L.map λx=>(⟨x.toArray⟩:D')) x y u v) l7 ⟨LW,gV,hy,hu,hv⟩ rfl (by rw[Po];simp[motL]) w hw;rw[Po] at this;have e:k+(motL L x y u v).length=k+1+(rowsL L).length+1+(numL x).length+1+(numL y).length+1+(numL u).length+1+(numL v).length+1:=by
                simp[motL];lia
              rw[e] at this;exact this
            refine⟨k,L,w,x,y,u,v,rfl,hL,gV,hy,hu,hv,λe=>?_,λe w h s F=>?_⟩
            . exact Lh _ ⟨.non,[],rfl,λ_=>rfl,λz=>absurd e z⟩
            . exact Lh _ ⟨_,_,rfl,λz=>absurd z e,λ_=>⟨w,h,s,F,rfl,by rw[LX]⟩⟩
          . rw[b7];refine hX _ (λr=>?_) M';rw[Pm,Pn,dP λl' q=>d6 93 l' q (by decide)]
        . rw[b7];refine hX _ (λr=>?_) M';rw[NU,Pl,dP λl' q=>d6 59 l' q (by decide)]
      . rw[b7];refine hX _ (λr=>?_) M';rw[K7,dP λl' q=>d6 59 l' q (by decide)]
    . rw[b7];refine hX _ (λr=>?_) M';refine walk_bad (λz=>nomatch z) λc l' q=>?_;rw[bN];unfold bM;have:¬ c=91:=λz=>d6 c l' q (by rw[z];decide);rw[if_neg this,if_pos rfl]
abbrev ji(V:Bx):Prop:=V.M 1 "Mirror" nq B3
def Eh(T:V.Ti "Mirror" "Mirror.__init__" nj nq)(uQ:V.a "Mirror" "form"):ji V:=by
 refine Txi.okI T CV (λds R h=>?_) (λf cdv A outer s H E J hr=>⟨_,((bH uQ (aa 1) dH)),λds R h=>?_⟩)
 .obtain⟨_,_,rfl,_⟩:=h;rfl
 .obtain⟨x,fs,rfl,hR⟩:=h;exact⟨by decide,hR⟩
abbrev jj(V:Bx):Prop:=V.M 1 "Turn" nu B4
def Ei(T:V.Ti "Turn" "Turn.__init__" nt nu)(uR:V.a "Turn" "form"):jj V:=by
 refine Txi.okI T CW (λds R h=>?_) (λf cdv A outer s H E J hr=>⟨_,((bH uR (aa 1) dH)),λds R h=>?_⟩)
 .obtain⟨_,_,rfl,_⟩:=h;rfl
 .obtain⟨x,fs,rfl,hR⟩:=h;exact⟨by decide,hR⟩
abbrev jk(V:Bx):Prop:=V.M 1 "Over" nw B1
def Ej(T:V.Ti "Over" "Over.__init__" nv nw)(uS:V.a "Over" "above")(uN:V.a "Over" "below"):jk V:=by
 refine Txi.okI T CY (λds R h=>?_) (λf cdv A outer s H E J hr=>⟨_,((bH uS (aa 1) (bH uN (aa 2) dH))),λds R h=>?_⟩)
 .obtain⟨_,_,_,_,rfl,_⟩:=h;rfl
 .obtain⟨x,y,fs,gs,rfl,hR⟩:=h;refine⟨by decide,by show(1:Nat)<1000;decide,?_⟩;show R (putD _ _ (putD _ _ []));rw[putD,putD,if_neg (by decide+kernel)];exact hR
abbrev jl(V:Bx):Prop:=V.M 1 "Shifted" nz B2
def El(T:V.Ti "Shifted" "Shifted.__init__" ny nz)(uP:V.a "Shifted" "form")(Jr:V.a "Shifted" "x")(Js:V.a "Shifted" "y"):jl V:=by
 refine Txi.okI T CZ (λds R h=>?_) (λf cdv A outer s H E J hr=>⟨_,((bH uP (aa 1) (bH Jr (aa 2) (bH Js (aa 3) dH)))),λds R h=>?_⟩)
 .obtain⟨_,_,_,_,rfl,_⟩:=h;rfl
 .obtain⟨x,fs,a,b,rfl,hR⟩:=h;refine⟨by decide,by show(1:Nat)<1000;decide,by show(2:Nat)<1000;decide,?_⟩;show R (putD _ _ (putD _ _ (putD _ _ [])));rw[show putD ("x":D') (.int a) (putD ("form":D') (.obj x fs) [])=([("form",.obj x fs),("x",.int a)]:List (D' × D)) by rw[putD,putD,if_neg (by decide+kernel)];rfl,putD,if_neg (by decide+kernel),putD,if_neg (by decide+kernel)];exact hR
abbrev jn(V:Bx):Prop:=V.M 1 "Rehue" nB B5
def Em(T:V.Ti "Rehue" "Rehue.__init__" nA nB)(uO:V.a "Rehue" "form")(Jt:V.a "Rehue" "old")(Ju:V.a "Rehue" "new"):jn V:=by
 refine Txi.okI T C0 (λds R h=>?_) (λf cdv A outer s H E J hr=>⟨_,((bH uO (aa 1) (bH Jt (aa 2) (bH Ju (aa 3) dH)))),λds R h=>?_⟩)
 .obtain⟨_,_,_,_,rfl,_⟩:=h;rfl
 .obtain⟨x,fs,a,b,rfl,hR⟩:=h;refine⟨by decide,by show(1:Nat)<1000;decide,by show(2:Nat)<1000;decide,?_⟩;show R (putD _ _ (putD _ _ (putD _ _ [])));rw[show putD ("old":D') (.int a) (putD ("form":D') (.obj x fs) [])=([("form",.obj x fs),("old",.int a)]:List (D' × D)) by rw[putD,putD,if_neg (by decide+kernel)];rfl,putD,if_neg (by decide+kernel),putD,if_neg (by decide+kernel)];exact hR
variable{n j:Nat}
def En(hL:6<=n)(T:V.T "over_from" ii fV)(uH:V.MM n "form_from" cI (du j))(Li:jk V)(uC:cJ V):V.MM (n+1) "over_from" fV (uf j):=by
 refine Tx.okM T sc_over_from (λds M R RX h=>?_) (λf cdv A outer s H E J hr hx=>⟨_,((aB (bj 2 sc_over_from.nd (bg (hn:=by omega) uH hx hr (aD (ac (aa 0) (ac (aa 1) ae)))))
   (aB (cx (bb (hn:=by omega) (CalMth.one uC) hx hr (ao (aa 0)) (aD (ac ay ae))))
   (aB (bj 3 sc_over_from.nd (bg (hn:=by omega) uH hx hr (aD (ac (aa 0) (ac (aa 1) ae)))))
   (aB (cx (bb (hn:=by omega) (CalMth.one uC) hx hr (ao (aa 0)) (aD (ac ay ae))))
   (aE (aQ (ao (jY (hn:=by omega) Li hr (ac (aa 2) (ac (aa 3) ae))))))))))),λds M R RX b7 h=>?_⟩)
 .obtain⟨_,_,_,_,_,rfl,_⟩:=h;rfl
 .obtain⟨a,t,k,l,d,rfl,rfl,d8,JY,IU,hR,hX⟩:=h;refine⟨λv M'=>∃ p l1,p.Syn/\p.depth+d<=5/\l=p.tl++l1/\FormOf p k v/\M'=RdM a t (k+p.tl.length),⟨a,t,k,l,d,rfl,rfl,d8,JY,IU,λp l' h1 h2 h3 v h4=>⟨p,l',h1,h2,h3,h4,rfl⟩,λi hi M'=>?_⟩,?_⟩
  .rw[b7];exact hX i (λr=>hi _) M'
  rintro v _ ⟨p,l1,hp,NW,rfl,hv,rfl⟩;k_places;obtain⟨fs,rfl⟩:=hv.obj;have d5:=d8.app;have p7:∀ r,walk (.pat d:: .sign 124:: .pat d:: .sign 41::r) (p.tl++l1) k=walk (.sign 124:: .pat d:: .sign 41::r) l1 (k+p.tl.length):=λr=>cG hp d _ l1 k NW;refine⟨_,Fl.mpr rfl,_,aR,cj,a,t,_,l1,"|",rfl,rfl,d5,λc l2 e hc=>?_,λd6 M'=>?_⟩
  .have ec:c=124:=Fl.mp hc;subst ec;subst e;refine⟨λv M'=>∃ q l3,q.Syn/\q.depth+d<=5/\l2=q.tl++l3/\FormOf q (k+p.tl.length+1) v/\M'=RdM a t (k+p.tl.length+1+q.tl.length),⟨a,t,_,l2,d,rfl,rfl,d5.next,JY,IU,λp l' h1 h2 h3 v h4=>⟨p,l',h1,h2,h3,h4,rfl⟩,λi hi M'=>?_⟩,?_⟩
   .rw[b7];exact hX i (λr=>by rw[p7,dQ];exact hi _) M'
   rintro v _ ⟨q,l3,hq,Pp,rfl,Pq,rfl⟩;k_places;obtain⟨gs,rfl⟩:=Pq.obj;have I_:=d5.next.app;have QX:∀ r,walk (.pat d:: .sign 124:: .pat d:: .sign 41::r) (p.tl++124::(q.tl++l3)) k=walk (.sign 41::r) l3 (k+p.tl.length+1+q.tl.length):=λr=>by rw[p7,dQ,cG hq d _ l3 _ Pp]
   refine⟨_,Fl.mpr rfl,_,aR,cj,a,t,_,l3,")",rfl,rfl,I_,λc l4 e hc=>?_,λd6 M'=>?_⟩
   .have ec:c=41:=Fl.mp hc;subst ec;subst e;exact⟨_,_,_,_,rfl,hR p q l4 hp hq NW Pp rfl _ _ hv Pq⟩
   .rw[b7];refine hX _ (λr=>?_) M';rw[QX,dP λl' q=>d6 41 l' q (by decide)]
  .rw[b7];refine hX _ (λr=>?_) M';rw[p7,dP λl' q=>d6 124 l' q (by decide)]
def Eo(hL:6<=n)(T:V.T "shifted_from" ij fW)(uZ:gj V)(uH:V.MM n "form_from" cI (du j))(Lj:jl V)(uC:cJ V):V.MM (n+1) "shifted_from" fW (uh j):=by
 refine Tx.okM T sc_shifted_from (λds M R RX h=>?_) (λf cdv A outer s H E J hr hx=>⟨_,((aB (bj 2 sc_shifted_from.nd (bg (hn:=by omega) uZ hx hr (aD (ac (aa 0) ae))))
   (aB (cx (bb (hn:=by omega) (CalMth.one uC) hx hr (ao (aa 0)) (aD (ac ay ae))))
   (aE (aQ (gX (hn:=by omega) Lj hr (aW (bg (hn:=by omega) uH hx hr (aD (ac (aa 0) (ac (aa 1) ae)))) (aW (ao (af (aa 2) ad)) (aW (ao (af (aa 2) ad)) bt))))))))),λds M R RX b7 h=>?_⟩)
 .obtain⟨_,_,_,_,_,rfl,_⟩:=h;rfl
 .obtain⟨a,t,k,l,d,rfl,rfl,d8,JY,IU,hR,hX⟩:=h;refine⟨λv M'=>∃ x y l1,B12 x/\B12 y/\l=numL x++44::(numL y++l1)/\(∀ e r,walk (.num:: .sign 44:: .num:: .sign e::r) l k=walk (.sign e::r) l1 (k+(numL x).length+1+(numL y).length))/\v= .tup [.int x,.int y]/\M'=RdM a t (k+(numL x).length+1+(numL y).length),⟨a,t,_,l,rfl,rfl,d8,λx y l' h1 h2 h3 h4=>⟨x,y,l',h1,h2,h3,h4,rfl,rfl⟩,λi hi M'=>?_⟩,?_⟩
  .rw[b7];exact hX i (λr=>hi _) M'
  rintro _ _ ⟨x,y,l1,gV,hy,rfl,p7,rfl,rfl⟩;k_places;have d5:At t (k+(numL x).length+1+(numL y).length) l1:=d8.app.next.app;refine⟨_,Fl.mpr rfl,_,aR,cj,a,t,_,l1,":",rfl,rfl,d5,λc l2 e hc=>?_,λd6 M'=>?_⟩
  .have ec:c=58:=Fl.mp hc;subst ec;subst e;refine⟨a,t,_,l2,d,rfl,rfl,d5.next,JY,IU,λp l' h1 h2 h3 v h4=>?_,λi hi M'=>?_⟩
   .obtain⟨fs,rfl⟩:=h4.obj;subst h3;exact⟨_,rfl,_,rfl,_,_,_,_,rfl,hR x y p l' gV hy h1 h2 rfl _ h4⟩
   .rw[b7];refine hX i (λr=>?_) M';rw[p7,dQ];exact hi _
  .rw[b7];refine hX _ (λr=>?_) M';rw[p7,dP λl' q=>d6 58 l' q (by decide)]
def Ep(hL:6<=n)(T:V.T "rehue_from" ik fX)(uD:V.m "int")(uH:V.MM n "form_from" cI (du j))(Lk:jn V)(uC:cJ V):V.MM (n+1) "rehue_from" fX (ui j):=by
 refine Tx.okM T sc_rehue_from (λds M R RX h=>?_) (λf cdv A outer s H E J hr hx=>⟨_,((aB (bj 2 sc_rehue_from.nd (sF uD (aW (bb (hn:=by omega) (CalMth.one uC) hx hr (ao (aa 0)) (aD (ac ay ae))) bt)))
   (aB (bj 3 sc_rehue_from.nd (sF uD (aW (bb (hn:=by omega) (CalMth.one uC) hx hr (ao (aa 0)) (aD (ac ay ae))) bt)))
   (aE (aQ (gX (hn:=by omega) Lk hr (aW (bg (hn:=by omega) uH hx hr (aD (ac (aa 0) (ac (aa 1) ae)))) (aW (ao (aa 2)) (aW (ao (aa 3)) bt))))))))),λds M R RX b7 h=>?_⟩)
 .obtain⟨_,_,_,_,_,rfl,_⟩:=h;rfl
 .obtain⟨a,t,k,l,d,rfl,rfl,d8,JY,IU,hR,hX⟩:=h;refine⟨λv M'=>∃ c l1,(49<=c/\c<=54)/\l=c::l1/\v= .int ((c:Int) - 48)/\M'=RdM a t (k+1),⟨_,Fl.mpr rfl,_,aR,cj,a,t,_,l,"123456",rfl,rfl,d8,λc l1 e hc=>?_,λd6 M'=>?_⟩,?_⟩
  .exact⟨_,⟨digit_of (hue_dig.mp hc),by show(1:Nat)<=640;decide⟩,c,l1,hue_dig.mp hc,e,rfl,rfl⟩
  .rw[b7];exact hX _ (λr=>ue d6) M'
  rintro _ _ ⟨c,l1,hc,rfl,rfl,rfl⟩;k_places;refine⟨λv M'=>∃ e l2,(49<=e/\e<=54)/\l1=e::l2/\v= .int ((e:Int) - 48)/\M'=RdM a t (k+2),⟨_,Fl.mpr rfl,_,aR,cj,a,t,_,l1,"123456",rfl,rfl,d8.next,λc l1 e hc=>?_,λd6 M'=>?_⟩,?_⟩
  .exact⟨_,⟨digit_of (hue_dig.mp hc),by show(1:Nat)<=640;decide⟩,c,l1,hue_dig.mp hc,e,rfl,rfl⟩
  .rw[b7];exact hX _ (λr=>by rw[kI hc,ue d6]) M'
  rintro _ _ ⟨e,l2,he,rfl,rfl,rfl⟩;k_places;refine⟨a,t,_,l2,d,rfl,rfl,d8.next.next,JY,IU,λp l' h1 h2 h3 v h4=>?_,λi hi M'=>?_⟩
  .obtain⟨fs,rfl⟩:=h4.obj;subst h3;exact⟨_,_,_,_,rfl,hR c e p l' hc he h1 h2 rfl _ h4⟩
  .rw[b7];refine hX i (λr=>?_) M';rw[kI hc,kI he];exact hi _
def Er(hL:6<=n)(T:V.T "form_from" il cI)(QY:V.MM n "over_from" fV (uf j))(QZ:V.MM n "shifted_from" fW (uh j))(uH:V.MM n "form_from" cI (du j))(Q0:V.MM n "rehue_from" fX (ui j))(Ll:jh V)(Lm:V.gi "DEEP" 5)(Ln:ji V)(Lo:jj V)(uI:dv V):V.MM (n+1) "form_from" cI (du (j+1)):=by
 refine Tx.okM T sc_form_from (λds M R RX h=>?_) (λf cdv A outer s H E J hr hx=>⟨_,((aB (bj 2 sc_form_from.nd (fP (cm (fH (aa 1) (eQ Lm))) (bb (hn:=by omega) (CalMth.one uI) hx hr (ao (aa 0)) (aD (ac ay ae))) (ao ay)))
   (aB (cn (cm (aY (aa 2) ay)) (aE (aQ (bg (hn:=by omega) QY hx hr (aD (ac (aa 0) (ac (am (aa 1) ad) ae)))))) cf)
   (aB (cn (cm (aY (aa 2) ay)) (aE (aQ (bg (hn:=by omega) QZ hx hr (aD (ac (aa 0) (ac (am (aa 1) ad) ae)))))) cf)
   (aB (cn (cm (aY (aa 2) ay)) (aE (aQ (gX (hn:=by omega) Ln hr (aW (bg (hn:=by omega) uH hx hr (aD (ac (aa 0) (ac (am (aa 1) ad) ae)))) bt)))) cf)
   (aB (cn (cm (aY (aa 2) ay)) (aE (aQ (gX (hn:=by omega) Lo hr (aW (bg (hn:=by omega) uH hx hr (aD (ac (aa 0) (ac (am (aa 1) ad) ae)))) bt)))) cf)
   (aB (cn (cm (aY (aa 2) ay)) (aE (aQ (bg (hn:=by omega) Q0 hx hr (aD (ac (aa 0) (ac (am (aa 1) ad) ae)))))) cf)
   (aE (aQ (bg (hn:=by omega) Ll hx hr (aD (ac (aa 0) ae)))))))))))),λds M R RX b7 h=>?_⟩)
 .obtain⟨_,_,_,_,_,rfl,_⟩:=h;rfl
 .obtain⟨a,t,k,l,d,rfl,rfl,d8,JY,IU,hR,hX⟩:=h;have RL:d<=5:=by lia
  refine⟨λv M'=>(v= .str ""/\M'=RdM a t k/\(d=5\/∀ c l',l=c::l'->c ∉ cs "(smth"))\/(∃ c l',l=c::l'/\c∈cs "(smth"/\d<5/\v= .str ⟨#[c]⟩/\M'=RdM a t (k+1)),?_,?_⟩
  .show if decide ((d:Int)<5)=true then _ else _
   refine ite2 (λc=>?_) (λc=>?_)
   .have c':d<5:=by have:=of_decide_eq_true c;lia
    refine⟨_,Fl.mpr rfl,_,aR,cS,a,t,_,l,"(smth",rfl,rfl,d8,?_⟩;by_cases h:∃ c l',l=c::l'/\c∈cs "(smth"
    .obtain⟨c,l',rfl,hc⟩:=h;rw[dN hc,dO hc];exact .inr ⟨c,l',rfl,hc,c',rfl,rfl⟩
    .have d6:∀ c l',l=c::l'->c ∉ cs "(smth":=λc l' e hc=>h ⟨c,l',e,hc⟩;have hm:mayS "(smth" l=""/\mayN "(smth" l=0:=by
      cases l with
      |nil=>exact⟨rfl,rfl⟩
      |cons c l=>exact⟨dh (d6 c l rfl),dm (d6 c l rfl)⟩
     rw[hm.1,hm.2];exact .inl ⟨rfl,rfl,.inr d6⟩
   .have c':d=5:=by
     have:¬ ((d:Int)<5):=λz=>c (decide_eq_true z);lia
    exact .inl ⟨rfl,rfl,.inl c'⟩
  rintro _ _ (⟨rfl,rfl,d6⟩|⟨c,l1,rfl,hc,g5,rfl,rfl⟩);k_places
  .refine⟨a,t,k,l,rfl,rfl,d8,λp l' h1 h2 h3 v h4=>hR p l' h1 (by lia) h3 v h4,λi hi M'=>?_⟩;rw[b7];exact hX i (λr=>by rw[B8 d6];exact hi r) M'
  have d5:=d8.next;have hj:1<=j:=by lia
  have Q1:cs "(smth"=[40,115,109,116,104]:=rfl;rw[Q1] at hc;simp only[Fp,Gd,or_false] at hc;have nd:¬ d=5:=by lia
  rcases hc with rfl|rfl|rfl|rfl|rfl
  .have hw:∀ r,walk (.pat d::r) (40::l1) k=walk (.pat (d+1):: .sign 124:: .pat (d+1):: .sign 41::r) l1 (k+1):=λr=>aH (by rw[bN];unfold bM;rw[if_neg (by decide),if_neg nd,if_pos rfl]);refine⟨a,t,k+1,l1,d+1,rfl,rfl,d5,by lia,hj,λp q l' h1 h2 h3 h4 h5 u u' h6 h7=>?_,λi hi M'=>?_⟩
   .have:=hR (.over p q) l' ⟨h1,h2⟩ (by rw[Pat.depth];lia) (by rw[h5,Pat.tl];simp) _ ⟨u,u',rfl,h6,h7⟩;have e:k+(Pat.over p q).tl.length=k+1+p.tl.length+1+q.tl.length+1:=by rw[Pat.tl];simp;lia
    rw[e] at this;exact this
   .rw[b7];exact hX i (λr=>by rw[hw];exact hi r) M'
  .have hw:∀ r,walk (.pat d::r) (115::l1) k=walk (.num:: .sign 44:: .num:: .sign 58:: .pat (d+1)::r) l1 (k+1):=λr=>aH (by rw[bN];unfold bM;rw[if_neg (by decide),if_neg nd,if_neg (by decide),if_pos rfl]);refine⟨a,t,k+1,l1,d+1,rfl,rfl,d5,by lia,hj,λx y p l' h1 h2 h3 h4 h5 u h6=>?_,λi hi M'=>?_⟩
   .have:=hR (.sh x y p) l' ⟨h1,h2,h3⟩ (by rw[Pat.depth];lia) (by rw[h5,Pat.tl];simp) _ ⟨u,rfl,h6⟩;have e:k+(Pat.sh x y p).tl.length=k+1+(numL x).length+1+(numL y).length+1+p.tl.length:=by rw[Pat.tl];simp;lia
    rw[e] at this;exact this
   .rw[b7];exact hX i (λr=>by rw[hw];exact hi r) M'
  .have hw:∀ r,walk (.pat d::r) (109::l1) k=walk (.pat (d+1)::r) l1 (k+1):=λr=>aH (by rw[bN];unfold bM;rw[if_neg (by decide),if_neg nd,if_neg (by decide),if_neg (by decide),if_neg (by decide),if_pos (.inl rfl)]);refine⟨a,t,k+1,l1,d+1,rfl,rfl,d5,by lia,hj,λp l' h1 h2 h3 v h4=>?_,λi hi M'=>?_⟩
   .obtain⟨fs,rfl⟩:=h4.obj;have:=hR (.mir p) l' h1 (by rw[Pat.depth];lia) (by rw[h3,Pat.tl];simp) _ ⟨_,rfl,h4⟩;have e:k+(Pat.mir p).tl.length=k+1+p.tl.length:=by rw[Pat.tl];simp;lia
    rw[e] at this;exact⟨_,_,rfl,this⟩
   .rw[b7];exact hX i (λr=>by rw[hw];exact hi r) M'
  .have hw:∀ r,walk (.pat d::r) (116::l1) k=walk (.pat (d+1)::r) l1 (k+1):=λr=>aH (by rw[bN];unfold bM;rw[if_neg (by decide),if_neg nd,if_neg (by decide),if_neg (by decide),if_neg (by decide),if_pos (.inr rfl)]);refine⟨a,t,k+1,l1,d+1,rfl,rfl,d5,by lia,hj,λp l' h1 h2 h3 v h4=>?_,λi hi M'=>?_⟩
   .obtain⟨fs,rfl⟩:=h4.obj;have:=hR (.tur p) l' h1 (by rw[Pat.depth];lia) (by rw[h3,Pat.tl];simp) _ ⟨_,rfl,h4⟩;have e:k+(Pat.tur p).tl.length=k+1+p.tl.length:=by rw[Pat.tl];simp;lia
    rw[e] at this;exact⟨_,_,rfl,this⟩
   .rw[b7];exact hX i (λr=>by rw[hw];exact hi r) M'
  .have hw:∀ r,walk (.pat d::r) (104::l1) k=walk (.hue:: .hue:: .pat (d+1)::r) l1 (k+1):=λr=>aH (by rw[bN];unfold bM;rw[if_neg (by decide),if_neg nd,if_neg (by decide),if_neg (by decide),if_pos rfl]);refine⟨a,t,k+1,l1,d+1,rfl,rfl,d5,by lia,hj,λc e p l' h1 h2 h3 h4 h5 u h6=>?_,λi hi M'=>?_⟩
   .have:=hR (.hue ((c:Int) - 48) ((e:Int) - 48) p) l' ⟨by lia,by lia,h3⟩ (by rw[Pat.depth];lia) (by rw[h5,Pat.tl,ia h1,ia h2];simp) _ ⟨u,rfl,h6⟩;have e:k+(Pat.hue ((c:Int) - 48) ((e:Int) - 48) p).tl.length=k+1+2+p.tl.length:=by rw[Pat.tl,ia h1,ia h2];simp;lia
    rw[e] at this;exact this
   .rw[b7];exact hX i (λr=>by rw[hw];exact hi r) M'
def Es(Q2:V.T "over_from" ii fV)(Q3:V.T "shifted_from" ij fW)(Q4:V.T "rehue_from" ik fX)(Pr:V.T "form_from" il cI)(Li:jk V)(uC:cJ V)(uZ:gj V)(Lj:jl V)(uD:V.m "int")(Lk:jn V)(Ll:jh V)(Lm:V.gi "DEEP" 5)(Ln:ji V)(Lo:jj V)(uI:dv V):∀ j,V.MM (6+2*j) "form_from" cI (du j):=by
 intro j;induction j with
 |zero=>exact CalMM.never Pr (λds M R RX=>B9)
 |succ j ih=>
  have Lp:=ih;have NX:=En (n:=6+2*j) (j:=j) (by omega) Q2 Lp Li uC;have NY:=Eo (n:=6+2*j) (j:=j) (by omega) Q3 uZ Lp Lj uC;have NZ:=Ep (n:=6+2*j) (j:=j) (by omega) Q4 uD Lp Lk uC;have Lp:=Cal.mono ih (Gs _);exact Er (n:=6+2*j+1) (j:=j) (by omega) Pr NX NY Lp NZ Ll Lm Ln Lo uI
abbrev pq(V:Bx):Prop:=V.M 1 "Reading" nD BH
def Et(T:V.Ti "Reading" "Reading.__init__" nC nD)(Jo:V.a "Reading" "text")(uG:V.a "Reading" "place"):pq V:=by
 refine Txi.okI T C1 (λds R h=>?_) (λf cdv A outer s H E J hr=>⟨_,((bH Jo (aa 1) (bH uG ad dH))),λds R h=>?_⟩)
 .obtain⟨_,rfl,_⟩:=h;rfl
 .obtain⟨t,rfl,hR⟩:=h;refine⟨by decide,by show(1:Nat)<1000;decide,?_⟩;show R (putD _ _ (putD _ _ []));rw[putD,putD,if_neg (by decide+kernel)];exact hR
abbrev pr(V:Bx):Prop:=V.M 1 "Pattern" nF Cj
def Eu(T:V.Ti "Pattern" "Pattern.__init__" nE nF)(N1:V.a "Pattern" "text")(uY:V.a "Pattern" "shifts")(Kj:V.a "Pattern" "form"):pr V:=by
 refine Txi.okI T C3 (λds R h=>?_) (λf cdv A outer s H E J hr=>⟨_,((bH N1 (aa 1) (bH uY (aa 2) (bH Kj (aa 3) dH)))),λds R h=>?_⟩)
 .obtain⟨_,_,_,_,_,_,rfl,_⟩:=h;rfl
 .obtain⟨t,w,h,s,x,fs,rfl,hR⟩:=h;refine⟨by decide,by show(1:Nat)<1000;decide,by show(2:Nat)<1000;decide,?_⟩;show R (putD _ _ (putD _ _ (putD _ _ [])));rw[show putD ("shifts":D') (.tup [.int w,.int h,.int s]) (putD ("text":D') (.str t) [])=([("text",.str t),("shifts",.tup [.int w,.int h,.int s])]:List (D' × D)) by rw[putD,putD,if_neg (by decide+kernel)];rfl,putD,if_neg (by decide+kernel),putD,if_neg (by decide+kernel)];exact hR
abbrev jp(V:Bx):Prop:=V.E 1 "OneLine" nH Cl
def Ev(T:V.Te "OneLine" "OneLine.__init__" nG nH)(Kg:V.b "MotifError")(uAY:V.ea "OneLine")(N2:V.xf "OneLine" "place"):jp V:=by
 refine Txe.okE T C4 (λds R h=>?_) (λf cdv A outer s H E J hr=>⟨_,((rZ Kg uAY (ac (aa 1) ae) (se uAY N2 (aa 1) rY))),λds R h=>?_⟩)
 .obtain⟨i,rfl,_⟩:=h;rfl
 .obtain⟨i,rfl,hR⟩:=h;exact⟨by show(1:Nat)<=1000;decide,rfl,hR⟩
abbrev pv(V:Bx):Prop:=V.D 2 "measure" nJ A3
def Ew(T:V.T "measure" nI nJ)(Kh:je V):pv V:=by
 refine Tx.okDW T sc_measure (λds R h=>?_) (λf cdv A outer s H E J hr=>⟨_,((ah (ai 2 sc_measure.nd (af (aq Kh hr (ac (av (ac ad (ac (aa 0) ae))) (ac (av (ac ad (ac (aa 1) ae))) ae))) ad))
   (aj (ar (av (ac (af (aa 2) ad) (ac (af (aa 2) ad) ae))))))),λds R h=>?_⟩)
 .obtain⟨x,y,rfl,_⟩:=h;rfl
 .obtain⟨x,y,rfl,hx,hy,hR⟩:=h;refine⟨λd=>∃ p0 p1:Int,d= .tup [.int p0,.int p1]/\Meas x y p1 p0,⟨by simp,by simp,1,x,0,y,rfl,hx,hy,λp0 p1 q0 hL=>⟨_,rfl,p0,p1,rfl,sW ⟨hL.1,hL.2⟩⟩⟩,?_⟩;rintro _ ⟨p0,p1,rfl,hM⟩;k_places;exact⟨_,rfl,_,rfl,by simp,hR p1 p0 hM⟩
abbrev gk(V:Bx):Prop:=V.D 3 "met" nM A5
def Ey(T:V.T "met" nK nM)(Lq:pv V):gk V:=by
 refine Tx.okDW T sc_met (λds R h=>?_) (λf cdv A outer s H E J hr=>⟨_,((ah (ai 2 sc_met.nd (aq Lq hr (ac (af (aa 0) ad) (ac (af (aa 1) ad) ae))))
   (ah (ai 3 sc_met.nd (aN (ax (af (aa 0) ad) (af (aa 1) ad)) (af (aa 2) ad)))
   (ah (ai 4 sc_met.nd (aN (ax (af (aa 0) ad) (af (aa 1) ad)) (af (aq Lq hr (ac (af (aa 0) ad) (ac (af (aa 1) ad) ae))) ad)))
   (ah (ai 5 sc_met.nd (ax (aN (aa 4) (af (aa 0) ad)) (af (aa 0) ad)))
   (ah (ai 6 sc_met.nd (bq (ax (aN (aa 4) (af (aa 1) ad)) (af (aa 1) ad)) (aa 5)))
   (ah (ai 7 sc_met.nd (aN (af (aa 2) ad) (af (aq Lq hr (ac (af (aa 2) ad) (ac (aa 6) ae))) ad)))
   (ah (ai 8 sc_met.nd (ax (aN (ax (aa 7) (aa 6)) (af (aa 2) ad)) (af (aa 2) ad)))
   (aj (ar (av (ac (aa 3) (ac (ax (aa 4) (aa 7)) (ac (aw (am (ax (aa 7) (aa 5)) (ax (aa 8) (af (aa 0) ad))) (aa 3)) ae)))))))))))))),λds R h=>?_⟩)
 .obtain⟨_,_,_,_,_,_,rfl,_⟩:=h;rfl
 .obtain⟨w1,h1,s1,w2,h2,s2,rfl,a1,a2,a3,a4,a5,a6,b1,b2,b3,b4,b5,b6,hR⟩:=h;refine⟨λd=>∃ g u:Int,d= .tup [.int g,.int u]/\Meas w1 w2 g u,⟨_,rfl,_,rfl,w1,w2,rfl,by omega,by omega,λg u M=>⟨g,u,rfl,M⟩⟩,?_⟩;rintro _ ⟨g,u,rfl,M1⟩;k_places;have hg:=M1.pos a1;have Ny:=M1.le a1;refine⟨λd=>d= .int (w1*w2 / g),⟨_,rfl,_,rfl,.inl (b64B a1 a2),_,rfl,d30B hg (Hn Ny a2),rfl⟩,?_⟩;rintro _ rfl;k_places;refine⟨λd=>∃ k u':Int,d= .int (h1*h2 / k)/\Meas h1 h2 k u',⟨_,rfl,_,rfl,.inl (b64B a3 a4),_,rfl,_,rfl,h1,h2,rfl,by omega,by omega,λk u' M=>⟨_,rfl,d30B (M.pos a3) (Hn (M.le a3) a4),k,u',rfl,M⟩⟩,?_⟩;rintro _ ⟨k,u',rfl,M2⟩;k_places;obtain⟨r0,r1,r2,r3,r4,r5⟩:=kz a3 b3 M2;have Q5:h1*h2<=1125899906842624:=by
   have:=bA (a:=h1) (d:=h2) (A:=33554432) (B:=33554432) (by omega) (by omega);omega
  refine⟨λd=>d= .int (h1*h2 / k / h1*s1),⟨_,rfl,d30B a3 a4,_,rfl,.inr (s64B a5 a6 a2),rfl⟩,?_⟩;rintro _ rfl;k_places;refine⟨λd=>d= .int (h1*h2 / k / h2*s2 - h1*h2 / k / h1*s1),⟨_,rfl,d30B b3 b4,_,rfl,.inr (s64B b5 b6 b2),rfl⟩,?_⟩;rintro _ rfl;k_places;have t1:=bA (a:=h1*h2 / k / h1) (d:=s1) (A:=33554432) (B:=33554432) (by omega) (by omega);have t2:=bA (a:=h1*h2 / k / h2) (d:=s2) (A:=33554432) (B:=33554432) (by omega) (by omega);refine⟨λd=>∃ gg u_:Int,d= .int (g / gg)/\Meas g (h1*h2 / k / h2*s2 - h1*h2 / k / h1*s1) gg u_,⟨_,rfl,_,rfl,g,_,rfl,by omega,by omega,λgg u_ M=>⟨_,rfl,d30B (M.pos hg) (Hn (M.le hg) (Hn Ny a2)),gg,u_,rfl,M⟩⟩,?_⟩;rintro _ ⟨gg,u_,rfl,M3⟩;k_places;have IS:=M3.pos hg;have c1:0<=g / gg:=IJ (by omega) (by omega);have c2:g / gg<=g:=Int.ediv_le_self _ (by omega);have c4:=AN (c:=g / gg) (gap:=h1*h2 / k / h2*s2 - h1*h2 / k / h1*s1) (N:=2251799813685248) hg c1 c2 (by omega);have mr:=ky a1 b1 a3 b3 M1 M2 M3;refine⟨λd=>d= .int (g / gg*(h1*h2 / k / h2*s2 - h1*h2 / k / h1*s1) / g*u),⟨.inl ⟨by omega,by omega⟩,_,rfl,⟨by omega,by omega⟩,_,rfl,.inl ⟨by omega,by omega⟩,rfl⟩,?_⟩;rintro _ rfl;k_places;obtain⟨w0,w3,_⟩:=kz a1 b1 M1;have Q6:w1*w2<=1125899906842624:=by
   have:=bA (a:=w1) (d:=w2) (A:=33554432) (B:=33554432) (by omega) (by omega);omega
  have K7:=bA (a:=h1*h2 / k) (d:=g / gg) (A:=1125899906842624) (B:=33554432) (by omega) (by omega);exact⟨.inl ⟨by omega,by omega⟩,.inl ⟨by omega,by omega⟩,_,rfl,.inr ⟨by omega,by omega⟩,w0,by simp,hR _ _ _ _ mr⟩
abbrev jq(V:Bx):Prop:=V.D 1 "mirrored" nO A1
def Ez(T:V.T "mirrored" nN nO):jq V:=by
 refine Tx.okDW T C5 (λds R h=>?_) (λf cdv A outer s H E J hr=>⟨_,((aj (ar (av (ac (af (aa 0) ad) (ac (af (aa 0) ad) (ac (aw (cb (af (aa 0) ad)) (af (aa 0) ad)) ae))))))),λds R h=>?_⟩)
 .obtain⟨w,h,s,rfl,_⟩:=h;rfl
 .obtain⟨w,h,s,rfl,hw,hR⟩:=h;exact⟨_,rfl,_,rfl,_,rfl,_,rfl,hw,by simp,hR⟩
abbrev jr(V:Bx):Prop:=V.D 3 "turned" nQ A2
def EA(T:V.T "turned" nP nQ)(Ki:jg V):jr V:=by
 refine Tx.okDW T C6 (λds R h=>?_) (λf cdv A outer s H E J hr=>⟨_,((aj (ar (aq Ki hr (ac (av (ac ad (ac (af (aa 0) ad) ae))) (ac (av (ac (cb (af (aa 0) ad)) (ac (af (aa 0) ad) ae))) ae)))))),λds R h=>?_⟩)
 .obtain⟨w,h,s,rfl,_⟩:=h;rfl
 .obtain⟨w,h,s,rfl,hw,hh,x9,B_,hs,k9,hR⟩:=h;have hp:0<w*h:=FE hw hh;have hn:¬ 0*s=w* -h:=by rw[Go];lia
  exact⟨_,rfl,by simp,_,rfl,_,rfl,by simp,0,w,-h,s,rfl,by lia,by lia,by lia,by lia,λe=>absurd e hn,λ_ w' h' s' f=>hR w' h' s' f⟩
def ok_Motif_family(hL:3<=n)(T:V.Tm "Motif" "family" "Motif.family" im cy)(uK:V.a "Motif" "shifts")(Jp:V.a "Motif" "place")(uAA:jp V):V.Q (n+1) "Motif" "family" cy (ofX (bW (j+1) "Motif")):=by
 refine Txm.okM T C7 (λds M R RX h=>?_) (λf cdv A outer s H E J hr hx=>⟨_,((aB (cn (sC (aO uK (ao (aa 0))) (ao bz)) (aE (km (hn:=by omega) uAA hr hx rfl (aW (aO Jp (ao (aa 0))) bt))) cf)
   (aE (aQ (aO uK (ao (aa 0))))))),λds M R RX b7 h=>?_⟩)
 .obtain⟨_,_,_,rfl,_⟩:=h;rfl
 .obtain⟨p,k,v,rfl,hv,hs,hd,hc,f6,hX,hR⟩:=h;cases p with
  |over p q=>exact absurd (show("Over":D')="Motif" from hc) (by decide+kernel)
  |sh a b p=>exact absurd (show("Shifted":D')="Motif" from hc) (by decide+kernel)
  |mir p=>exact absurd (show("Mirror":D')="Motif" from hc) (by decide+kernel)
  |tur p=>exact absurd (show("Turn":D')="Motif" from hc) (by decide+kernel)
  |hue f g p=>exact absurd (show("Rehue":D')="Motif" from hc) (by decide+kernel)
  |mot L a b c d=>
   obtain⟨sh,hu,rfl,h0,h1⟩:=hv;refine⟨_,⟨rfl,rfl⟩,_,kJ,?_⟩;by_cases e:a*d=b*c
   .rw[h0 e];refine⟨_,⟨rfl,rfl⟩,_,Ca,by show(1:Nat)<=1000;decide,(k:Int),rfl,?_⟩;rw[b7];exact hX k (by rw[Pat.lineAt,if_pos e])
   .obtain⟨w,h,s,F,rfl,rfl⟩:=h1 e;exact⟨_,⟨rfl,rfl⟩,_,kJ,hR (by rw[Pat.lineAt,if_neg e]) w h s (Pat.Fam.mot F)⟩
def EB(hL:3<=n)(T:V.Tm "Over" "family" "Over.family" io ip)(Jv:gk V)(uS:V.a "Over" "above")(uN:V.a "Over" "below")(uE:∀ x,x∈(["Motif","Over","Shifted","Mirror","Turn","Rehue"]:List D')->V.Q n x "family" cy (ofX (bW j x))):V.Q (n+1) "Over" "family" ip (ofX (bW (j+1) "Over")):=by
 refine Txm.okM T sc_Over_family (λds M R RX h=>?_) (λf cdv A outer s H E J hr hx=>⟨_,((aB (bj 1 sc_Over_family.nd (dJ (hn:=by omega) uE hx hr (aO uS (ao (aa 0)))))
   (aE (aQ (bg (hn:=by omega) (CalD.toM Jv) hx hr (aW (ao (aa 1)) (aW (dJ (hn:=by omega) uE hx hr (aO uN (ao (aa 0)))) bt))))))),λds M R RX b7 h=>?_⟩)
 .obtain⟨_,_,_,rfl,_⟩:=h;rfl
 .obtain⟨p,k,v,rfl,hv,hs,hd,hc,f6,hX,hR⟩:=h;cases p with
  |mot L a b c d=>exact absurd (show("Motif":D')="Over" from hc) (by decide+kernel)
  |sh a b p=>exact absurd (show("Shifted":D')="Over" from hc) (by decide+kernel)
  |mir p=>exact absurd (show("Mirror":D')="Over" from hc) (by decide+kernel)
  |tur p=>exact absurd (show("Turn":D')="Over" from hc) (by decide+kernel)
  |hue f g p=>exact absurd (show("Rehue":D')="Over" from hc) (by decide+kernel)
  |over p q=>
   obtain⟨u,u',rfl,hu,Lr⟩:=hv;obtain⟨fs,rfl,hf,_⟩:=hu.objm;obtain⟨gs,rfl,hg,_⟩:=Lr.objm;rw[Pat.depth] at hd;refine⟨λd M'=>(∃ w h s,p.lineAt (k+1)=m9/\p.Fam w h s/\d= .tup [.int w,.int h,.int s])/\M'=M,⟨_,⟨rfl,rfl⟩,_,rfl,p.cls,p.cls_mem,fs,⟨rfl,rfl⟩,hf,p,k+1,_,rfl,hu,hs.1,by lia,rfl,f6.1,λi hi=>?_,λhn w h s F=>⟨⟨w,h,s,hn,F,rfl⟩,rfl⟩⟩,?_⟩
   .rw[b7];exact hX i (by rw[Pat.lineAt,hi])
   rintro _ _ ⟨⟨w1,h1,s1,N3,F1,rfl⟩,rfl⟩;k_places;refine⟨_,⟨rfl,rfl⟩,_,fu (by decide+kernel),q.cls,q.cls_mem,gs,⟨rfl,rfl⟩,hg,q,k+1+p.tl.length+1,_,rfl,Lr,hs.2,by lia,rfl,f6.2.1,λi hi=>?_,λA' w2 h2 s2 F2=>?_⟩
   .rw[b7];exact hX i (by rw[Pat.lineAt,N3];exact hi)
   .obtain⟨f1,f2⟩:=f6.2.2 (Pat.line_wf _ hs.1 N3) (Pat.line_wf _ hs.2 A');obtain⟨a1,a2,a3,a4,a5,a6⟩:=f1.small F1;obtain⟨b1,b2,b3,b4,b5,b6⟩:=f2.small F2;exact⟨w1,h1,s1,w2,h2,s2,rfl,a1,a2,a3,a4,a5,a6,b1,b2,b3,b4,b5,b6,λw h s A MR=>hR (by rw[Pat.lineAt,N3];exact A') w h s (Pat.Fam.over F1 F2 MR)⟩
def EC(hL:3<=n)(T:V.Tm "Shifted" "family" "Shifted.family" iq ir)(uP:V.a "Shifted" "form")(uE:∀ x,x∈(["Motif","Over","Shifted","Mirror","Turn","Rehue"]:List D')->V.Q n x "family" cy (ofX (bW j x))):V.Q (n+1) "Shifted" "family" ir (ofX (bW (j+1) "Shifted")):=by
 refine Txm.okM T C8 (λds M R RX h=>?_) (λf cdv A outer s H E J hr hx=>⟨_,((aE (aQ (dJ (hn:=by omega) uE hx hr (aO uP (ao (aa 0))))))),λds M R RX b7 h=>?_⟩)
 .obtain⟨_,_,_,rfl,_⟩:=h;rfl
 .obtain⟨p,k,v,rfl,hv,hs,hd,hc,f6,hX,hR⟩:=h;cases p with
  |mot L a b c d=>exact absurd (show("Motif":D')="Shifted" from hc) (by decide+kernel)
  |over p q=>exact absurd (show("Over":D')="Shifted" from hc) (by decide+kernel)
  |mir p=>exact absurd (show("Mirror":D')="Shifted" from hc) (by decide+kernel)
  |tur p=>exact absurd (show("Turn":D')="Shifted" from hc) (by decide+kernel)
  |hue f g p=>exact absurd (show("Rehue":D')="Shifted" from hc) (by decide+kernel)
  |sh a b p=>
   obtain⟨u,rfl,hu⟩:=hv;obtain⟨fs,rfl,hf,_⟩:=hu.objm;rw[Pat.depth] at hd;refine⟨_,⟨rfl,rfl⟩,_,rfl,p.cls,p.cls_mem,fs,⟨rfl,rfl⟩,hf,p,_,_,rfl,hu,hs.2.2,by lia,rfl,f6,λi hi=>?_,λhn w h s F=>?_⟩
   .rw[b7];exact hX i (by rw[Pat.lineAt];exact hi)
   .exact hR (by rw[Pat.lineAt];exact hn) w h s (F.sh a b)
def EE(hL:3<=n)(T:V.Tm "Mirror" "family" "Mirror.family" iu iy)(Ls:jq V)(uQ:V.a "Mirror" "form")(uE:∀ x,x∈(["Motif","Over","Shifted","Mirror","Turn","Rehue"]:List D')->V.Q n x "family" cy (ofX (bW j x))):V.Q (n+1) "Mirror" "family" iy (ofX (bW (j+1) "Mirror")):=by
 refine Txm.okM T C9 (λds M R RX h=>?_) (λf cdv A outer s H E J hr hx=>⟨_,((aE (aQ (bg (hn:=by omega) (CalD.toM Ls) hx hr (aW (dJ (hn:=by omega) uE hx hr (aO uQ (ao (aa 0)))) bt))))),λds M R RX b7 h=>?_⟩)
 .obtain⟨_,_,_,rfl,_⟩:=h;rfl
 .obtain⟨p,k,v,rfl,hv,hs,hd,hc,f6,hX,hR⟩:=h;cases p with
  |mot L a b c d=>exact absurd (show("Motif":D')="Mirror" from hc) (by decide+kernel)
  |over p q=>exact absurd (show("Over":D')="Mirror" from hc) (by decide+kernel)
  |sh a b p=>exact absurd (show("Shifted":D')="Mirror" from hc) (by decide+kernel)
  |tur p=>exact absurd (show("Turn":D')="Mirror" from hc) (by decide+kernel)
  |hue f g p=>exact absurd (show("Rehue":D')="Mirror" from hc) (by decide+kernel)
  |mir p=>
   obtain⟨u,rfl,hu⟩:=hv;obtain⟨fs,rfl,hf,_⟩:=hu.objm;rw[Pat.depth] at hd;refine⟨_,⟨rfl,rfl⟩,_,rfl,p.cls,p.cls_mem,fs,⟨rfl,rfl⟩,hf,p,_,_,rfl,hu,hs,by lia,rfl,f6,λi hi=>?_,λhn w h s F=>?_⟩
   .rw[b7];exact hX i (by rw[Pat.lineAt];exact hi)
   .exact⟨w,h,s,rfl,F.f.w0,hR (by rw[Pat.lineAt];exact hn) w h _ F.mir⟩
def EF(hL:3<=n)(T:V.Tm "Turn" "family" "Turn.family" iz iA)(Lu:jr V)(uR:V.a "Turn" "form")(uE:∀ x,x∈(["Motif","Over","Shifted","Mirror","Turn","Rehue"]:List D')->V.Q n x "family" cy (ofX (bW j x))):V.Q (n+1) "Turn" "family" iA (ofX (bW (j+1) "Turn")):=by
 refine Txm.okM T Da (λds M R RX h=>?_) (λf cdv A outer s H E J hr hx=>⟨_,((aE (aQ (bg (hn:=by omega) (CalD.toM Lu) hx hr (aW (dJ (hn:=by omega) uE hx hr (aO uR (ao (aa 0)))) bt))))),λds M R RX b7 h=>?_⟩)
 .obtain⟨_,_,_,rfl,_⟩:=h;rfl
 .obtain⟨p,k,v,rfl,hv,hs,hd,hc,f6,hX,hR⟩:=h;cases p with
  |mot L a b c d=>exact absurd (show("Motif":D')="Turn" from hc) (by decide+kernel)
  |over p q=>exact absurd (show("Over":D')="Turn" from hc) (by decide+kernel)
  |sh a b p=>exact absurd (show("Shifted":D')="Turn" from hc) (by decide+kernel)
  |mir p=>exact absurd (show("Mirror":D')="Turn" from hc) (by decide+kernel)
  |hue f g p=>exact absurd (show("Rehue":D')="Turn" from hc) (by decide+kernel)
  |tur p=>
   obtain⟨u,rfl,hu⟩:=hv;obtain⟨fs,rfl,hf,_⟩:=hu.objm;rw[Pat.depth] at hd;refine⟨_,⟨rfl,rfl⟩,_,rfl,p.cls,p.cls_mem,fs,⟨rfl,rfl⟩,hf,p,_,_,rfl,hu,hs,by lia,rfl,f6.1,λi hi=>?_,λhn w h s F=>?_⟩
   .rw[b7];exact hX i (by rw[Pat.lineAt];exact hi)
   .obtain⟨a1,a2,a3,a4,a5,a6⟩:=(f6.2 (Pat.line_wf _ hs hn)).small F;exact⟨w,h,s,rfl,a1,a3,by lia,by lia,a5,by lia,λw' h' s' F'=>hR (by rw[Pat.lineAt];exact hn) w' h' s' (F.tur F')⟩
def EG(hL:3<=n)(T:V.Tm "Rehue" "family" "Rehue.family" iB iC)(uO:V.a "Rehue" "form")(uE:∀ x,x∈(["Motif","Over","Shifted","Mirror","Turn","Rehue"]:List D')->V.Q n x "family" cy (ofX (bW j x))):V.Q (n+1) "Rehue" "family" iC (ofX (bW (j+1) "Rehue")):=by
 refine Txm.okM T Db (λds M R RX h=>?_) (λf cdv A outer s H E J hr hx=>⟨_,((aE (aQ (dJ (hn:=by omega) uE hx hr (aO uO (ao (aa 0))))))),λds M R RX b7 h=>?_⟩)
 .obtain⟨_,_,_,rfl,_⟩:=h;rfl
 .obtain⟨p,k,v,rfl,hv,hs,hd,hc,f6,hX,hR⟩:=h;cases p with
  |mot L a b c d=>exact absurd (show("Motif":D')="Rehue" from hc) (by decide+kernel)
  |over p q=>exact absurd (show("Over":D')="Rehue" from hc) (by decide+kernel)
  |sh a b p=>exact absurd (show("Shifted":D')="Rehue" from hc) (by decide+kernel)
  |mir p=>exact absurd (show("Mirror":D')="Rehue" from hc) (by decide+kernel)
  |tur p=>exact absurd (show("Turn":D')="Rehue" from hc) (by decide+kernel)
  |hue f g p=>
   obtain⟨u,rfl,hu⟩:=hv;obtain⟨fs,rfl,hf,_⟩:=hu.objm;rw[Pat.depth] at hd;refine⟨_,⟨rfl,rfl⟩,_,rfl,p.cls,p.cls_mem,fs,⟨rfl,rfl⟩,hf,p,_,_,rfl,hu,hs.2.2,by lia,rfl,f6,λi hi=>?_,λhn w h s F=>?_⟩
   .rw[b7];exact hX i (by rw[Pat.lineAt];exact hi)
   .exact hR (by rw[Pat.lineAt];exact hn) w h s (F.hue f g)
def EH(Ps:V.Tm "Motif" "family" "Motif.family" im cy)(Pt:V.Tm "Over" "family" "Over.family" io ip)(Pu:V.Tm "Shifted" "family" "Shifted.family" iq ir)(Pw:V.Tm "Mirror" "family" "Mirror.family" iu iy)(Px:V.Tm "Turn" "family" "Turn.family" iz iA)(Py:V.Tm "Rehue" "family" "Rehue.family" iB iC)(uK:V.a "Motif" "shifts")(Jp:V.a "Motif" "place")(uAA:jp V)(Jv:gk V)(uS:V.a "Over" "above")(uN:V.a "Over" "below")(uP:V.a "Shifted" "form")(Ls:jq V)(uQ:V.a "Mirror" "form")(Lu:jr V)(uR:V.a "Turn" "form")(uO:V.a "Rehue" "form"):∀ j x,x∈(["Motif","Over","Shifted","Mirror","Turn","Rehue"]:List D')->V.Q (3+j) x "family" cy (ofX (bW j x)):=by
 intro j;induction j with
 |zero=>
  intro x hx;simp only[Fp,Gd,or_false] at hx;rcases hx with rfl|rfl|rfl|rfl|rfl|rfl
  .exact CalMth.never Ps (λds M R RX=>fv)
  .exact CalMth.never Pt (λds M R RX=>fv)
  .exact CalMth.never Pu (λds M R RX=>fv)
  .exact CalMth.never Pw (λds M R RX=>fv)
  .exact CalMth.never Px (λds M R RX=>fv)
  .exact CalMth.never Py (λds M R RX=>fv)
 |succ j Lv=>
  intro x hx;simp only[Fp,Gd,or_false] at hx;rcases hx with rfl|rfl|rfl|rfl|rfl|rfl
  .exact ok_Motif_family (n:=3+j) (j:=j) (by omega) Ps uK Jp uAA
  .exact EB (n:=3+j) (j:=j) (by omega) Pt Jv uS uN Lv
  .exact EC (n:=3+j) (j:=j) (by omega) Pu uP Lv
  .exact EE (n:=3+j) (j:=j) (by omega) Pw Ls uQ Lv
  .exact EF (n:=3+j) (j:=j) (by omega) Px Lu uR Lv
  .exact EG (n:=3+j) (j:=j) (by omega) Py uO Lv
abbrev vh(V:Bx):Prop:=V.MM 18 "form_from" cI (du 6)
abbrev vi(V:Bx):Prop:=∀ x,x∈(["Motif","Over","Shifted","Mirror","Turn","Rehue"]:List D')->V.Q 9 x "family" cy (ofX (bW 6 x))
abbrev pw(V:Bx):Prop:=V.X 19 "read" nS uv
def EI(T:V.T "read" nR nS)(uB:V.m "len")(uH:vh V)(Kk:V.gi "MOST" 720)(uG:V.a "Reading" "place")(N4:pq V)(N5:pr V)(uE:vi V)(uX:jd V)(Kl:V.n "TooGreat"):pw V:=by
 refine CalMM.nilX (Tx.okM T sc_read (λds M R RX h=>?_) (λf cdv A outer s H E J hr hx=>⟨_,((aB (bj 1 sc_read.nd (zP N4 hr (aD (ac (aa 0) ae))))
   (aB (bj 2 sc_read.nd (bg uH hx hr (aD (ac (aa 1) (ac ad ae)))))
   (aB (cn (sB (aO uG (ao (aa 1))) (ao (cC uB (ac (aa 0) ae)))) (aE (km uX hr hx rfl (aW (aO uG (ao (aa 1))) bt))) cf)
   (aB (bj 3 sc_read.nd (dJ uE hx hr (ao (aa 2))))
   (aB (cn (cm (fJ (ax (af (aa 3) ad) (af (aa 3) ad)) (eQ Kk))) (aE (zU Kl hx rfl (aD (ac ay ae)))) cf)
   (aE (aQ (ao (jY N5 hr (ac (aa 0) (ac (aa 3) (ac (aa 2) ae))))))))))))),λds M R RX b7 h=>?_⟩))
 .obtain⟨_,R0,IR,h,_⟩:=h;rcases h with⟨_,_,rfl,_⟩|⟨_,rfl,_⟩<;>rfl
 .obtain⟨rfl,R0,IR,h,hR,hX⟩:=h;obtain⟨t,ht,Q7,z6⟩:∃ t:D',ds=[.str t]/\t.length<=100000/\((∃ k:Nat,df t=be k/\IR "WrongSign" [("place",.int k)])\/∃ p:Pat,t=p.text/\p.Syn/\p.depth<=5/\p.Cal/\(∀ k:Nat,p.lineAt 0=be k->IR "OneLine" [("place",.int k)])/\(p.lineAt 0=m9->¬ p.Fits->IR "TooGreat" [])/\(p.lineAt 0=m9->p.Fits->∀ d,aZ p d->R0 d)):=by
   rcases h with⟨t,k,e,h1,h2,h3⟩|⟨p,e,h1,h2,h3⟩
   .exact⟨t,e,h1,.inl ⟨k,h2,h3⟩⟩
   .exact⟨p.text,e,by have:=Pat.syn_short h1 h2;lia,.inr ⟨p,rfl,h1,h2,h3⟩⟩
  subst ht;have d8:At t 0 (cs t):=⟨rfl,FR _,Q7⟩;refine⟨λd M'=>∃ a,d= .ptr a/\M'=RdM a t 0,⟨t,rfl,λa _=>⟨a,rfl,rfl⟩⟩,?_⟩;rintro _ _ ⟨a,rfl,rfl⟩;k_places;refine⟨λv M'=>∃ p l',p.Syn/\p.depth<=5/\cs t=p.tl++l'/\FormOf p 0 v/\M'=RdM a t p.tl.length,⟨a,t,0,cs t,0,rfl,rfl,d8,rfl,by decide,λp l' h1 h2 h3 v h4=>⟨p,l',h1,by lia,h3,h4,by rw[GV]⟩,λi hi M'=>?_⟩,?_⟩
  .rw[b7];have hw:df t=be i:=hi [];rcases z6 with⟨k,h1,h2⟩|⟨p,rfl,h1,h2,_⟩
   .rw[hw] at h1;cases h1;exact hX _ _ _ h2
   .rw[tU h1 h2] at hw;cases hw
  rintro v _ ⟨p,l',hp,NW,hl,hv,rfl⟩;k_places;have hw:df t=walk [] l' p.tl.length:=by
   unfold df;rw[hl,cG hp 0 [] l' 0 (by lia),GV]
  have a_:t.length=p.tl.length+l'.length:=by rw[<- bp,hl,Fx]
  refine⟨_,aR,_,dg,by lia,ite2 (λc=>?_) (λc=>?_)⟩
  .have c':=of_decide_eq_true c;refine⟨_,aR,_,dg,by show(1:Nat)<=1000;decide,(p.tl.length:Int),rfl,?_⟩;rw[b7];have x9:df t=be p.tl.length:=by
    rw[hw];cases l' with
    |nil=>simp at a_;lia
    |cons c l=>simp[walk,step,aJ,aM]
   rcases z6 with⟨k,h1,h2⟩|⟨q,rfl,h1,h2,_⟩
   .rw[x9] at h1;cases h1;exact hX _ _ _ h2
   .rw[tU h1 h2] at x9;cases x9
  have c':¬ ((p.tl.length:Int)<(t.length:Int)):=λz=>c (decide_eq_true z);have Q8:l'=[]:=Hx (by lia);subst Q8;rcases z6 with⟨k,h1,h2⟩|⟨q,rfl,h1,h2,f6,N6,JZ,Lw⟩
  .rw[hw] at h1;cases h1
  obtain⟨rfl,_⟩:=Ci (p:=q) (q:=p) (x:=[]) (y:=[]) h1 hp (by rw[<- cq,hl];simp);obtain⟨fs,rfl,hf,_⟩:=hv.objm;refine⟨λd M'=>∃ w h s,q.lineAt 0=m9/\q.Fam w h s/\d= .tup [.int w,.int h,.int s],⟨q.cls,q.cls_mem,fs,⟨rfl,rfl⟩,hf,q,0,_,rfl,hv,hp,by lia,rfl,f6,λi hi=>?_,λhn w h s F=>⟨w,h,s,hn,F,rfl⟩⟩,?_⟩
  .rw[b7];exact hX _ _ _ (N6 i hi)
  rintro _ M' ⟨w,h,s,hn,F,rfl⟩;k_places;have e_:=Pat.line_wf 0 hp hn;have Pn:=Pat.cal_w e_ f6 F;have QE:=F.f.w0;refine⟨_,rfl,_,rfl,.inl ⟨by lia,by lia⟩,ite2 (λc=>?_) (λc=>?_)⟩
  .have c2:=of_decide_eq_true c;refine⟨by show(1:Nat)<=1000;decide,?_⟩;rw[b7];refine hX _ _ _ (JZ hn λ⟨w',h',s',F',hb⟩=>?_);obtain⟨rfl,rfl,_⟩:=F.uniq F';lia
  .have c2:¬ (720<w*h):=λz=>c (decide_eq_true z);refine⟨_,_,_,_,_,_,rfl,hR _ _ (Lw hn ⟨w,h,s,F,by lia⟩ _ ⟨w,h,s,_,rfl,rfl,fu (by decide+kernel),⟨F,0,_,kK (by decide+kernel) (by decide+kernel),hv⟩⟩)⟩
abbrev pz(V:Bx):Prop:=V.X 1 "refuse_far" nV Cm
def EJ(T:V.T "refuse_far" nU nV)(JR:V.m "max")(uM:V.m "abs")(N7:V.gi "FAR" 1000000000000)(N8:V.n "TooFar"):pz V:=by
 refine Tx.okXW T Dc (λds R RX h=>?_) (λf cdv A outer s H E J hr hx=>⟨_,((aj (aP (fJ (jR rfl JR (ac (eA uM (ac (aa 0) ae)) (ac (eA uM (ac (aa 1) ae)) ae))) (eQ N7)) (aj (rX N8 hx rfl (ac ay ae))) aG))),λds R RX b7 h=>?_⟩)
 .obtain⟨_,_,rfl,_⟩:=h;rfl
 .obtain⟨x,y,rfl,h1,h2⟩:=h;refine ite2 (λc=>?_) (λc=>?_)
  .have c':=of_decide_eq_true c;refine⟨by show(1:Nat)<=1000;decide,?_⟩;rw[b7];refine h2 λ⟨⟨a1,a2⟩,a3,a4⟩=>?_;split at c'<;>split at c'<;>split at c'<;>lia
  .have c':¬ _:=λz=>c (decide_eq_true z);refine h1 ?_;unfold bu;split at c'<;>split at c'<;>split at c'<;>lia
def ok_Motif_shows(hL:1<=n)(T:V.Tm "Motif" "shows" "Motif.shows" iD cz)(uT:fB V)(Jq:V.a "Motif" "hues")(uK:V.a "Motif" "shifts"):V.Q (n+1) "Motif" "shows" cz (ofX (bX (j+1) "Motif")):=by
 refine Txm.okM T Dd (λds M R RX h=>?_) (λf cdv A outer s H E J hr hx=>⟨_,((aE (aQ (Ax (qO hr) (aO Jq (ao (aa 0))) (aW (bg (hn:=by omega) (CalD.toM uT) hx hr (aW (aO uK (ao (aa 0))) (aW (ao (aa 1)) (aW (ao (aa 2)) bt)))) (aW (ao ad) bt)))))),λds M R RX b7 h=>?_⟩)
 .obtain⟨_,_,_,_,_,rfl,_⟩:=h;rfl
 .obtain⟨p,k,v,X,Y,rfl,hv,e_,hd,hc,hR⟩:=h;cases p with
  |over p q=>exact absurd (show("Over":D')="Motif" from hc) (by decide+kernel)
  |sh a b p=>exact absurd (show("Shifted":D')="Motif" from hc) (by decide+kernel)
  |mir p=>exact absurd (show("Mirror":D')="Motif" from hc) (by decide+kernel)
  |tur p=>exact absurd (show("Turn":D')="Motif" from hc) (by decide+kernel)
  |hue f g p=>exact absurd (show("Rehue":D')="Motif" from hc) (by decide+kernel)
  |mot L a b c d=>
   obtain⟨sh,hu,rfl,h0,h1⟩:=hv;obtain⟨hL,ha,hb,Je,e8,hn⟩:=e_;obtain⟨w,h,s,F,rfl,rfl⟩:=h1 hn;unfold B12 at ha hb Je e8;obtain⟨b1,b2,b3⟩:=F.bd (N:=288) (by
    have m1:=bA (a:=a) (d:=d) (A:=12) (B:=12) (by lia) (by lia);have m2:=bA (a:=b) (d:=c) (A:=12) (B:=12) (by lia) (by lia);lia)
   refine⟨_,⟨rfl,rfl⟩,_,Cb,_,⟨rfl,rfl⟩,_,kJ,w,h,s,X,Y,rfl,F.1,F.2.1,by lia,F.2.2.1,by lia,?_⟩;have e:=motif_shows hL F hn X Y;rw[Pat.show] at hR;rw[<- e] at hR;exact hR
def EK(hL:1<=n)(T:V.Tm "Over" "shows" "Over.shows" iE iF)(uS:V.a "Over" "above")(uN:V.a "Over" "below")(uF:∀ x,x∈(["Motif","Over","Shifted","Mirror","Turn","Rehue"]:List D')->V.Q n x "shows" cz (ofX (bX j x))):V.Q (n+1) "Over" "shows" iF (ofX (bX (j+1) "Over")):=by
 refine Txm.okM T sc_Over_shows (λds M R RX h=>?_) (λf cdv A outer s H E J hr hx=>⟨_,((aB (bj 3 sc_Over_shows.nd (bb (hn:=by omega) uF hx hr (aO uS (ao (aa 0))) (aD (ac (aa 1) (ac (aa 2) ae)))))
   (aE (aQ (fP (cm (aY (aa 3) ad)) (bb (hn:=by omega) uF hx hr (aO uN (ao (aa 0))) (aD (ac (aa 1) (ac (aa 2) ae)))) (ao (aa 3))))))),λds M R RX b7 h=>?_⟩)
 .obtain⟨_,_,_,_,_,rfl,_⟩:=h;rfl
 .obtain⟨p,k,v,X,Y,rfl,hv,e_,hd,hc,hR⟩:=h;cases p with
  |mot L a b c d=>exact absurd (show("Motif":D')="Over" from hc) (by decide+kernel)
  |sh a b p=>exact absurd (show("Shifted":D')="Over" from hc) (by decide+kernel)
  |mir p=>exact absurd (show("Mirror":D')="Over" from hc) (by decide+kernel)
  |tur p=>exact absurd (show("Turn":D')="Over" from hc) (by decide+kernel)
  |hue f g p=>exact absurd (show("Rehue":D')="Over" from hc) (by decide+kernel)
  |over p q=>
   obtain⟨u,u',rfl,hu,Lr⟩:=hv;obtain⟨fs,rfl,_,hf⟩:=hu.objm;obtain⟨gs,rfl,_,hg⟩:=Lr.objm;rw[Pat.depth] at hd;refine⟨λd M'=>d= .int (p.show X Y)/\M'=M,⟨_,⟨rfl,rfl⟩,_,rfl,p.cls,p.cls_mem,fs,⟨rfl,rfl⟩,hf,p,_,_,X,Y,rfl,hu,e_.1,by lia,rfl,rfl,rfl⟩,?_⟩;rintro _ _ ⟨rfl,rfl⟩;k_places;rw[Pat.show] at hR;show if decide (p.show X Y=0)=true then _ else _
   refine ite2 (λe=>?_) (λe=>?_)
   .have e':=of_decide_eq_true e;rw[if_neg (λz=>z e')] at hR;exact⟨_,⟨rfl,rfl⟩,_,fu (by decide+kernel),q.cls,q.cls_mem,gs,⟨rfl,rfl⟩,hg,q,_,_,X,Y,rfl,Lr,e_.2,by lia,rfl,hR⟩
   .have e':p.show X Y≠0:=λz=>e (decide_eq_true z);rw[if_pos e'] at hR;exact hR
def EL(hL:1<=n)(T:V.Tm "Shifted" "shows" "Shifted.shows" iG iH)(uP:V.a "Shifted" "form")(Js:V.a "Shifted" "y")(Jr:V.a "Shifted" "x")(uF:∀ x,x∈(["Motif","Over","Shifted","Mirror","Turn","Rehue"]:List D')->V.Q n x "shows" cz (ofX (bX j x))):V.Q (n+1) "Shifted" "shows" iH (ofX (bX (j+1) "Shifted")):=by
 refine Txm.okM T De (λds M R RX h=>?_) (λf cdv A outer s H E J hr hx=>⟨_,((aE (aQ (bb (hn:=by omega) uF hx hr (aO uP (ao (aa 0))) (aW (kh (ao (aa 1)) (aO Jr (ao (aa 0)))) (aW (kh (ao (aa 2)) (aO Js (ao (aa 0)))) bt)))))),λds M R RX b7 h=>?_⟩)
 .obtain⟨_,_,_,_,_,rfl,_⟩:=h;rfl
 .obtain⟨p,k,v,X,Y,rfl,hv,e_,hd,hc,hR⟩:=h;cases p with
  |mot L a b c d=>exact absurd (show("Motif":D')="Shifted" from hc) (by decide+kernel)
  |over p q=>exact absurd (show("Over":D')="Shifted" from hc) (by decide+kernel)
  |mir p=>exact absurd (show("Mirror":D')="Shifted" from hc) (by decide+kernel)
  |tur p=>exact absurd (show("Turn":D')="Shifted" from hc) (by decide+kernel)
  |hue f g p=>exact absurd (show("Rehue":D')="Shifted" from hc) (by decide+kernel)
  |sh a b p=>
   obtain⟨u,rfl,hu⟩:=hv;obtain⟨fs,rfl,_,hf⟩:=hu.objm;rw[Pat.depth] at hd;exact⟨_,⟨rfl,rfl⟩,_,rfl,p.cls,p.cls_mem,fs,⟨rfl,rfl⟩,hf,_,⟨rfl,rfl⟩,_,fu (by decide+kernel),_,⟨rfl,rfl⟩,_,kK (by decide+kernel) (by decide+kernel),p,_,_,X - a,Y - b,rfl,hu,e_.2.2,by lia,rfl,hR⟩
def EM(hL:1<=n)(T:V.Tm "Mirror" "shows" "Mirror.shows" iI iJ)(uQ:V.a "Mirror" "form")(uF:∀ x,x∈(["Motif","Over","Shifted","Mirror","Turn","Rehue"]:List D')->V.Q n x "shows" cz (ofX (bX j x))):V.Q (n+1) "Mirror" "shows" iJ (ofX (bX (j+1) "Mirror")):=by
 refine Txm.okM T Df (λds M R RX h=>?_) (λf cdv A outer s H E J hr hx=>⟨_,((aE (aQ (bb (hn:=by omega) uF hx hr (aO uQ (ao (aa 0))) (aD (ac (cb (aa 1)) (ac (aa 2) ae))))))),λds M R RX b7 h=>?_⟩)
 .obtain⟨_,_,_,_,_,rfl,_⟩:=h;rfl
 .obtain⟨p,k,v,X,Y,rfl,hv,e_,hd,hc,hR⟩:=h;cases p with
  |mot L a b c d=>exact absurd (show("Motif":D')="Mirror" from hc) (by decide+kernel)
  |over p q=>exact absurd (show("Over":D')="Mirror" from hc) (by decide+kernel)
  |sh a b p=>exact absurd (show("Shifted":D')="Mirror" from hc) (by decide+kernel)
  |tur p=>exact absurd (show("Turn":D')="Mirror" from hc) (by decide+kernel)
  |hue f g p=>exact absurd (show("Rehue":D')="Mirror" from hc) (by decide+kernel)
  |mir p=>
   obtain⟨u,rfl,hu⟩:=hv;obtain⟨fs,rfl,_,hf⟩:=hu.objm;rw[Pat.depth] at hd;exact⟨_,⟨rfl,rfl⟩,_,rfl,p.cls,p.cls_mem,fs,⟨rfl,rfl⟩,hf,p,_,_,-X,Y,rfl,hu,e_,by lia,rfl,hR⟩
def EN(hL:1<=n)(T:V.Tm "Turn" "shows" "Turn.shows" iK iL)(uR:V.a "Turn" "form")(uF:∀ x,x∈(["Motif","Over","Shifted","Mirror","Turn","Rehue"]:List D')->V.Q n x "shows" cz (ofX (bX j x))):V.Q (n+1) "Turn" "shows" iL (ofX (bX (j+1) "Turn")):=by
 refine Txm.okM T Dg (λds M R RX h=>?_) (λf cdv A outer s H E J hr hx=>⟨_,((aE (aQ (bb (hn:=by omega) uF hx hr (aO uR (ao (aa 0))) (aD (ac (aa 2) (ac (cb (aa 1)) ae))))))),λds M R RX b7 h=>?_⟩)
 .obtain⟨_,_,_,_,_,rfl,_⟩:=h;rfl
 .obtain⟨p,k,v,X,Y,rfl,hv,e_,hd,hc,hR⟩:=h;cases p with
  |mot L a b c d=>exact absurd (show("Motif":D')="Turn" from hc) (by decide+kernel)
  |over p q=>exact absurd (show("Over":D')="Turn" from hc) (by decide+kernel)
  |sh a b p=>exact absurd (show("Shifted":D')="Turn" from hc) (by decide+kernel)
  |mir p=>exact absurd (show("Mirror":D')="Turn" from hc) (by decide+kernel)
  |hue f g p=>exact absurd (show("Rehue":D')="Turn" from hc) (by decide+kernel)
  |tur p=>
   obtain⟨u,rfl,hu⟩:=hv;obtain⟨fs,rfl,_,hf⟩:=hu.objm;rw[Pat.depth] at hd;exact⟨_,⟨rfl,rfl⟩,_,rfl,p.cls,p.cls_mem,fs,⟨rfl,rfl⟩,hf,p,_,_,Y,-X,rfl,hu,e_,by lia,rfl,hR⟩
def EO(hL:1<=n)(T:V.Tm "Rehue" "shows" "Rehue.shows" iM iN)(uO:V.a "Rehue" "form")(Jt:V.a "Rehue" "old")(Ju:V.a "Rehue" "new")(uF:∀ x,x∈(["Motif","Over","Shifted","Mirror","Turn","Rehue"]:List D')->V.Q n x "shows" cz (ofX (bX j x))):V.Q (n+1) "Rehue" "shows" iN (ofX (bX (j+1) "Rehue")):=by
 refine Txm.okM T sc_Rehue_shows (λds M R RX h=>?_) (λf cdv A outer s H E J hr hx=>⟨_,((aB (bj 3 sc_Rehue_shows.nd (bb (hn:=by omega) uF hx hr (aO uO (ao (aa 0))) (aD (ac (aa 1) (ac (aa 2) ae)))))
   (aE (aQ (fP (gW (ao (aa 3)) (aO Jt (ao (aa 0)))) (aO Ju (ao (aa 0))) (ao (aa 3))))))),λds M R RX b7 h=>?_⟩)
 .obtain⟨_,_,_,_,_,rfl,_⟩:=h;rfl
 .obtain⟨p,k,v,X,Y,rfl,hv,e_,hd,hc,hR⟩:=h;cases p with
  |mot L a b c d=>exact absurd (show("Motif":D')="Rehue" from hc) (by decide+kernel)
  |over p q=>exact absurd (show("Over":D')="Rehue" from hc) (by decide+kernel)
  |sh a b p=>exact absurd (show("Shifted":D')="Rehue" from hc) (by decide+kernel)
  |mir p=>exact absurd (show("Mirror":D')="Rehue" from hc) (by decide+kernel)
  |tur p=>exact absurd (show("Turn":D')="Rehue" from hc) (by decide+kernel)
  |hue f g p=>
   obtain⟨u,rfl,hu⟩:=hv;obtain⟨fs,rfl,_,hf⟩:=hu.objm;rw[Pat.depth] at hd;refine⟨λd M'=>d= .int (p.show X Y)/\M'=M,⟨_,⟨rfl,rfl⟩,_,rfl,p.cls,p.cls_mem,fs,⟨rfl,rfl⟩,hf,p,_,_,X,Y,rfl,hu,e_.2.2,by lia,rfl,rfl,rfl⟩,?_⟩;rintro _ _ ⟨rfl,rfl⟩;k_places;rw[Pat.show] at hR;unfold bC at hR;refine⟨_,⟨rfl,rfl⟩,_,fu (by decide+kernel),ite2 (λe=>?_) (λe=>?_)⟩
   .rw[if_pos (of_decide_eq_true e)] at hR;exact⟨_,⟨rfl,rfl⟩,_,kK (by decide+kernel) (by decide+kernel),hR⟩
   .rw[if_neg (λz=>e (decide_eq_true z))] at hR;exact hR
def EQ(Pz:V.Tm "Motif" "shows" "Motif.shows" iD cz)(PB:V.Tm "Over" "shows" "Over.shows" iE iF)(PC:V.Tm "Shifted" "shows" "Shifted.shows" iG iH)(PD:V.Tm "Mirror" "shows" "Mirror.shows" iI iJ)(PF:V.Tm "Turn" "shows" "Turn.shows" iK iL)(PH:V.Tm "Rehue" "shows" "Rehue.shows" iM iN)(uT:fB V)(Jq:V.a "Motif" "hues")(uK:V.a "Motif" "shifts")(uS:V.a "Over" "above")(uN:V.a "Over" "below")(uP:V.a "Shifted" "form")(Js:V.a "Shifted" "y")(Jr:V.a "Shifted" "x")(uQ:V.a "Mirror" "form")(uR:V.a "Turn" "form")(uO:V.a "Rehue" "form")(Jt:V.a "Rehue" "old")(Ju:V.a "Rehue" "new"):∀ j x,x∈(["Motif","Over","Shifted","Mirror","Turn","Rehue"]:List D')->V.Q (1+j) x "shows" cz (ofX (bX j x)):=by
 intro j;induction j with
 |zero=>
  intro x hx;simp only[Fp,Gd,or_false] at hx;rcases hx with rfl|rfl|rfl|rfl|rfl|rfl
  .exact CalMth.never Pz (λds M R RX=>fz)
  .exact CalMth.never PB (λds M R RX=>fz)
  .exact CalMth.never PC (λds M R RX=>fz)
  .exact CalMth.never PD (λds M R RX=>fz)
  .exact CalMth.never PF (λds M R RX=>fz)
  .exact CalMth.never PH (λds M R RX=>fz)
 |succ j Lx=>
  intro x hx;simp only[Fp,Gd,or_false] at hx;rcases hx with rfl|rfl|rfl|rfl|rfl|rfl
  .exact ok_Motif_shows (n:=1+j) (j:=j) (by omega) Pz uT Jq uK
  .exact EK (n:=1+j) (j:=j) (by omega) PB uS uN Lx
  .exact EL (n:=1+j) (j:=j) (by omega) PC uP Js Jr Lx
  .exact EM (n:=1+j) (j:=j) (by omega) PD uQ Lx
  .exact EN (n:=1+j) (j:=j) (by omega) PF uR Lx
  .exact EO (n:=1+j) (j:=j) (by omega) PH uO Jt Ju Lx
abbrev vj(V:Bx):Prop:=∀ x,x∈(["Motif","Over","Shifted","Mirror","Turn","Rehue"]:List D')->V.Q 7 x "shows" cz (ofX (bX 6 x))
abbrev js(V:Bx):Prop:=V.X 8 "cell_at" nX Cn
def ER(T:V.T "cell_at" nW nX)(N9:pz V)(Kj:V.a "Pattern" "form")(uF:vj V):js V:=by
 refine CalMM.nilX (Tx.okM T Dh (λds M R RX h=>?_) (λf cdv A outer s H E J hr hx=>⟨_,((aB (cx (bg (CalX.toM N9) hx hr (aD (ac (aa 1) (ac (aa 2) ae)))))
   (aE (aQ (bb uF hx hr (aO Kj (ao (aa 0))) (aD (ac (aa 1) (ac (aa 2) ae)))))))),λds M R RX b7 h=>?_⟩))
 .obtain⟨_,R0,IR,⟨_,_,_,_,rfl,_⟩,_⟩:=h;rfl
 .obtain⟨rfl,R0,IR,⟨p,d,x,y,rfl,⟨w,h,s,fs,rfl,e1,e2,hp⟩,ok,h1,h2⟩,hR,hX⟩:=h;obtain⟨k,v,e3,hv⟩:=hp.form;obtain⟨gs,rfl,_,hg⟩:=hv.objm;have RN:=ok.deep;refine⟨x,y,rfl,λhn=>?_,λhn=>?_⟩
  .exact⟨_,⟨rfl,rfl⟩,_,e3,p.cls,p.cls_mem,gs,⟨rfl,rfl⟩,hg,p,k,_,x,y,rfl,hv,ok.wf,by lia,rfl,hR _ _ (h1 hn)⟩
  .rw[b7];exact hX _ _ _ (h2 hn)
abbrev pA(V:Bx):Prop:=V.D 9 "row_from" nY Co
def ES(T:V.T "row_from" iO nY)(uA:V.m "range")(J0:js V)(uW:V.gs "SIGNS" ".123456"):pA V:=by
 refine Tx.okDW T Di (λds R h=>?_) (λf cdv A outer s H E J hr=>⟨_,((aj (ar (jS (jW rfl (compScope (by change cM _ (ag iO) ["pattern","x","y","many"] _=true;decide+kernel)) uA (aa 3) (λcl s0 H0 fp=>(af (gP uW) (aq (CalX.no J0) hr (ac (aa 0) (ac (am (aa 1) (aa 4)) (ac (aa 2) ae))))))))))),λds R h=>?_⟩)
 .obtain⟨_,_,_,_,_,rfl,_⟩:=h;rfl
 .obtain⟨p,d,x,y,n,rfl,hd,ok,hn,LO,u6,hy,hR⟩:=h;obtain⟨w,h,s,fs,rfl,_⟩:=id hd;refine⟨⟨by lia,by lia⟩,by rw[bB];lia,λk ys=>ys=(Ft k).map λ(i:Nat)=>D.str ⟨#[bO (p.show (x+(i:Int)) y)]⟩,rfl,?_,?_⟩
  .rintro k v ys hk hl rfl;obtain⟨q_,rfl⟩:=bK hk;obtain⟨b0,b6⟩:=Pat.show_le ok.wf (by have:=ok.deep;lia) (x+(k:Int)) y;unfold bu at LO u6;refine⟨p,.obj "Pattern" fs,x+(k:Int),y,rfl,hd,ok,λ_=>?_,λz=>z ⟨⟨by lia,by lia⟩,hy⟩⟩;refine⟨_,⟨by decide,ul b0 b6⟩,?_⟩;show _=GM _ (Ft (k+1));rw[GO,FX];rfl
  .rintro ys hl rfl;rw[bB,G2];have e1:((Ft n).map λ(i:Nat)=>D.str ⟨#[bO (p.show (x+(i:Int)) y)]⟩)=((Ft n).map λ(i:Nat)=>(⟨#[bO (p.show (x+(i:Int)) y)]⟩:D')).map D.str:=by rw[Ha];rfl
   rw[e1];refine⟨_,hU _,?_,?_⟩
   .have e2:(((Ft n).map λ(i:Nat)=>(⟨#[bO (p.show (x+(i:Int)) y)]⟩:D')).map (·.length)).sum=n*1:=by
     rw[kA (w:=1) (λl hl=>by obtain⟨i,_,rfl⟩:=FP.mp hl;rfl),Fs,HH]
    rw[e2,show("":D').length=0 from rfl];simp;lia
   .rw[show Txt.join "" ((Ft n).map λ(i:Nat)=>(⟨#[bO (p.show (x+(i:Int)) y)]⟩:D'))=aI p x y n from(StrLaws.glued_eq_join _ _).trans (uo (λi=>bO (p.show (x+(i:Int)) y)) n)];exact hR
abbrev pB(V:Bx):Prop:=V.D 10 "field_rows" nZ Cu
def ET(T:V.T "field_rows" iP nZ)(uA:V.m "range")(N_:pA V)(uY:V.a "Pattern" "shifts"):pB V:=by
 refine Tx.okDW T Dj (λds R h=>?_) (λf cdv A outer s H E J hr=>⟨_,((aj (ar (jW rfl (compScope (by change cM _ (ag iP) ["pattern"] _=true;decide+kernel)) uA (af (jX uY (aa 0)) ad) (λcl s0 H0 fp=>(aq N_ hr (ac (aa 0) (ac ad (ac (aa 1) (ac (af (jX uY (aa 0)) ad) ae)))))))))),λds R h=>?_⟩)
 .obtain⟨_,_,rfl,_⟩:=h;rfl
 .obtain⟨p,d,rfl,hd,ok,hR⟩:=h;obtain⟨w,h,s,fs,rfl,e1,e2,hp⟩:=id hd;have F:=hp.toFam;have sm:=ok.fits.small F;have wh:w*h<=720:=by
   obtain⟨w',h',s',f',hb⟩:=ok.fits;obtain⟨rfl,rfl,_⟩:=F.uniq f';exact hb
  refine⟨rfl,_,e2,_,rfl,⟨by lia,by lia⟩,by rw[bB];lia,λk ys=>ys=(Ft k).map λ(y:Nat)=>D.str (aI p 0 (y:Int) w.toNat),rfl,?_,?_⟩
  .rintro k v ys hk hl rfl;obtain⟨q_,rfl⟩:=bK hk;refine⟨rfl,_,e2,_,rfl,p,.obj "Pattern" fs,0,k,w.toNat,by rw[F5 (by lia)],hd,ok,by lia,⟨by lia,by lia⟩,⟨by lia,by lia⟩,⟨by lia,by lia⟩,?_⟩;show _=GM _ (Ft (k+1));rw[GO,FX];rfl
  .rintro ys hl rfl;rw[bB];exact hR w h s F wh sm.2.1 sm.2.2.2.1
abbrev C_measures(V:Bx):Prop:=V.D 1 "measures" oa CA
def EU(T:V.T "measures" iQ oa)(uA:V.m "range"):C_measures V:=by
 refine Tx.okDW T Dk (λds R h=>?_) (λf cdv A outer s H E J hr=>⟨_,((aj (ar (AB rfl (compScope (by change cM _ (ag iQ) ["number"] _=true;decide+kernel)) uA ad (am (aa 0) ad) (λcl s0 H0 fp=>(aY (aw (aa 0) (aa 1)) ad)) (λcl s0 H0 fp=>(aa 1)))))),λds R h=>?_⟩)
 .obtain⟨_,rfl,_⟩:=h;rfl
 .obtain⟨n,rfl,n0,n1,hR⟩:=h;refine⟨⟨by lia,by lia,by lia,by lia⟩,by simp;lia,λk ys=>∃ ns:List Int,ys=ns.map D.int/\ns.length<=k/\∀ m,m∈ns↔1<=m/\m<=k/\n % m=0,⟨[],rfl,Fo _,λm=>by simp;lia⟩,?_,?_⟩
  .rintro k v ys hk ⟨ns,rfl,hl,hm⟩;k_places;obtain⟨q_,rfl⟩:=range2_int hk;refine⟨by lia,?_⟩;refine okF (λc=>?_) (λc=>?_)
   .have c':=of_decide_eq_true c;refine⟨ns++[1+(k:Int)],by simp,by simp;lia,λm=>?_⟩;rw[FO,hm,Fl];constructor
    .rintro(q|rfl)
     .lia
     .exact⟨by lia,by lia,c'⟩
    .rintro⟨a,b,c⟩;by_cases e:m=1+(k:Int)
     .exact .inr e
     .exact .inl ⟨a,by lia,c⟩
   .have c':=of_decide_eq_false c;refine⟨ns,rfl,by lia,λm=>?_⟩;rw[hm];constructor
    .rintro⟨a,b,c⟩;exact⟨a,by lia,c⟩
    .rintro⟨a,b,c⟩;refine⟨a,?_,c⟩;by_cases e:m=1+(k:Int)
     .subst e;exact absurd c c'
     .lia
  .rintro ys ⟨ns,rfl,hl,hm⟩;k_places;have e:((Ft (n+1 - 1).toNat).map λk=>D.int (1+((k:Nat):Int))).length=n.toNat:=by simp
   rw[e] at hl hm;exact hR ns (by lia) λm=>by rw[hm];lia
abbrev pC(V:Bx):Prop:=V.D 2 "round_row" oh Cw
def EV(T:V.T "round_row" og oh)(uT:fB V):pC V:=by
 refine Tx.okDW T sc_round_row (λds R h=>?_) (λf cdv A outer s H E J hr=>⟨_,((ah (ai 4 sc_round_row.nd (aq uT hr (ac (aa 0) (ac (aa 2) (ac (aa 3) ae)))))
   (ah (ai 5 sc_round_row.nd (af (aa 1) (af (aa 4) ad)))
   (aj (ar (am (cP (aa 5) (cO (af (aa 4) ad)) cN) (cP (aa 5) cN (cO (af (aa 4) ad))))))))),λds R h=>?_⟩)
 .obtain⟨_,_,_,_,_,_,rfl,_⟩:=h;rfl
 .obtain⟨p,w,h,s,x,y,rfl,F,w7,h7,hR⟩:=h;have f:=F.f;have y0:=FU y (show h≠0 by have:=f.h0;lia);have y1:=FV y f.h0;refine⟨λd=>d= .tup [.int (hmX w h s x y),.int (y % h)],⟨w,h,s,x,y,rfl,f.w0,f.h0,by lia,f.s0,by have:=f.sw;lia,rfl⟩,?_⟩;rintro _ rfl;k_places;refine⟨λd=>d= .str (aI p 0 (y % h) w.toNat),⟨_,rfl,_,?_,rfl⟩,?_⟩
  .have e:y % h=(((y % h).toNat:Nat):Int):=by lia
   rw[e];exact bZ (by rw[FF,GI (by lia)];simp)
  rintro _ rfl;k_places;have l:=uk p 0 (y % h) w.toNat;refine⟨_,rfl,by lia,_,rfl,by lia,?_⟩;have e:=va f.w0 f.h0 (λ_ _ q=>F.keeps q) x y;refine⟨?_,?_⟩
  .rw[<- bp,<- bp,<- Fx,<- bv,e,dU];simp;lia
  .rw[e];exact hR
abbrev jt(V:Bx):Prop:=V.D 3 "changes_nothing" oj CB
def EW(T:V.T "changes_nothing" oi oj)(JX:V.m "enumerate")(Oa:pC V):jt V:=by
 refine Tx.okDW T sc_changes_nothing (λds R h=>?_) (λf cdv A outer s H E J hr=>⟨_,((ah (AG PassesOwn.never rfl JX (aa 1) (dg_cons 4 sc_changes_nothing.nd (dg_cons 5 sc_changes_nothing.nd cL)) (aj (aP (ce (aq Oa hr (ac (aa 0) (ac (aa 1) (ac (aa 2) (ac (am (aa 3) (aa 4)) ae))))) (aa 5)) (aj (ar ca)) aG)))
   (aj (ar ca)))),λds R h=>?_⟩)
 .obtain⟨_,_,_,_,_,_,rfl,_⟩:=h;rfl
 .obtain⟨p,w,h,s,x,y,rfl,ok,F,w7,h7,hR⟩:=h;have e0:∀ k:Nat,k<h.toNat->((Ft h.toNat).map λ(y:Nat)=>D.str (aI p 0 (y:Int) w.toNat))[k]?=be (.str (aI p 0 (k:Int) w.toNat)):=λk hk=>by simp[hk]
  refine⟨λk z=>∃ o1 o2,z=[be (.tup [.int w,.int h,.int s]),be (bP p w h),be (.int x),be (.int y),o1,o2]/\∀ j:Nat,j<k->aI p x (y+j) w.toNat=aI p 0 j w.toNat,⟨_,_,rfl,λj hj=>absurd hj (Gw j)⟩,?_,?_⟩
  .rintro k v z hk ⟨o1,o2,rfl,hj⟩;k_places;have q_:k<h.toNat:=by simpa using(FG.mp hk).1
   rw[e0 k q_] at hk;cases hk;refine⟨p,w,h,s,x,y+k,rfl,F,w7,h7,ite2 (λc=>?_) (λc=>?_)⟩
   .refine hR false ?_;have c':¬ aI p x (y+k) w.toNat=aI p 0 k w.toNat:=λz=>by simp[z] at c
    rw[<- ic ok F];exact⟨(λz=>nomatch z),λz=>absurd (z k q_) c'⟩
   .have c':aI p x (y+k) w.toNat=aI p 0 k w.toNat:=by simpa using c
    refine⟨_,_,rfl,λj Nz=>?_⟩;by_cases e:j=k
    .subst e;exact c'
    .exact hj j (by lia)
  .rintro z ⟨o1,o2,rfl,hj⟩;k_places;rw[show((Ft h.toNat).map λ(y:Nat)=>D.str (aI p 0 (y:Int) w.toNat)).length=h.toNat by simp] at hj;exact hR true ((ic ok F x y).mp hj|>λz=>⟨λ_=>z,λ_=>rfl⟩)
abbrev pD(V:Bx):Prop:=V.D 4 "least_width" ol CC
def EY(T:V.T "least_width" iR ol)(Km:V.m "min")(Kn:C_measures V)(Ko:jt V):pD V:=by
 refine Tx.okDW T Dl (λds R h=>?_) (λf cdv A outer s H E J hr=>⟨_,((aj (ar (sU rfl Km (ac (sT rfl (compScope (by change cM _ (ag iR) ["family","rows"] _=true;decide+kernel)) (aq Kn hr (ac (af (aa 0) ad) ae)) (λcl s0 H0 fp=>(cv (aq Ko hr (ac (aa 0) (ac (aa 1) (ac (aa 2) (ac ad ae))))))) (λcl s0 H0 fp=>(aa 2))) ae))))),λds R h=>?_⟩)
 .obtain⟨_,_,_,_,rfl,_⟩:=h;rfl
 .obtain⟨p,w,h,s,rfl,ok,F,w7,h7,hR⟩:=h;have w0:=F.f.w0;refine⟨_,rfl,w,rfl,w0,by lia,λns hl hm=>⟨by simp;lia,λk ys=>∃ ms:List Int,ys=ms.map D.int/\∀ m,m∈ms↔(∃ j:Nat,j<k/\ns[j]?=be m)/\p.Keeps m 0,⟨[],rfl,λm=>by simp⟩,?_,?_⟩⟩
  .rintro k v ys hk ⟨ms,rfl,z7⟩;k_places;obtain⟨m,em,rfl⟩:∃ m,ns[k]?=be m/\v= .int m:=by
    rw[FF] at hk;cases q:ns[k]? with
    |none=>rw[q] at hk;cases hk
    |some m=>rw[q] at hk;cases hk;exact⟨m,rfl,rfl⟩
   refine⟨p,w,h,s,m,0,rfl,ok,F,w7,h7,λb hb=>okF (λc=>?_) (λc=>?_)⟩
   .refine⟨ms++[m],by simp,λm'=>?_⟩;rw[FO,z7,Fl];constructor
    .rintro(⟨⟨j,h1,h2⟩,h3⟩|rfl)
     .exact⟨⟨j,by lia,h2⟩,h3⟩
     .exact⟨⟨k,by lia,em⟩,hb.mp c⟩
    .rintro⟨⟨j,h1,h2⟩,h3⟩;by_cases e:j=k
     .subst e;rw[em] at h2;cases h2;exact .inr rfl
     .exact .inl ⟨⟨j,by lia,h2⟩,h3⟩
   .refine⟨ms,rfl,λm'=>?_⟩;rw[z7];constructor
    .rintro⟨⟨j,h1,h2⟩,h3⟩;exact⟨⟨j,by lia,h2⟩,h3⟩
    .rintro⟨⟨j,h1,h2⟩,h3⟩;by_cases e:j=k
     .subst e;rw[em] at h2;cases h2;rw[hb.mpr h3] at c;cases c
     .exact⟨⟨j,by lia,h2⟩,h3⟩
  .rintro ys ⟨ms,rfl,z7⟩;k_places;rw[Fs] at z7;have p8:∀ m,m∈ms↔(1<=m/\m<=w/\w % m=0)/\p.Keeps m 0:=λm=>by
    rw[z7,<- hm,IL];constructor
    .rintro⟨⟨j,_,h2⟩,h3⟩;exact⟨⟨j,h2⟩,h3⟩
    .rintro⟨⟨j,h2⟩,h3⟩;exact⟨⟨j,(FG.mp h2).1,h2⟩,h3⟩
   have hw:w∈ms:=(p8 w).mpr ⟨⟨by lia,by lia,Int.emod_self⟩,F.keeps (InF.one w h s)⟩;refine⟨ms,rfl,IM hw,λm Ob y9=>hR m ?_⟩;obtain⟨⟨a,b,c⟩,d⟩:=(p8 m).mp Ob;exact⟨a,b,c,d,λd' h1 h2 h3 h4=>y9 d' ((p8 d').mpr ⟨⟨h1,h2,h3⟩,h4⟩)⟩
abbrev pE(V:Bx):Prop:=V.D 4 "slant_at" oq CD
def EZ(T:V.T "slant_at" om oq)(uA:V.m "range")(Ko:jt V):pE V:=by
 refine Tx.okDW T sc_slant_at (λds R h=>?_) (λf cdv A outer s H E J hr=>⟨_,((ah (bG 4 PassesOwn.never rfl sc_slant_at.nd uA (aa 2) (aj (aP (cv (aq Ko hr (ac (aa 0) (ac (aa 1) (ac (aa 4) (ac (aa 3) ae)))))) (aj (ar (aa 4))) aG)))
   (aj (ar bz)))),λds R h=>?_⟩)
 .obtain⟨_,_,_,_,_,_,rfl,_⟩:=h;rfl
 .obtain⟨p,w,h,s,m,y,rfl,ok,F,w7,h7,m0,m7,hR,hN⟩:=h;refine⟨⟨by lia,by lia⟩,λk z=>∃ o1,z=[be (.tup [.int w,.int h,.int s]),be (bP p w h),be (.int m),be (.int y),o1]/\∀ u,0<=u->u<(k:Int)->¬ p.Keeps u y,⟨_,rfl,λu a b=>by lia⟩,?_,?_⟩
  .rintro k v z hk ⟨o1,rfl,hj⟩;k_places;obtain⟨q_,rfl⟩:=bK hk;refine⟨p,w,h,s,k,y,rfl,ok,F,w7,h7,λb hb=>ite2 (λc=>?_) (λc=>?_)⟩
   .exact hR k (by lia) (by lia) (hb.mp c) hj
   .refine⟨_,rfl,λu a b'=>?_⟩;by_cases e:u=k
    .subst e;exact λz=>c (hb.mpr z)
    .exact hj u a (by lia)
  .rintro z ⟨o1,rfl,hj⟩;k_places;rw[bB] at hj;exact hN λt a b=>hj t a (by lia)
abbrev pF(V:Bx):Prop:=V.D 11 "least_shifts" ot CG
def E1(T:V.T "least_shifts" iS ot)(Km:V.m "min")(Oc:pB V)(Od:pD V)(Kn:C_measures V)(L5:pE V)(uY:V.a "Pattern" "shifts"):pF V:=by
 refine Tx.okDW T sc_least_shifts (λds R h=>?_) (λf cdv A outer s H E J hr=>⟨_,((ah (ai 1 sc_least_shifts.nd (jX uY (aa 0)))
   (ah (ai 2 sc_least_shifts.nd (aq Oc hr (ac (aa 0) ae)))
   (ah (ai 3 sc_least_shifts.nd (aq Od hr (ac (aa 1) (ac (aa 2) ae))))
   (ah (ai 4 sc_least_shifts.nd (sU rfl Km (ac (sT rfl (compScope (by change cM _ (ag iS) ["pattern","family","rows","width","height"] _=true;decide+kernel)) (aq Kn hr (ac (af (aa 1) ad) ae)) (λcl s0 H0 fp=>(gG (aq L5 hr (ac (aa 1) (ac (aa 2) (ac (aa 3) (ac (aa 5) ae))))) bz)) (λcl s0 H0 fp=>(aa 5))) ae)))
   (aj (ar (av (ac (aa 3) (ac (aa 4) (ac (aq L5 hr (ac (aa 1) (ac (aa 2) (ac (aa 3) (ac (aa 4) ae))))) ae))))))))))),λds R h=>?_⟩)
 .obtain⟨_,_,rfl,_⟩:=h;rfl
 .obtain⟨p,d,rfl,hd,ok,hR⟩:=h;obtain⟨w,h,s,fs,rfl,e1,e2,hp⟩:=id hd;have F:=hp.toFam;have sm:=ok.fits.small F;refine⟨λd=>d= .tup [.int w,.int h,.int s],⟨rfl,_,e2,rfl⟩,?_⟩;rintro _ rfl;k_places;refine⟨λd=>d=bP p w h/\w*h<=720,⟨p,_,rfl,hd,ok,λw' h' s' F' hb _ _=>?_⟩,?_⟩
  .obtain⟨rfl,rfl,rfl⟩:=F.uniq F';exact⟨rfl,hb⟩
  rintro _ ⟨rfl,hb⟩;k_places;obtain⟨w',h',s',L,d1,d2,NI,Pe,JT⟩:=Pat.least_ex F;have w0:=L.f.w0;have h0:=L.f.h0;refine⟨λd=>d= .int w',⟨p,w,h,s,rfl,ok,F,sm.2.1,sm.2.2.2.1,λm lw=>by rw[lw.eq F L]⟩,?_⟩;rintro _ rfl;k_places;refine⟨λd=>d= .int h',⟨_,rfl,h,rfl,sm.2.2.1,by lia,λns hl hm=>⟨by simp;lia,λk ys=>∃ ms:List Int,ys=ms.map D.int/\∀ m,m∈ms↔(∃ j:Nat,j<k/\ns[j]?=be m)/\∃ t,p.Keeps t m,⟨[],rfl,λm=>by simp⟩,?_,?_⟩⟩,?_⟩
  .rintro k v ys hk ⟨ms,rfl,z7⟩;k_places;obtain⟨m,em,rfl⟩:∃ m,ns[k]?=be m/\v= .int m:=by
    rw[FF] at hk;cases q:ns[k]? with
    |none=>rw[q] at hk;cases hk
    |some m=>rw[q] at hk;cases hk;exact⟨m,rfl,rfl⟩
   have Q9:(∃ t,p.Keeps t m)->∃ zs:List Int,ms.map D.int++[D.int m]=zs.map D.int/\∀ m,m∈zs↔(∃ j:Nat,j<k+1/\ns[j]?=be m)/\∃ t,p.Keeps t m:=λc=>by
    refine⟨ms++[m],by simp,λm'=>?_⟩;rw[FO,z7,Fl];constructor
    .rintro(⟨⟨j,h1,h2⟩,h3⟩|rfl)
     .exact⟨⟨j,by lia,h2⟩,h3⟩
     .exact⟨⟨k,by lia,em⟩,c⟩
    .rintro⟨⟨j,h1,h2⟩,h3⟩;by_cases e:j=k
     .subst e;rw[em] at h2;cases h2;exact .inr rfl
     .exact .inl ⟨⟨j,by lia,h2⟩,h3⟩
   refine⟨p,w,h,s,w',m,rfl,ok,F,sm.2.1,sm.2.2.2.1,by lia,by lia,λt _ _ kt _=>Q9 ⟨t,kt⟩,λno=>?_⟩;show ∃ zs:List Int,ms.map D.int=zs.map D.int/\∀ m,m∈zs↔(∃ j:Nat,j<k+1/\ns[j]?=be m)/\∃ t,p.Keeps t m;refine⟨ms,rfl,λm'=>?_⟩;rw[z7];constructor
   .rintro⟨⟨j,h1,h2⟩,h3⟩;exact⟨⟨j,by lia,h2⟩,h3⟩
   .rintro⟨⟨j,h1,h2⟩,h3⟩;by_cases e:j=k
    .subst e;rw[em] at h2;cases h2;obtain⟨t,kt⟩:=h3;exact absurd (L.row kt) (no _ (FU _ (by lia)) (FV _ w0))
    .exact⟨⟨j,by lia,h2⟩,h3⟩
  .rintro ys ⟨ms,rfl,z7⟩;k_places;rw[Fs] at z7;have p8:∀ m,m∈ms↔(1<=m/\m<=h/\h % m=0)/\∃ t,p.Keeps t m:=λm=>by
    rw[z7,<- hm,IL];constructor
    .rintro⟨⟨j,_,h2⟩,h3⟩;exact⟨⟨j,h2⟩,h3⟩
    .rintro⟨⟨j,h2⟩,h3⟩;exact⟨⟨j,(FG.mp h2).1,h2⟩,h3⟩
   have hh:h'∈ms:=(p8 h').mpr ⟨⟨by lia,JT,Int.emod_eq_zero_of_dvd d2⟩,s',(L.lat _ _).mp (InF.two _ _ _)⟩;refine⟨ms,rfl,IM hh,λm Ob y9=>?_⟩;obtain⟨⟨a,b,c⟩,t,kt⟩:=(p8 m).mp Ob;have h1:=(L.down kt (by lia)).1;have h2:=y9 h' hh;show D.int m=D.int h';rw[show m=h' by lia]
  rintro _ rfl;k_places;refine⟨p,w,h,s,w',h',rfl,ok,F,sm.2.1,sm.2.2.2.1,by lia,by lia,λt a b kt _=>⟨by show(3:Nat)<=1000;decide,?_⟩,λno=>absurd ((L.lat _ _).mp (InF.two _ _ _)) (no s' L.f.s0 L.f.sw)⟩;rw[L.slant a b kt];exact hR w' h' s' L (by lia) (by lia) (by lia)
def E2:SpX:=λds R RX=>∃ (p q:Pat) (d e:D),ds=[d,e]/\aZ p d/\aZ q e/\p.Ok/\q.Ok/\∀ w h s,ComF p q w h s->(w*h<=720->R (.tup [.int w,.int h,.int s]))/\(720<w*h->RX "TooGreat" [])
abbrev pG(V:Bx):Prop:=V.X 12 "common_field" ow E2
def E3(T:V.T "common_field" ou ow)(Jv:gk V)(L6:pF V)(Kk:V.gi "MOST" 720)(Kl:V.n "TooGreat"):pG V:=by
 refine Tx.okXW T sc_common_field (λds R RX h=>?_) (λf cdv A outer s H E J hr hx=>⟨_,((ah (ai 2 sc_common_field.nd (aq Jv hr (ac (aq L6 hr (ac (aa 0) ae)) (ac (aq L6 hr (ac (aa 1) ae)) ae))))
   (ah (aP (fJ (ax (af (aa 2) ad) (af (aa 2) ad)) (eQ Kk)) (aj (rX Kl hx rfl (ac ay ae))) aG)
   (aj (ar (aa 2)))))),λds R RX b7 h=>?_⟩)
 .obtain⟨_,_,_,_,rfl,_⟩:=h;rfl
 .obtain⟨p,q,d,e,rfl,hd,he,f8,b_,hR⟩:=h;obtain⟨wd,e8,sd,fs,rfl,q1,q2,Ja⟩:=hd;have hd:aZ p (.obj "Pattern" fs):=⟨wd,e8,sd,fs,rfl,q1,q2,Ja⟩;obtain⟨Jb,p9,Jc,i8,rfl,q3,q4,k7⟩:=he;have he:aZ q (.obj "Pattern" i8):=⟨Jb,p9,Jc,i8,rfl,q3,q4,k7⟩;refine⟨λx=>∃ w h s,x= .tup [.int w,.int h,.int s]/\ComF p q w h s/\w*h<=518400,⟨p,_,rfl,hd,f8,λw1 h1 s1 L1 Q_ a1 b1=>⟨q,_,rfl,he,b_,λw2 h2 s2 L2 Ra a2 b2=>⟨w1,h1,s1,w2,h2,s2,rfl,L1.f.w0,by omega,L1.f.h0,by omega,L1.f.s0,L1.f.sw,L2.f.w0,by omega,L2.f.h0,by omega,L2.f.s0,L2.f.sw,λw h s A M=>⟨w,h,s,rfl,ComF.of L1 L2 M,M.le2 L1.f L2.f Q_ Ra⟩⟩⟩⟩,?_⟩;rintro _ ⟨w,h,s,rfl,C,wh⟩;k_places;have pl:=ci C.f.w0 C.f.h0;have w0:=C.f.w0;refine⟨_,rfl,_,rfl,.inl ⟨by omega,by omega⟩,ite2 (λc=>?_) (λc=>?_)⟩
  .have c':=of_decide_eq_true c;refine⟨by show(1:Nat)<=1000;decide,?_⟩;rw[b7];exact(hR w h s C).2 c'
  .have c':¬ (720<w*h):=λz=>c (decide_eq_true z);exact(hR w h s C).1 (by omega)
def E4:SpD:=λds R=>∃ (p q:Pat) (d e:D) (w h:Int),ds=[d,e,.int w,.int h]/\aZ p d/\aZ q e/\p.Ok/\q.Ok/\0<=w/\w<=720/\0<=h/\h<=720/\((∀ x y:Int,0<=x->x<w->0<=y->y<h->p.show x y=q.show x y)->R .non)/\∀ x y:Int,0<=x->x<w->0<=y->y<h->p.show x y≠q.show x y->(∀ x' y':Int,0<=x'->x'<w->0<=y'->(y'<y\/(y'=y/\x'<x))->p.show x' y'=q.show x' y')->R (.tup [.int x,.int y])
abbrev pH(V:Bx):Prop:=V.D 9 "first_unlike" oz E4
def E5(T:V.T "first_unlike" oy oz)(uA:V.m "range")(J0:js V):pH V:=by
 refine Tx.okDW T sc_first_unlike (λds R h=>?_) (λf cdv A outer s H E J hr=>⟨_,((ah (bG 4 PassesOwn.never rfl sc_first_unlike.nd uA (aa 3) (aj (bG 5 PassesOwn.never rfl sc_first_unlike.nd uA (aa 2) (aj (aP (ce (aq (CalX.no J0) hr (ac (aa 0) (ac (aa 5) (ac (aa 4) ae)))) (aq (CalX.no J0) hr (ac (aa 1) (ac (aa 5) (ac (aa 4) ae))))) (aj (ar (av (ac (aa 5) (ac (aa 4) ae))))) aG)))))
   (aj (ar bz)))),λds R h=>?_⟩)
 .obtain⟨_,_,_,_,_,_,rfl,_⟩:=h;rfl
 .obtain⟨p,q,d,e,w,h,rfl,hd,he,f8,b_,w0,w7,h0,h7,hN,hS⟩:=h;obtain⟨wd,e8,sd,fs,rfl,q1,q2,Ja⟩:=hd;have hd:aZ p (.obj "Pattern" fs):=⟨wd,e8,sd,fs,rfl,q1,q2,Ja⟩;obtain⟨Jb,p9,Jc,i8,rfl,q3,q4,k7⟩:=he;have he:aZ q (.obj "Pattern" i8):=⟨Jb,p9,Jc,i8,rfl,q3,q4,k7⟩;refine⟨⟨by omega,by omega⟩,λk z=>∃ o4 o5,z=[be (.obj "Pattern" fs),be (.obj "Pattern" i8),be (.int w),be (.int h),o4,o5]/\∀ x y:Int,0<=x->x<w->0<=y->y<k->p.show x y=q.show x y,⟨_,_,rfl,λx y _ _ a b=>by omega⟩,?_,?_⟩
  .rintro k v z hk ⟨o4,o5,rfl,hj⟩;k_places;obtain⟨q_,rfl⟩:=bK hk;refine⟨⟨by omega,by omega⟩,λi z=>∃ o5,z=[be (.obj "Pattern" fs),be (.obj "Pattern" i8),be (.int w),be (.int h),be (.int k),o5]/\∀ x:Int,0<=x->x<i->p.show x k=q.show x k,⟨_,rfl,λx a b=>by omega⟩,?_,?_⟩
   .rintro i v z hi ⟨o5,rfl,g_⟩;k_places;obtain⟨Jn,rfl⟩:=bK hi;have nn:bu (i:Int)/\bu (k:Int):=⟨⟨by omega,by omega⟩,by omega,by omega⟩;refine⟨p,_,i,k,rfl,hd,f8,λ_=>⟨q,_,i,k,rfl,he,b_,λ_=>?_,λn=>n nn⟩,λn=>n nn⟩;refine ite2 (λc=>?_) (λc=>?_)
    .refine⟨by show(2:Nat)<=1000;decide,hS i k (by omega) (by omega) (by omega) (by omega) (λz=>by simp[z] at c) λx' y' a b c d=>?_⟩;rcases d with d|⟨rfl,d⟩
     .exact hj x' y' a b c (by omega)
     .exact g_ x' a (by omega)
    .have c':p.show i k=q.show i k:=by simpa using c
     refine⟨_,rfl,λx a b=>?_⟩;by_cases e:x=i
     .rw[e];exact c'
     .exact g_ x a (by omega)
   .rintro z ⟨o5,rfl,g_⟩;k_places;rw[bB] at g_;refine⟨_,_,rfl,λx y a b c d=>?_⟩;by_cases e:y=k
    .rw[e];exact g_ x a (by omega)
    .exact hj x y a b c (by omega)
  .rintro z ⟨o4,o5,rfl,hj⟩;k_places;rw[bB] at hj;exact hN λx y a b c d=>hj x y a b c (by omega)
def vk:SpX:=λds R RX=>∃ (p q:Pat) (d e:D),ds=[d,e]/\aZ p d/\aZ q e/\p.Ok/\q.Ok/\∀ w h s,ComF p q w h s->(720<w*h->RX "TooGreat" [])/\(w*h<=720->((∀ x y:Int,p.show x y=q.show x y)->R .non)/\∀ x y:Int,0<=x->x<w->0<=y->y<h->p.show x y≠q.show x y->(∀ x' y':Int,0<=x'->x'<w->0<=y'->(y'<y\/(y'=y/\x'<x))->p.show x' y'=q.show x' y')->R (.tup [.int x,.int y]))
abbrev pI(V:Bx):Prop:=V.X 13 "first_parting" oB vk
def E6(T:V.T "first_parting" oA oB)(Oe:pG V)(Of:pH V):pI V:=by
 refine Tx.okXW T sc_first_parting (λds R RX h=>?_) (λf cdv A outer s H E J hr hx=>⟨_,((ah (ai 2 sc_first_parting.nd (rV Oe hx hr (ac (aa 0) (ac (aa 1) ae))))
   (aj (ar (aq Of hr (ac (aa 0) (ac (aa 1) (ac (af (aa 2) ad) (ac (af (aa 2) ad) ae))))))))),λds R RX b7 h=>?_⟩)
 .obtain⟨_,_,_,_,rfl,_⟩:=h;rfl
 .obtain⟨p,q,d,e,rfl,hd,he,f8,b_,hR⟩:=h;obtain⟨wd,e8,sd,fs,rfl,q1,q2,Ja⟩:=hd;have hd:aZ p (.obj "Pattern" fs):=⟨wd,e8,sd,fs,rfl,q1,q2,Ja⟩;obtain⟨Jb,p9,Jc,i8,rfl,q3,q4,k7⟩:=he;have he:aZ q (.obj "Pattern" i8):=⟨Jb,p9,Jc,i8,rfl,q3,q4,k7⟩;refine⟨λx=>∃ w h s,x= .tup [.int w,.int h,.int s]/\ComF p q w h s/\w*h<=720,⟨p,q,_,_,rfl,hd,he,f8,b_,λw h s C=>⟨λwh=>⟨w,h,s,rfl,C,wh⟩,λwh=>by rw[b7];exact(hR w h s C).1 wh⟩⟩,?_⟩;rintro _ ⟨w,h,s,rfl,C,wh⟩;k_places;have pl:=ci C.f.w0 C.f.h0;have w0:=C.f.w0;have h0:=C.f.h0;obtain⟨r1,r2⟩:=(hR w h s C).2 wh;exact⟨_,rfl,_,rfl,p,q,_,_,w,h,rfl,hd,he,f8,b_,by omega,by omega,by omega,by omega,λe=>r1 λx y=>C.all e x y,r2⟩
def E7:SpD:=λds R=>∃ (p q:Pat) (d e:D),ds=[d,e]/\aZ p d/\aZ q e/\p.Ok/\q.Ok/\∀ t x,Told p q t x->R (.lst [.bl t,x])
abbrev vm(V:Bx):Prop:=V.Ek ["MotifError","WrongSign","OneLine","TooGreat","TooFar"]
abbrev pJ(V:Bx):Prop:=V.D 14 "_law_told" oE E7
def E8(T:V.T "_law_told" oC oE)(Og:pI V)(ek:vm V):pJ V:=by
 refine Tx.okDW T sc__law_told (λds R h=>?_) (λf cdv A outer s H E J hr=>⟨_,((ah (ai 2 sc__law_told.nd bz)
   (ah (ai 3 sc__law_told.nd ca)
   (ah (zz (λpn xe J hp hx=>(aj (ai 2 sc__law_told.nd (rV Og hx hr (ac (aa 0) (ac (aa 1) ae)))))) (zl ek (λe=>(aj (ai 3 sc__law_told.nd ca))) zk))
   (aj (ar (aL (ac (aa 3) (ac (aa 2) ae))))))))),λds R h=>?_⟩)
 .obtain⟨_,_,_,_,rfl,_⟩:=h;rfl
 .obtain⟨p,q,d,e,rfl,hd,he,f8,b_,hR⟩:=h;obtain⟨wd,e8,sd,fs,rfl,q1,q2,Ja⟩:=hd;have hd:aZ p (.obj "Pattern" fs):=⟨wd,e8,sd,fs,rfl,q1,q2,Ja⟩;obtain⟨Jb,p9,Jc,i8,rfl,q3,q4,k7⟩:=he;have he:aZ q (.obj "Pattern" i8):=⟨Jb,p9,Jc,i8,rfl,q3,q4,k7⟩;refine⟨λx=>x= .non,rfl,?_⟩;rintro _ rfl;k_places;refine⟨λx=>x= .bl false,rfl,?_⟩;rintro _ rfl;k_places;refine⟨λz x j5=>z=[be (.obj "Pattern" fs),be (.obj "Pattern" i8),be .non,be (.bl false)]/\x="TooGreat"/\Told p q true .non,λJ' hJ=>?_,?_⟩
  .refine⟨λx=>Told p q false x,?_,?_⟩
   .show vk [.obj "Pattern" fs,.obj "Pattern" i8] _ (J'.RX _);rw[hJ];exact⟨p,q,_,_,rfl,hd,he,f8,b_,λw h s C=>⟨λbig=>⟨rfl,rfl,.big C big⟩,λwh=>⟨λe=> .same C wh e,λx y a b c d ne bf=> .part C wh ⟨a,b,c,d,ne,bf⟩⟩⟩⟩
   rintro x hx;cases hx with
   |same c b e=>exact⟨by show(2:Nat)<=1000;decide,hR false _ (.same c b e)⟩
   |part c b f=>exact⟨by show(2:Nat)<=1000;decide,hR false _ (.part c b f)⟩
  .rintro z x j5 ⟨rfl,rfl,hx⟩;k_places;refine⟨⟨by decide,by decide⟩,?_⟩;rw[if_pos (by decide+kernel)];refine⟨λx=>x= .bl true,rfl,?_⟩;rintro _ rfl;k_places;exact⟨by show(2:Nat)<=1000;decide,hR true _ hx⟩
def vn:SpD:=λds R=>∃ (p q:Pat) (w h s:Int),ds=[.lst (p.leaves.map Leaf.D),.lst (q.leaves.map Leaf.D),.tup [.int w,.int h,.int s]]/\p.Ok/\q.Ok/\0<w/\w<=720/\0<h/\h<=720/\((∀ x y:Int,0<=x->x<w->0<=y->y<h->p.show x y=q.show x y)->R .non)/\∀ x y:Int,0<=x->x<w->0<=y->y<h->p.show x y≠q.show x y->(∀ x' y':Int,0<=x'->x'<w->0<=y'->(y'<y\/(y'=y/\x'<x))->p.show x' y'=q.show x' y')->R (.tup [.int x,.int y])
abbrev pK(V:Bx):Prop:=V.D 4 "_law_unlike" oG vn
def E9(T:V.T "_law_unlike" oF oG)(uA:V.m "range")(JV:jc V):pK V:=by
 refine Tx.okDW T sc__law_unlike (λds R h=>?_) (λf cdv A outer s H E J hr=>⟨_,((ah (bG 3 PassesOwn.never rfl sc__law_unlike.nd uA (af (aa 2) ad) (aj (bG 4 PassesOwn.never rfl sc__law_unlike.nd uA (af (aa 2) ad) (aj (aP (ce (aq JV hr (ac (aa 0) (ac (aa 4) (ac (aa 3) ae)))) (aq JV hr (ac (aa 1) (ac (aa 4) (ac (aa 3) ae))))) (aj (ar (av (ac (aa 4) (ac (aa 3) ae))))) aG)))))
   (aj (ar bz)))),λds R h=>?_⟩)
 .obtain⟨_,_,_,_,_,rfl,_⟩:=h;rfl
 .obtain⟨p,q,w,h,s,rfl,f8,b_,w0,w7,h0,h7,hN,hS⟩:=h;have lo:=Pat.leaf_ok f8.wf (show p.depth<=40 by have:=f8.deep;omega);have Rb:=Pat.leaf_ok b_.wf (show q.depth<=40 by have:=b_.deep;omega);have sl:=λx y=>Pat.show_leaves f8.wf (show p.depth<=40 by have:=f8.deep;omega) x y;have LA:=λx y=>Pat.show_leaves b_.wf (show q.depth<=40 by have:=b_.deep;omega) x y;refine⟨_,rfl,⟨by omega,by omega⟩,λk z=>∃ o3 o4,z=[be (.lst (p.leaves.map Leaf.D)),be (.lst (q.leaves.map Leaf.D)),be (.tup [.int w,.int h,.int s]),o3,o4]/\∀ x y:Int,0<=x->x<w->0<=y->y<k->p.show x y=q.show x y,⟨_,_,rfl,λx y _ _ a b=>by omega⟩,?_,?_⟩
  .rintro k v z hk ⟨o3,o4,rfl,hj⟩;k_places;obtain⟨q_,rfl⟩:=bK hk;refine⟨_,rfl,⟨by omega,by omega⟩,λi z=>∃ o4,z=[be (.lst (p.leaves.map Leaf.D)),be (.lst (q.leaves.map Leaf.D)),be (.tup [.int w,.int h,.int s]),be (.int k),o4]/\∀ x:Int,0<=x->x<i->p.show x k=q.show x k,⟨_,rfl,λx a b=>by omega⟩,?_,?_⟩
   .rintro i v z hi ⟨o4,rfl,g_⟩;k_places;obtain⟨Jn,rfl⟩:=bK hi;refine⟨p.leaves,i,k,rfl,lo,q.leaves,i,k,rfl,Rb,?_⟩;rw[sl,LA];refine ite2 (λc=>?_) (λc=>?_)
    .refine⟨by show(2:Nat)<=1000;decide,hS i k (by omega) (by omega) (by omega) (by omega) (λz=>by simp[z] at c) λx' y' a b c d=>?_⟩;rcases d with d|⟨rfl,d⟩
     .exact hj x' y' a b c (by omega)
     .exact g_ x' a (by omega)
    .have c':p.show i k=q.show i k:=by simpa using c
     refine⟨_,rfl,λx a b=>?_⟩;by_cases e:x=i
     .rw[e];exact c'
     .exact g_ x a (by omega)
   .rintro z ⟨o4,rfl,g_⟩;k_places;rw[bB] at g_;refine⟨_,_,rfl,λx y a b c d=>?_⟩;by_cases e:y=k
    .rw[e];exact g_ x a (by omega)
    .exact hj x y a b c (by omega)
  .rintro z ⟨o3,o4,rfl,hj⟩;k_places;rw[bB] at hj;exact hN λx y a b c d=>hj x y a b c (by omega)
abbrev pL(V:Bx):Prop:=V.D 1 "_law_whole" oI AT
def Fb(T:V.T "_law_whole" oH oI)(J1:V.m "isinstance")(Oh:V.m "bool")(uD:V.m "int"):pL V:=by
 refine Tx.okDW T Dm (λds R h=>?_) (λf cdv A outer s H E J hr=>⟨_,((aj (ar (gK (jN J1 uD (aa 0) PyProof.Rows.boot_int yq) (gJ (ym (jN J1 Oh (aa 0) PyProof.Rows.boot_bool kit_bool))))))),λds R h=>?_⟩)
 .obtain⟨i,rfl,_⟩:=h;rfl
 .obtain⟨i,rfl,hR⟩:=h;exact hR
abbrev pM(V:Bx):Prop:=V.D 2 "_law_numbers" oK CH
def Fc(T:V.T "_law_numbers" oJ oK)(uB:V.m "len")(J1:V.m "isinstance")(Oi:V.m "tuple")(uA:V.m "range")(Oj:pL V):pM V:=by
 refine Tx.okDW T sc__law_numbers (λds R h=>?_) (λf cdv A outer s H E J hr=>⟨_,((ah (aP (cK (gI (eB (cv (jN J1 Oi (aa 0) PyProof.Rows.boot_tuple kit_tuple))) (gH (ce (cC uB (ac (aa 0) ae)) (cC uB (ac (aa 1) ae)))))) (aj (ar ca)) aG)
   (ah (bG 2 PassesOwn.never rfl sc__law_numbers.nd uA (cC uB (ac (aa 1) ae)) (aj (aP (cK (gI (eB (cv (aq Oj hr (ac (af (aa 0) (aa 2)) ae)))) (gH (ce (af (aa 0) (aa 2)) (af (aa 1) (aa 2)))))) (aj (ar ca)) aG)))
   (aj (ar ca))))),λds R h=>?_⟩)
 .obtain⟨xs,rfl,_⟩:=h;rfl
 .obtain⟨xs,rfl,xl,hR⟩:=h;refine ite2 (λc=>absurd c (by simp)) λ_=>?_;refine⟨⟨by omega,by rw[Fs];omega⟩,λk z=>∃ o,z=[be (.tup (xs.map D.int)),be (.tup (xs.map D.int)),o],⟨_,rfl⟩,?_,?_⟩
  .rintro k v z hk ⟨o,rfl⟩;k_places;obtain⟨q_,rfl⟩:=bK hk;rw[Fs] at q_;have Rc:k<xs.length:=by omega
   have ak:atI (xs.map D.int) (k:Int)=be (.int xs[k]):=bZ (by rw[FF,FJ Rc];rfl);exact⟨_,ak,_,rfl,_,ak,_,ak,ite2 (λc=>absurd c (by simp)) λ_=>⟨_,rfl⟩⟩
  .rintro z ⟨o,rfl⟩;k_places;exact hR
def Fd{fa:KF}{fd:RY}(F:Fun V.K "law" "law" iT fa fd)(Ke:jb V)(Ol:oS V)(uV:iV V)(Om:oW V)(On:oX V)(IV:gf V)(Oo:oZ V)(Op:pe V)(Kd:ja V)(L7:pw V)(L8:pJ V)(Oq:pK V)(Ot:pM V):FnOk V.P V.w V.K V.mg V.base (Exc.CX1 V.P V.w) 20 fa fd oM (lSp V.K eM):=by
  refine Fun.okDW F sc_law (λds R h=>?_) (λcdv A outer s H E J hr=>⟨_,((ah (ai 1 sc_law.nd (aq Ke hr (ac (aa 0) (ac ad ae))))
      (ah (ai 2 sc_law.nd (aq Ol hr (ac (aq Om hr (ac (aa 1) (ac (aa 0) (ac ad (ac (aq uV hr (ac (aa 0) (ac ad ae))) ae))))) (ac (aq uV hr (ac (aa 0) (ac ad ae))) ae))))
      (ah (cY (aY (aw (aq uV hr (ac (aa 0) (ac ad ae))) ad) ad) (aj (rG rfl (aq On hr (ac (aN (aq uV hr (ac (aa 0) (ac ad ae))) ad) ae)) (dg_cons 1 sc_law.nd (dg_cons 2 sc_law.nd cL)))) aG)
      (ah (eK 3 sc_law.nd ae)
      (ah (fM 4 PassesOwn.never rfl sc_law.nd (aL (ac (aa 1) (ac (aa 2) ae))) (ah (ai 5 sc_law.nd (aq IV hr (ac (af (aa 4) ad) ae)))
        (aj (dF 3 (aq Oo hr (ac (aq Op hr (ac (af (aa 4) ad) (ac (aa 5) ae))) (ac (aa 5) ae)))))))
      (ah (ai 5 sc_law.nd (aq Kd hr (ac (eN 3 ad) (ac (eN 3 ad) ae))))
      (ah (ai 4 sc_law.nd (aq (CalX.no L7) hr (ac (af (aa 1) ad) ae)))
      (ah (ai 6 sc_law.nd (aq (CalX.no L7) hr (ac (af (aa 2) ad) ae)))
      (ah (fM 7 PassesOwn.never rfl sc_law.nd (aL (ac (aq L8 hr (ac (aa 4) (ac (aa 6) ae))) (ac (aq L8 hr (ac (aa 6) (ac (aa 4) ae))) ae))) (ah (aP (ce (af (aa 7) ad) (ye (aa 5) bz)) (aj (ar ca)) aG)
        (aj (cY (gG (aa 5) bz) (ah (ai 8 sc_law.nd (aq Oq hr (ac (af (aa 1) ad) (ac (af (aa 2) ad) (ac (aa 5) ae)))))
         (ah (aP (cK (fL (jM (aa 8) bz) (fK (gG (af (aa 7) ad) bz)))) (aj (ar ca)) aG)
         (aj (aP (cK (fL (gG (aa 8) bz) (fK (eB (cv (aq Ot hr (ac (af (aa 7) ad) (ac (aa 8) ae)))))))) (aj (ar ca)) aG)))) aG))))
      (aj (ar ca)))))))))))),λds R h=>?_⟩)
  . obtain⟨ns,rfl,_⟩:=h;rfl
  . obtain⟨ns,rfl,hl,hR⟩:=h;refine⟨PatD,⟨ns,2,rfl,by decide,λp ok=>⟨p,rfl,ok⟩⟩,?_⟩;rintro _ ⟨p,rfl,f8⟩;k_places;refine⟨PatD,⟨ns,0,rfl,by decide,p,ns,22,_,rfl,f8,by decide,λq b_=>⟨ns,21,rfl,by decide,q,_,rfl,b_,λr Rf=>⟨r,rfl,Rf⟩⟩⟩,?_⟩;rintro _ ⟨q,rfl,b_⟩;k_places;refine⟨λz=>∃ p q:Pat,z=[be (.rol (ns.map D.int)),be p.D,be q.D,m9,m9,m9,m9,m9,m9]/\p.Ok/\q.Ok,⟨ns,1,rfl,by decide,by decide,ite2 (λ_=>⟨ns,1,rfl,by decide,⟨by decide,by decide⟩,_,rfl,λp q k1 k2=>⟨rfl,p,q,rfl,k1,k2⟩⟩) (λ_=>⟨p,q,rfl,f8,b_⟩)⟩,?_⟩;clear f8 b_ p q;rintro _ ⟨p,q,rfl,f8,b_⟩;k_places;refine⟨by decide,by show(2:Nat)<=1000;decide,λk z=>∃ (ds:List D) (o4 o5:Option D),z=[be (.rol (ns.map D.int)),be p.D,be q.D,be (.own ds),o4,o5,m9,m9,m9]/\((k=0/\ds=[])\/(k=1/\∃ x,ds=[x]/\fU p x)\/(k=2/\∃ x y,ds=[x,y]/\fU p x/\fU q y)),⟨[],_,_,rfl,.inl ⟨rfl,rfl⟩⟩,?_,?_⟩
    . rintro k v z hk ⟨ds,o4,o5,rfl,hW⟩;k_places;rcases hW with⟨rfl,rfl⟩|⟨rfl,x,rfl,hx⟩|⟨rfl,_⟩
      . cases hk;refine⟨FamD p,⟨_,rfl,kL f8⟩,?_⟩;rintro _ ⟨w,h,s,rfl,F,wh,w7,h7⟩;k_places;exact⟨_,rfl,p,w,h,s,rfl,f8.wf,f8.deep,F.f.w0,w7,F.f.h0,h7,p,w,h,s,rfl,f8,F,w7,h7,λw' h' s' L a b c=>⟨by decide,_,_,_,rfl,.inr (.inl ⟨by trivial,_,rfl,w',h',s',rfl,L,by omega,by omega,by omega⟩)⟩⟩
      . cases hk;refine⟨FamD q,⟨_,rfl,kL b_⟩,?_⟩;rintro _ ⟨w,h,s,rfl,F,wh,w7,h7⟩;k_places;exact⟨_,rfl,q,w,h,s,rfl,b_.wf,b_.deep,F.f.w0,w7,F.f.h0,h7,q,w,h,s,rfl,b_,F,w7,h7,λw' h' s' L a b c=>⟨by show(1:Nat)<=100000;decide,_,_,_,rfl,.inr (.inr ⟨by trivial,_,_,rfl,hx,w',h',s',rfl,L,by omega,by omega,by omega⟩)⟩⟩
      . exact nomatch hk
    rintro z ⟨ds,o4,o5,rfl,hW⟩;k_places;obtain⟨_,_,rfl,⟨w1,h1,s1,rfl,L1,b1,a1,c1⟩,w2,h2,s2,rfl,L2,b2,a2,c2⟩:∃ x y,ds=[x,y]/\fU p x/\fU q y:=by
      rcases hW with⟨e,_⟩|⟨e,_⟩|⟨_,h⟩
      . exact nomatch e
      . exact nomatch e
      . exact h
    refine⟨λx=>(∃ w h s,x= .tup [.int w,.int h,.int s]/\ComF p q w h s/\w*h<=720)\/(x= .non/\∃ w h s,ComF p q w h s/\720<w*h),⟨_,rfl,_,rfl,w1,h1,s1,w2,h2,s2,rfl,⟨L1.f.w0,by omega,L1.f.h0,by omega,L1.f.s0,L1.f.sw⟩,⟨L2.f.w0,by omega,L2.f.h0,by omega,L2.f.s0,L2.f.sw⟩,λw h s A M=>⟨λwh=> .inl ⟨w,h,s,rfl,ComF.of L1 L2 M,wh⟩,λbig=> .inr ⟨rfl,w,h,s,ComF.of L1 L2 M,big⟩⟩⟩,?_⟩;rintro Rg Ou;refine⟨λx=>aZ p x,⟨_,rfl,uw f8 λd hd=>hd⟩,?_⟩;rintro _ ⟨wd,hd,sd,fs,rfl,g1,g2,Ja⟩;k_places;have PJ:aZ p (.obj "Pattern" fs):=⟨wd,hd,sd,fs,rfl,g1,g2,Ja⟩;refine⟨λx=>aZ q x,⟨_,rfl,uw b_ λd hd=>hd⟩,?_⟩;rintro _ ⟨Jb,p9,Jc,i8,rfl,g3,g4,k7⟩;k_places;have PK:aZ q (.obj "Pattern" i8):=⟨Jb,p9,Jc,i8,rfl,g3,g4,k7⟩;refine⟨p,q,_,_,rfl,PJ,PK,f8,b_,λt1 x1 T1=>⟨q,p,_,_,rfl,PK,PJ,b_,f8,λt2 x2 T2=>?_⟩⟩;refine⟨by show(2:Nat)<=1000;decide,λk z=>∃ o7 o8,z=[be (.rol (ns.map D.int)),be p.D,be q.D,be (.own [.tup [.int w1,.int h1,.int s1],.tup [.int w2,.int h2,.int s2]]),be (.obj "Pattern" fs),be Rg,be (.obj "Pattern" i8),o7,o8],⟨_,_,rfl⟩,?_,?_⟩
    . rintro k v z hk ⟨o7,o8,rfl⟩;k_places;obtain⟨t,x,rfl,T⟩:∃ t x,v= .lst [.bl t,x]/\Told p q t x:=by
        have q_:k<2:=(FG.mp hk).1;rcases(by omega:k=0\/k=1) with rfl|rfl<;>cases hk
        . exact⟨_,_,rfl,T1⟩
        . exact⟨_,_,rfl,T2.symm⟩
      rcases Ou with⟨w,h,s,rfl,C,wh⟩|⟨rfl,w,h,s,C,big⟩
      . have pl:=ci C.f.w0 C.f.h0;have un:vn [.lst (p.leaves.map Leaf.D),.lst (q.leaves.map Leaf.D),.tup [.int w,.int h,.int s]] λx=>(x= .non/\∀ x y,p.show x y=q.show x y)\/∃ X Y,x= .tup [.int X,.int Y]/\First p q w h X Y:=⟨p,q,w,h,s,rfl,f8,b_,C.f.w0,by omega,C.f.h0,by omega,λe=> .inl ⟨rfl,C.all e⟩,λx y a b c d ne bf=> .inr ⟨x,y,rfl,a,b,c,d,ne,bf⟩⟩;cases T with
        |big c b=>
          obtain⟨rfl,rfl,rfl⟩:=C.uniq c;omega
        |same c b e=>
          refine⟨_,rfl,λz=>∃ o7 o8,z=[be (.rol (ns.map D.int)),be p.D,be q.D,be (.own [.tup [.int w1,.int h1,.int s1],.tup [.int w2,.int h2,.int s2]]),be (.obj "Pattern" fs),be (.tup [.int w,.int h,.int s]),be (.obj "Pattern" i8),o7,o8],⟨λx=>(x= .non/\∀ x y,p.show x y=q.show x y)\/∃ X Y,x= .tup [.int X,.int Y]/\First p q w h X Y,⟨_,rfl,_,rfl,un⟩,?_⟩,λz hz=>hz⟩;rintro _ (⟨rfl,_⟩|⟨X,Y,rfl,f⟩);k_places
          . exact⟨_,rfl,_,_,rfl⟩
          . exact absurd (e X Y) f.ne
        |part c b f=>
          refine⟨_,rfl,λz=>∃ o7 o8,z=[be (.rol (ns.map D.int)),be p.D,be q.D,be (.own [.tup [.int w1,.int h1,.int s1],.tup [.int w2,.int h2,.int s2]]),be (.obj "Pattern" fs),be (.tup [.int w,.int h,.int s]),be (.obj "Pattern" i8),o7,o8],⟨λx=>(x= .non/\∀ x y,p.show x y=q.show x y)\/∃ X Y,x= .tup [.int X,.int Y]/\First p q w h X Y,⟨_,rfl,_,rfl,un⟩,?_⟩,λz hz=>hz⟩;rintro _ (⟨rfl,e⟩|⟨X,Y,rfl,f'⟩);k_places
          . exact absurd (e _ _) f.ne
          . obtain⟨rfl,rfl,rfl⟩:=C.uniq c;obtain⟨rfl,rfl⟩:=f.uniq f';exact⟨_,rfl,[_,_],rfl,by show(2:Nat)<=1000;decide,_,_,rfl⟩
      . cases T with
        |big c b=>exact⟨_,rfl,λz=>∃ o7 o8,z=[be (.rol (ns.map D.int)),be p.D,be q.D,be (.own [.tup [.int w1,.int h1,.int s1],.tup [.int w2,.int h2,.int s2]]),be (.obj "Pattern" fs),be .non,be (.obj "Pattern" i8),o7,o8],⟨_,_,rfl⟩,λz hz=>hz⟩
        |same c b e=>
          obtain⟨rfl,rfl,rfl⟩:=C.uniq c;omega
        |part c b f=>
          obtain⟨rfl,rfl,rfl⟩:=C.uniq c;omega
    . rintro z ⟨o7,o8,rfl⟩;k_places;exact hR
end
local macro_rules | `(tactic| walk_at "b1") => `(tactic| exact Az λ_ _ _ _ _ _ _ => rfl)
local macro_rules | `(tactic| walk_at "b2") => `(tactic| exact bind2 λ_ _ _ _ _ _ _ _ => rfl)
local macro_rules | `(tactic| walk_at "b3") => `(tactic| exact bind3 λ_ _ _ _ _ _ _ _ _ => rfl)
local macro_rules | `(tactic| walk_at "b4") => `(tactic| exact bind4 λ_ _ _ _ _ _ _ _ _ _ => rfl)
local macro_rules | `(tactic| walk_at "b5") => `(tactic| exact bind5 λ_ _ _ _ _ _ _ _ _ _ _ => rfl)
structure TopIn(K:Ex):Prop where
 uFN:FnIn K "_law_at" kM
 uJK:FnIn K "_law_draws" kO
 uFG:FnIn K "_law_lines" kQ
 uJH:FnIn K "_law_shift_pair" kS
 uGY:FnIn K "_law_motif_text" kU
 uHC:FnIn K "_law_motif" kX
 uGN:FnIn K "_law_wrapped" ie
 uHT:FnIn K "_law_gcd" lf
 uJE:FnIn K "_law_on" lm
 uGE:FnIn K "_law_leaf_family" lr
 uGG:FnIn K "_law_in_family" lv
 uJQ:FnIn K "_law_both" lz
 uFZ:FnIn K "_law_family" lD
 uJJ:FnIn K "_law_over" lG
 uHU:FnIn K "_law_pattern" lJ
 uIZ:FnIn K "_law_veiled" lL
 uIW:FnIn K "_law_shifted_home" lN
 uJC:FnIn K "_law_respelled" lQ
 uHB:FnIn K "_law_twin" lU
 uFQ:FnIn K "_law_bound_pair" lW
 uFC:FnIn K "_law_keeps" lZ
 uGL:FnIn K "_law_least" me
 uGQ:FnIn K "_law_leaf_shows" mi
 uEW:FnIn K "_law_shows" mm
 uGO:FnIn K "_law_table" ig
 uFV:FnIn K "line_from" mD
 uFE:FnIn K "lines_from" mG
 uEJ:FnIn K "number_from" mI
 uGJ:FnIn K "shift_from" mK
 uIS:FnIn K "levelled" mM
 uIO:FnIn K "spread" mO
 uIT:FnIn K "home" mR
 uHX:FnIn K "hues_by_home" mV
 uJA:FnIn K "motif_from" ng
 uIH:FnIn K "over_from" ii
 uIX:FnIn K "shifted_from" ij
 uHY:FnIn K "rehue_from" ik
 uEL:FnIn K "form_from" il
 uEU:FnIn K "measure" nI
 uGK:FnIn K "met" nK
 uER:FnIn K "mirrored" nN
 uFA:FnIn K "turned" nP
 uJM:FnIn K "read" nR
 uHK:FnIn K "refuse_far" nU
 uIG:FnIn K "cell_at" nW
 uFO:FnIn K "row_from" iO
 uEZ:FnIn K "field_rows" iP
 uJW:FnIn K "measures" iQ
 uFK:FnIn K "round_row" og
 uJU:FnIn K "changes_nothing" oi
 uFM:FnIn K "least_width" iR
 uIY:FnIn K "slant_at" om
 uIP:FnIn K "least_shifts" iS
 uIQ:FnIn K "common_field" ou
 uHP:FnIn K "first_unlike" oy
 uIV:FnIn K "first_parting" oA
 uEK:FnIn K "_law_told" oC
 uGV:FnIn K "_law_unlike" oF
 uHQ:FnIn K "_law_whole" oH
 uEV:FnIn K "_law_numbers" oJ
 uJI:FnIn K "law" iT
 uGH:NnIn K "len"
 uGB:NnIn K "range"
 uJR:NnIn K "int"
 uGT:NnIn K "str"
 uIL:NnIn K "list"
 uKA:NnIn K "abs"
 uJB:NnIn K "max"
 uJP:NnIn K "enumerate"
 uES:NnIn K "min"
 uIM:NnIn K "isinstance"
 uGX:NnIn K "bool"
 uJL:NnIn K "tuple"
 uCC:ClIn K "Reading"
 uBT:ClIn K "Motif"
 uCZ:ClIn K "Mirror"
 uCR:ClIn K "Turn"
 uBW:ClIn K "Over"
 uBR:ClIn K "Shifted"
 uBJ:ClIn K "Rehue"
 uDI:ClIn K "Pattern"
 uGD:InIn K "Motif" "Motif.__init__" mY
 uHN:InIn K "Mirror" "Mirror.__init__" nj
 uEX:InIn K "Turn" "Turn.__init__" nt
 uFS:InIn K "Over" "Over.__init__" nv
 uID:InIn K "Shifted" "Shifted.__init__" ny
 uHR:InIn K "Rehue" "Rehue.__init__" nA
 uHZ:InIn K "Reading" "Reading.__init__" nC
 uHH:InIn K "Pattern" "Pattern.__init__" nE
 uFJ:MtIn K "Reading" "may_take" "Reading.may_take" mx
 uGI:MtIn K "Reading" "take" "Reading.take" mB
 uIB:MtIn K "Motif" "family" "Motif.family" im
 uHS:MtIn K "Over" "family" "Over.family" io
 uFR:MtIn K "Shifted" "family" "Shifted.family" iq
 uGC:MtIn K "Mirror" "family" "Mirror.family" iu
 uEM:MtIn K "Turn" "family" "Turn.family" iz
 uJG:MtIn K "Rehue" "family" "Rehue.family" iB
 uGM:MtIn K "Motif" "shows" "Motif.shows" iD
 uJT:MtIn K "Over" "shows" "Over.shows" iE
 uHJ:MtIn K "Shifted" "shows" "Shifted.shows" iG
 uGZ:MtIn K "Mirror" "shows" "Mirror.shows" iI
 uJX:MtIn K "Turn" "shows" "Turn.shows" iK
 uFH:MtIn K "Rehue" "shows" "Rehue.shows" iM
 uJD:NoIn K "Reading" "text"
 uGU:NoIn K "Reading" "place"
 uHV:NoIn K "Motif" "place"
 uFW:NoIn K "Motif" "shifts"
 uEO:NoIn K "Motif" "hues"
 uJF:NoIn K "Mirror" "form"
 uIN:NoIn K "Turn" "form"
 uIK:NoIn K "Over" "above"
 uHO:NoIn K "Over" "below"
 uIA:NoIn K "Shifted" "form"
 uHW:NoIn K "Shifted" "x"
 uIC:NoIn K "Shifted" "y"
 uIJ:NoIn K "Rehue" "form"
 uEY:NoIn K "Rehue" "old"
 uGS:NoIn K "Rehue" "new"
 uHI:NoIn K "Pattern" "text"
 uFU:NoIn K "Pattern" "shifts"
 uFT:NoIn K "Pattern" "form"
 uGP:CsIn K "SIGNS" ".123456"
 uGF:CiIn K "LONGEST" 8
 uHD:CiIn K "DEEP" 5
 uFD:CiIn K "MOST" 720
 uFY:CiIn K "FAR" 1000000000000
 eb:EbIn K
 uX:E1In K "WrongSign" "WrongSign.__init__" mq
 uBG:EaIn K "WrongSign"
 uHM:NoIn K "WrongSign" "place"
 uAA:E1In K "OneLine" "OneLine.__init__" nG
 uAY:EaIn K "OneLine"
 uFP:NoIn K "OneLine" "place"
 uDW:E0In K "TooGreat"
 uEA:E0In K "TooFar"
 uJY:EiIn K "MotifError"
 uEN:EmIn K "MotifError" "MotifError"
 uFL:EmIn K "MotifError" "WrongSign"
 uHL:EmIn K "MotifError" "OneLine"
 uJO:EmIn K "MotifError" "TooGreat"
 uIR:EmIn K "MotifError" "TooFar"
 uIF:EmIn K "WrongSign" "MotifError"
 uJN:EmIn K "WrongSign" "WrongSign"
 uJV:EmIn K "WrongSign" "OneLine"
 uHE:EmIn K "WrongSign" "TooGreat"
 uIE:EmIn K "WrongSign" "TooFar"
 uHA:EmIn K "OneLine" "MotifError"
 uII:EmIn K "OneLine" "WrongSign"
 uHF:EmIn K "OneLine" "OneLine"
 uET:EmIn K "OneLine" "TooGreat"
 uEQ:EmIn K "OneLine" "TooFar"
 uGR:EmIn K "TooGreat" "MotifError"
 uFF:EmIn K "TooGreat" "WrongSign"
 uFI:EmIn K "TooGreat" "OneLine"
 uJS:EmIn K "TooGreat" "TooGreat"
 uGW:EmIn K "TooGreat" "TooFar"
 uJZ:EmIn K "TooFar" "MotifError"
 uEP:EmIn K "TooFar" "WrongSign"
 uFX:EmIn K "TooFar" "OneLine"
 uHG:EmIn K "TooFar" "TooGreat"
 uGA:EmIn K "TooFar" "TooFar"
def Fe{V:Bx}{h:Heap}(t:TopIn V.K)(X:V.K.In h)(G:h.Ns Pi V.mg){fa:KF}{fd:RY}(F:Fun V.K "law" "law" iT fa fd):FnOk V.P V.w V.K V.mg V.base (Exc.CX1 V.P V.w) 20 fa fd oM (lSp V.K eM):=by
 have uB:=mg_none_of X G t.uGH;have uA:=mg_none_of X G t.uGB;have uD:=mg_none_of X G t.uJR;have uL:=mg_none_of X G t.uGT;have J8:=mg_none_of X G t.uIL;have uM:=mg_none_of X G t.uKA;have JR:=mg_none_of X G t.uJB;have JX:=mg_none_of X G t.uJP;have Km:=mg_none_of X G t.uES;have J1:=mg_none_of X G t.uIM;have Oh:=mg_none_of X G t.uGX;have Oi:=mg_none_of X G t.uJL;have Jo:=t.uCC.a t.uJD;have uG:=t.uCC.a t.uGU;have Jp:=t.uBT.a t.uHV;have uK:=t.uBT.a t.uFW;have Jq:=t.uBT.a t.uEO;have uQ:=t.uCZ.a t.uJF;have uR:=t.uCR.a t.uIN;have uS:=t.uBW.a t.uIK;have uN:=t.uBW.a t.uHO;have uP:=t.uBR.a t.uIA;have Jr:=t.uBR.a t.uHW;have Js:=t.uBR.a t.uIC;have uO:=t.uBJ.a t.uIJ;have Jt:=t.uBJ.a t.uEY;have Ju:=t.uBJ.a t.uGS;have N1:=t.uDI.a t.uHI;have uY:=t.uDI.a t.uFU;have Kj:=t.uDI.a t.uFT;have uW:=t.uGP.g X G;have L0:=t.uGF.g X G;have Lm:=t.uHD.g X G;have Kk:=t.uFD.g X G;have N7:=t.uFY.g X G;have uBG:=t.uX.a t.eb t.uBG X G;have NN:=t.uHM.all;have uAY:=t.uAA.a t.eb t.uAY X G;have N2:=t.uFP.all;have Kl:=t.uDW.k t.eb X G;have N8:=t.uEA.k t.eb X G;have Kg:=t.uJY.b X G;have ek:vm V:=AA ⟨(let ⟨C,N,bm,k,_⟩:=t.eb.k X G;⟨C,N,bm,k⟩),(t.uX.c t.eb X G),(t.uAA.c t.eb X G),(let ⟨C,N,bm,k,_⟩:=t.uDW.k t.eb X G;⟨C,N,bm,k⟩),(let ⟨C,N,bm,k,_⟩:=t.uEA.k t.eb X G;⟨C,N,bm,k⟩),trivial⟩ ⟨⟨t.uEN,t.uFL,t.uHL,t.uJO,t.uIR,trivial⟩,⟨t.uIF,t.uJN,t.uJV,t.uHE,t.uIE,trivial⟩,⟨t.uHA,t.uII,t.uHF,t.uET,t.uEQ,trivial⟩,⟨t.uGR,t.uFF,t.uFI,t.uJS,t.uGW,trivial⟩,⟨t.uJZ,t.uEP,t.uFX,t.uHG,t.uGA,trivial⟩,trivial⟩;have uV:iV V:=Ds (t.uFN.tx X G (by walk_at "b2")) uB;have J7:iW V:=Dt (t.uJK.tx X G (by walk_at "b3")) uA uV;have Nk:oO V:=Du (t.uFG.tx X G (by walk_at "b1")) uA uB;have Nl:oP V:=Dv (t.uJH.tx X G (by walk_at "b1")) uD;have IT:fZ V:=Dw (t.uGY.tx X G (by walk_at "b3")) uL;have JS:iX V:=Dx (t.uHC.tx X G (by walk_at "b2")) J7 Nk Nl IT;have uJ:gc V:=Dy (t.uGN.tx X G (by walk_at "b2")) uL J8 uD;have Kb:iY V:=Dz (t.uHT.tx X G (by walk_at "b2")) uM;have Kc:iZ V:=DB (t.uJE.tx X G (by walk_at "b4"));have LV:oQ V:=DC (t.uGE.tx X G (by walk_at "b1")) uM Kb Kc;have Nw:oR V:=DD (t.uGG.tx X G (by walk_at "b3"));have Kd:ja V:=DF (t.uJQ.tx X G (by walk_at "b2")) Kb Nw;have IV:gf V:=DG (t.uFZ.tx X G (by walk_at "b1")) LV Kd;have uU:gh V:=DJ (t.uJJ.tx X G (by walk_at "b2")) JR IV;have Ke:jb V:=DK (t.uHU.tx X G (by walk_at "b2")) uA J7 JS uJ uU;have Ol:oS V:=DM (t.uIZ.tx X G (by walk_at "b2")) uU IT;have NG:oU V:=DO (t.uIW.tx X G (by walk_at "b2")) IV uJ;have NH:oV V:=DQ (t.uJC.tx X G (by walk_at "b3")) uB J8;have Om:oW V:=DU (t.uHB.tx X G (by walk_at "b4")) uJ uU NG JS NH Ke;have On:oX V:=DY (t.uFQ.tx X G (by walk_at "b1")) uL IT;have LY:oY V:=DZ (t.uFC.tx X G (by walk_at "b4")) uA;have Oo:oZ V:=D0 (t.uGL.tx X G (by walk_at "b2")) LY;have NM:pd V:=D1 (t.uGQ.tx X G (by walk_at "b3")) uA uB uD Kc;have JV:jc V:=D2 (t.uEW.tx X G (by walk_at "b3")) NM;have Op:pe V:=D3 (t.uGO.tx X G (by walk_at "b2")) uA JV;have uX:jd V:=D4 (t.uX.txe t.eb X G (by walk_at "b2")) Kg uBG NN;have uI:dv V:=D5 (t.uFJ.txm t.uCC (by walk_at "b2")) uB Jo uG;have uC:cJ V:=D6 (t.uGI.txm t.uCC (by walk_at "b2")) uG uI uX;have LZ:pf V:=D7 (t.uFV.tx X G (by walk_at "b3")) uA uW uC uI;have NS:ph V:=D8 (t.uFE.tx X G (by walk_at "b1")) uB LZ L0 uI;have L4:pi V:=D9 (t.uEJ.tx X G (by walk_at "b1")) uD uI uC;have uZ:gj V:=Ea (t.uGJ.tx X G (by walk_at "b1")) L4 uC;have Kh:je V:=Eb (t.uIS.tx X G (by walk_at "b2"));have Ki:jg V:=Ec (t.uIO.tx X G (by walk_at "b2")) uM Kh;have uT:fB V:=Ed (t.uIT.tx X G (by walk_at "b3"));have NR:pj V:=Ee (t.uHX.tx X G (by walk_at "b2")) JX uT uW;have NT:pp V:=Ef (t.uGD.txi X G (by walk_at "b5")) Ki NR Jp uK Jq;have Ll:jh V:=Eg (t.uJA.tx X G (by walk_at "b1")) NS uZ uG NT uC;have Ln:ji V:=Eh (t.uHN.txi X G (by walk_at "b2")) uQ;have Lo:jj V:=Ei (t.uEX.txi X G (by walk_at "b2")) uR;have Li:jk V:=Ej (t.uFS.txi X G (by walk_at "b3")) uS uN;have Lj:jl V:=El (t.uID.txi X G (by walk_at "b4")) uP Jr Js;have Lk:jn V:=Em (t.uHR.txi X G (by walk_at "b4")) uO Jt Ju;have uH:vh V:=Es (t.uIH.tx X G (by walk_at "b2")) (t.uIX.tx X G (by walk_at "b2")) (t.uHY.tx X G (by walk_at "b2")) (t.uEL.tx X G (by walk_at "b2")) Li uC uZ Lj uD Lk Ll Lm Ln Lo uI 6;have N4:pq V:=Et (t.uHZ.txi X G (by walk_at "b2")) Jo uG;have N5:pr V:=Eu (t.uHH.txi X G (by walk_at "b4")) N1 uY Kj;have uAA:jp V:=Ev (t.uAA.txe t.eb X G (by walk_at "b2")) Kg uAY N2;have Lq:pv V:=Ew (t.uEU.tx X G (by walk_at "b2")) Kh;have Jv:gk V:=Ey (t.uGK.tx X G (by walk_at "b2")) Lq;have Ls:jq V:=Ez (t.uER.tx X G (by walk_at "b1"));have Lu:jr V:=EA (t.uFA.tx X G (by walk_at "b1")) Ki;have uE:vi V:=EH (t.uIB.txm t.uBT (by walk_at "b1")) (t.uHS.txm t.uBW (by walk_at "b1")) (t.uFR.txm t.uBR (by walk_at "b1")) (t.uGC.txm t.uCZ (by walk_at "b1")) (t.uEM.txm t.uCR (by walk_at "b1")) (t.uJG.txm t.uBJ (by walk_at "b1")) uK Jp uAA Jv uS uN uP Ls uQ Lu uR uO 6;have L7:pw V:=EI (t.uJM.tx X G (by walk_at "b1")) uB uH Kk uG N4 N5 uE uX Kl;have N9:pz V:=EJ (t.uHK.tx X G (by walk_at "b2")) JR uM N7 N8;have uF:vj V:=EQ (t.uGM.txm t.uBT (by walk_at "b3")) (t.uJT.txm t.uBW (by walk_at "b3")) (t.uHJ.txm t.uBR (by walk_at "b3")) (t.uGZ.txm t.uCZ (by walk_at "b3")) (t.uJX.txm t.uCR (by walk_at "b3")) (t.uFH.txm t.uBJ (by walk_at "b3")) uT Jq uK uS uN uP Js Jr uQ uR uO Jt Ju 6;have J0:js V:=ER (t.uIG.tx X G (by walk_at "b3")) N9 Kj uF;have N_:pA V:=ES (t.uFO.tx X G (by walk_at "b4")) uA J0 uW;have Oc:pB V:=ET (t.uEZ.tx X G (by walk_at "b1")) uA N_ uY;have Kn:C_measures V:=EU (t.uJW.tx X G (by walk_at "b1")) uA;have Oa:pC V:=EV (t.uFK.tx X G (by walk_at "b4")) uT;have Ko:jt V:=EW (t.uJU.tx X G (by walk_at "b4")) JX Oa;have Od:pD V:=EY (t.uFM.tx X G (by walk_at "b2")) Km Kn Ko;have L5:pE V:=EZ (t.uIY.tx X G (by walk_at "b4")) uA Ko;have L6:pF V:=E1 (t.uIP.tx X G (by walk_at "b1")) Km Oc Od Kn L5 uY;have Oe:pG V:=E3 (t.uIQ.tx X G (by walk_at "b2")) Jv L6 Kk Kl;have Of:pH V:=E5 (t.uHP.tx X G (by walk_at "b4")) uA J0;have Og:pI V:=E6 (t.uIV.tx X G (by walk_at "b2")) Oe Of;have L8:pJ V:=E8 (t.uEK.tx X G (by walk_at "b2")) Og ek;have Oq:pK V:=E9 (t.uGV.tx X G (by walk_at "b3")) uA JV;have Oj:pL V:=Fb (t.uHQ.tx X G (by walk_at "b1")) J1 Oh uD;have Ot:pM V:=Fc (t.uEV.tx X G (by walk_at "b2")) uB J1 Oi uA Oj;exact Fd F Ke Ol uV Om On IV Oo Op Kd L7 L8 Oq Ot
def all_mk{l:Hr}{w:RT}{K:Ex}{h:Heap}{mg:D'->Option KB}{fa:KF}(X:K.In h)(G:h.Ns Pi mg)(KW:mg "law"=be (.ref fa))(t:TopIn K):
  ∃ fd:RY,(∀ (s:KM) (v:KB),S2 s fd ⟨[v],[]⟩ [("_law_script",v)])/\∀ base:Heap,K.In base->base.Ns Pi mg->FnOk l.prog w K mg base (Exc.CX1 l.prog w) 20 fa fd ["_law_script"] (lSp K eM):=by
 obtain⟨fd,b,F⟩:=t.uJI.law X G KW (λ_ _ _ _ _ _ _=>rfl);exact⟨fd,b,λbase _ _=>Fe (V:=⟨l.prog,w,K,mg,base⟩) t X G F⟩
def law_walk{l:Hr}{q:P3}{j7:List D'}{XP:(D'->Option KB)->Heap->Prop}{YP:RT->Heap->Prop}{d:DefRec}{K:Params->Ex}(hn:l.most=be 63)(Ky:d.params.defaults=[])
  (hY:∀ (w:RT) (h:Heap),YP w h->(K w.params).In h)
  (F:∀ (w:RT) (mg:D'->Option KB) (fa:KF) (h:Heap),(K w.params).In h->h.Ns Pi mg->mg d.name=be (.ref fa)->
   ∃ fd:RY,(∀ (s:KM) (u:KB),S2 s fd ⟨[u],[]⟩ [("_law_script",u)])/\∀ base:Heap,(K w.params).In base->base.Ns Pi mg->FnOk l.prog w (K w.params) mg base (Exc.CX1 l.prog w) 20 fa fd ["_law_script"] (lSp (K w.params) eM)):
  HR q j7 XP YP l.row.toRowW d [] (λf vs=>PySem.call f vs):=
 L2.walk_of (n:=63) (k:=20) (x:="_law_script") (CX:=λw=>Exc.CX1 l.prog w) (sp:=λw=>lSp (K w.params) eM) hn (by decide) Ky ⟨rfl,by decide,by decide⟩ hY F (λ_ _ a ns hl _ hS=>yx hl hS) λ_ _ _ _ _ h=>by obtain⟨_,_,_,_,_,_,_,_,_,_,_,_,_,_,_,z⟩:=h;exact z
end My
open PySem PySem.W PyProof.Rows
set_option maxRecDepth 100000 in
set_option maxHeartbeats 0 in
theorem PySem.Challenge.cw_motiffield_k23_first_parting_holds : PySem.Challenge.rw_motiffield_k23_first_parting.Holds := by
  w_on; o_law; k_head; (case hw => w_witness2)
  k_fill
  refine My.law_walk (l := PySem.Challenge.rw_motiffield_k23_first_parting) rfl rfl (λw h Y => kIn_of Y) ?F
  case F =>
    intro w mg fa h KX G m5;refine My.all_mk KX G m5 ?_;constructor
    all_goals first | ((with_reducible refine' My.fnIn_mk ?a ?l ?c ?k); (case a => k_is); (case l => k_is); (case c => k_is); (case k => k_is)) | ((with_reducible refine' My.nnIn_mk ?a); (case a => k_is)) | ((with_reducible refine' My.noIn_mk ?a ?b); (case a => k_is); (case b => k_is)) | ((with_reducible refine' My.mtIn_mk ?a ?b ?i ?l ?c ?k); (case a => k_is); (case b => k_is); (case i => k_is); (case l => k_is); (case c => k_is); (case k => k_is)) | ((with_reducible refine' My.inIn_mk ?a ?mk ?b ?i ?kp ?l ?c ?k); (case a => k_is); (case mk => k_is); (case b => k_is); (case i => k_is); (case kp => k_is); (case l => k_is); (case c => k_is); (case k => k_is)) | ((with_reducible refine' My.clIn_mk ?a ?pg ?hd ?po ?sa ?ha ?hn ?ht ?hm); (case a => k_is); (case pg => k_is); (case hd => k_is); (case po => k_is); (case sa => k_is); (case ha => k_is); (case hn => k_is); (case ht => k_is); (case hm => k_is)) | ((with_reducible refine' My.ciIn_mk ?a); (case a => k_is)) | ((with_reducible refine' My.csIn_mk ?a); (case a => k_is)) | ((with_reducible refine' My.ebIn_mk ?a ?kp ?o ?nk ?al ?ni); (case a => k_is); (case kp => k_is); (case o => k_is); (case nk => k_is); (case al => rfl); (case ni => k_is)) | ((with_reducible refine' My.e0In_mk ?b ?a ?kp ?o ?nk ?al ?ni); (case b => k_is); (case a => k_is); (case kp => k_is); (case o => k_is); (case nk => k_is); (case al => rfl); (case ni => k_is)) | ((with_reducible refine' My.e1In_mk ?b ?a ?kp ?o ?j ?i ?l ?c ?k); (case b => k_is); (case a => k_is); (case kp => k_is); (case o => k_is); (case j => k_is); (case i => k_is); (case l => k_is); (case c => k_is); (case k => k_is)) | ((with_reducible refine' My.eaIn_mk ?a ?b); (case a => k_is); (case b => k_is)) | ((with_reducible refine' My.eiIn_mk ?a ?b ?c ?d); (case a => k_is); (case b => k_is); (case c => k_is); (case d => k_is)) | ((with_reducible refine' My.emIn_mkT ?e ?a ?c ?d); (case e => decide); (case a => k_is); (case c => k_is); (case d => k_is)) | ((with_reducible refine' My.emIn_mkF ?e ?a ?c ?d); (case e => decide); (case a => k_is); (case c => k_is); (case d => k_is))
end
