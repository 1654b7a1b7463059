import PyProof.Rows.All
import Wide.All
import OpenK.AllK
import Wide.FinOn
import Lean
import PyProof.EqAt
import PyProof.EqKinds
import PyProof.TupleCall
import PySem.Challenge.RW_motiffield_k10_one_line
set_option compiler.extract_closed false
set_option Elab.async false
set_option linter.all false
set_option maxRecDepth 100000
set_option maxHeartbeats 4000000
open PySem renaming Str->y8
open Option renaming some->be,none->t8
open PySem renaming Value->Da,Addr->GD,Shared->GE,mainGlobals->GF,wpAny_bind->GG,Program->GH,Expr->GI,model->GJ,Stmt->GK,wpAny->GL,World->GM,Around->GN,starEach->GO,wpAny_pure->GP,attributeBase->GQ,FuncData->GR,eval->GS,assignEach->GT,wpAny_Call_Name_kw->GU,Pos->GV,wpAny_loadPart_at->GW,bootBuiltins->GY,Obj->GZ,excClassObj->G0,behindInMarks->G1,swapsWith->G2,compareOp->G3,wpAny_mono->G4,wpAny_passesOwn->G5,binaryOp->G6,PassesOwn->G7,ExceptHandler->G8,sysModules->G9,keywordEach->G',wpAny_execs_nil->G_,backTo->Ha,wpAny_isSubtype_exc->Hb,codeAny_mono->Hc,wpAny_call->Hd,bindArgs->Hf,wpAny_truthy_bool->Hg,wpAny_pyIter_enum->Hh,wpAny_holding->Hj,rawInt->Hk,Env->Hl,Scope->Hm,wpAny_setField->Hn,sizeLine_eq->Ho,codeAny_call_builtin->Hq,backToKw->Hr,tupleKind->Hs,Keyword->Ht,standAt->Hu,callerA->Hv,BindsTo->Hw,plainObj_wpAny_Assign_Attribute->Hx,noteFrame->Hy,getMethod->Hz,wpAny_field->HA,atKey->HB,IsRangeIter->HC,letOwnedTupleGo->HD,valueAt->HE,codeAny->HF,wpAny_letOwnedTupleGo_enum->HG,isInstance->HH,dictSetDefault->HI,wpAny_standAt->HJ,setFlight->HK,bindL->HL,bindC->HM,wpAny_pyNext_range_end->HN,wpAny_pyIter_rangeiter->HP,leaving->HS,holding->HU,getAttr->HV,codeAny_handlers_test->HX,wpAny_of_eq->HY,NameKind->HZ,Model->H0,GenState->H4,wpAny_handleBy_cons->H8,wpAny_pyIter_range->H9,wpAny_entryPlaceOf->H_,wpAny_Name->Ia,typeIs_str->Ib,call_meets->Ic,builtinsNs->Ie,assign->Ih,wpAny_newObj_type->Ii,wpAny_frameOf_fun->Ij,foldedSetIterable->Ik,Sem->Il,CmpOp->Im
open PyProof.Rows renaming envOfC->GX,AllBare->Hi,subscriptTail_builtinR->HQ,IntsAre->HW,boot_range->Ig
open PySem.Spec renaming same->HR
open PySem.W renaming Frag->xE,findIn->xI,mroIn->yn,OpenLaw->zq,clsIn->zv,handedIn->zM,WalkO->zP
open List renaming mem_singleton->xF,length_cons->xG,mem_cons->xJ,getElem?_set_ne->xL,map_cons->xN,getElem?_eq_some_iff->xO,length_append->xP,mem_cons_of_mem->xS,mem_cons_self->xT,length_map->xU,size_toArray->xW,range->xY,lookup_cons->xZ,getElem?_eq_getElem->ya,mem_append->yc,append_nil->yd,append_assoc->ye,getElem?_set_self->yf,replicate->yi,getElem?_map->yj,cons_append->yl,mem_append_right->ym,map_append->yo,nodup_cons->yp,all_cons->yq,any_cons->yr,lookup->yu,find?_cons->yw,length_set->yx,mem_map->yy,findIdx_cons->yz,mem_append_left->yB,getElem?_set->yD,length->yI,length_nil->yJ,getD->yK,nodup_append->yL,getElem_mem->yO,not_mem_nil->yQ,filterMap_cons->yT,getElem?_append_left->yW,replicate_succ->yX,flatten_cons->yY,nil_append->zc,drop_eq_getElem_cons->zf,of_mem_zip->zl,getElem?_append_right->zm,getElem?_replicate->zn,mem_of_getElem?->zo,map_nil->zp,contains_cons->zr,map->zt,ext_getElem?->zu,eq_nil_of_length_eq_zero->zw,drop_length->zH,mem_filter->zJ,mem_filterMap->zL,filter_cons->zR,nodup_nil->zT,dropLast_cons₂->zX,getElem?_eq_none->Ad,length_drop->Ah,drop_drop->Ai,getElem?_drop->Ar,any_eq_true->Au,findIdx_lt_length->Av,length_range->Aw
open Nat renaming le_refl->xH,ne_of_lt->xM,le_trans->xR,lt_of_lt_of_le->xV,zero_le->yg,le_succ->yv,lt_irrefl->yA,ne_of_gt->yC,le_of_lt->yS,le_of_eq->yV,pow_pos->zd,pow_succ->ze,zero_add->zj,not_lt_zero->zx,mul_le_mul->zC,pow_le_pow_right->zE,add_sub_cancel->zF,lt_succ_self->zN,le_of_not_lt->zO,lt_of_le_of_lt->zQ,lt_trans->zS,log2_lt->zU,add_sub_add_right->zV,succ_ne_self->zY
open Bool renaming false_ne_true->xK,and_eq_true->yb,eq_false_iff->yR,eq_iff_iff->yU,or_true->yZ
open Int renaming mul_pos->xQ,mul_le_mul_of_nonneg_right->xX,mul_ediv_cancel->yk,mul_neg->yt,neg_mul->yE,mul_nonpos_of_nonpos_of_nonneg->yF,eq_of_mul_eq_mul_right->yG,toNat_of_nonneg->yH,mul_comm->yM,emod_def->yN,mul_eq_zero->yP,add_zero->zg,lt_trichotomy->zh,neg_add->zi,le_trans->zk,natAbs_mul->zy,emod_nonneg->zz,emod_lt_of_pos->zA,mul_emod_left->zB,mul_le_mul_of_nonneg_left->zD,mul_neg_of_neg_of_pos->zG,le_total->zZ,mul_nonneg->Aa,fmod_nonneg_of_pos->Ab,fmod_lt_of_pos->Ac,dvd_mul_of_dvd_right->Ae,mul_le_mul->Af,dvd_add_left->Aj,dvd_mul_right->Ak,add_assoc->Al,sub_eq_add_neg->Am,mul_zero->An,zero_mul->Ao,neg_neg->Ap,add_comm->Aq,pow_succ->As
open Option renaming bind_some->za
open Array renaming getElem?_eq_some_iff->zb,append_assoc->zI,length_toList->zK,all_toList->zW,toList_inj->Ag
open PySem.W (InitBack any_some callWith_K callWith_K0 cellsFrom_some cls_value codeIn codeRec_of emptyDict eq_bytes findCls findObj_own fnOf get_value hasDictIn hideAll hideAll_get hideAll_none hideAll_size instObj isFn isNs_of_in kIn_of keepIn kia_one kitOne kitx_bool kitx_dict kitx_float kitx_int kitx_list kitx_none kitx_own kitx_str kitx_tuple kun_itemsOf len_bytes lookIn make_core makesIn makes_of methodCall_KW methodObj method_cls method_fn mg_none_of mg_of ne_bytes nsIn nsMap_none_of_in nsOkIn of_hideAll osa_open plainGet plainGet_of plainOver rangeSize_downNat readsIn small_down specialIn tailIn tail_of_in takerIn takesIn truthy_bytes)
namespace PySem.W.Fast
def tw6000464989340599894:=Nat
def tw17382447541379238648:=Nat
def tw1524299029753489631:=Nat
def tw12561573751444051715:=Nat
def tw4169725665501093913:=Nat
def tw5756717577301495527:=Nat
def tw12128116407061864474:=Nat
def tw18124934585912205235:=Nat
def tw6125266475497060740:=Nat
def tw3836193820948563704:=Nat
def tw7428430745012468226:=Nat
def tw15604437066079336287:=Nat
def tw12593959022920782258:=Nat
def tw6145188087693486772:=Nat
def tw9237690487454284959:=Nat
def tw7405501439181326077:=Nat
def tw4515212733475733957:=Nat
def tw6189436949498260356:=Nat
def tw10559262881656802390:=Nat
def tw2128435227922954906:=Nat
def tw8812905068164457555:=Nat
def tw17827822773961204785:=Nat
def tw2870979587018793025:=Nat
def tw15995604119006324651:=Nat
def tw10941263765277116490:=Nat
def tw9106399698281838824:=Nat
def tw11101783178808007837:=Nat
def tw9106444991071628514:=Nat
def tw13403714321447387630:=Nat
def tw11901275678784702841:=Nat
def tw7238605578885704287:=Nat
def tw771837840619586820:=Nat
def tw4708060102854213019:=Nat
def tw15625202771312310230:=Nat
def tw9001427601620815572:=Nat
def tw17889102229805102201:=Nat
def tw7134880262438036807:=Nat
def tw12239471439896846062:=Nat
def tw7441106246724536819:=Nat
def tw17221274816565208866:=Nat
def tw9713698101355387786:=Nat
def tw10214832775453683524:=Nat
def tw13587521956230740315:=Nat
def tw4324489357679012507:=Nat
def tw9722887434008742697:=Nat
def tw13828688493072201171:=Nat
def tw16372080870696657522:=Nat
def tw4879554867806735812:=Nat
def tw18248763468085247430:=Nat
def tw642187340707341523:=Nat
def tw7103223509899512271:=Nat
def tw10185683158655496382:=Nat
def tw18354593979709045233:=Nat
def tw11188533704562364603:=Nat
def tw10762227329768588396:=Nat
def tw12990360749706705933:=Nat
def tw6699113117784759364:=Nat
def tw12180621759762768047:=Nat
def tw9221876818876810251:=Nat
def tw11237060407024762410:=Nat
def tw4827106742569887000:=Nat
def tw1654685964100918635:=Nat
def tw10127803290199343849:=Nat
def tw8035950307372529884:=Nat
def tw1570353539854004019:=Nat
def tw8325453074069972280:=Nat
def tw10431206732055455185:=Nat
def tw1047711099474860626:=Nat
def tw9990186510283699355:=Nat
def tw4448145397756291242:=Nat
def tw17247700518949830242:=Nat
def tw18163263333318618807:=Nat
def tw234614182780641842:=Nat
def tw18105040832492846589:=Nat
def tw17765698941412987081:=Nat
def tw10335744774173479215:=Nat
def tw5794958967115419250:=Nat
def tw147567985022057615:=Nat
def tw2292041328405348586:=Nat
def tw16904766037340604157:=Nat
def tw16834911049302222960:=Nat
def tw4827611030217063559:=Nat
def tw11571593751752365968:=Nat
def tw618546274227017959:=Nat
def tw145800880632607019:=Nat
def tw15055141322381719191:=Nat
def tw12143889581655001578:=Nat
def tw3037763532710617522:=Nat
def tw17235551077750322825:=Nat
def tw9378873363269065890:=Nat
def tw4308867295673833286:=Nat
def tw3739694950832411097:=Nat
def tw4741182386337775202:=Nat
def tw3808842487824214740:=Nat
def tw5633691561803779334:=Nat
def tw438494884696706149:=Nat
def tw7255899339638790842:=Nat
def tw7121311693442461592:=Nat
def tw14031317358084029940:=Nat
def tw9257149684816710065:=Nat
def tw10371315072454192748:=Nat
def tw1220890685844988718:=Nat
def tw4894510812500130636:=Nat
def tw10704006089672172542:=Nat
def tw13154370134413882317:=Nat
def tw3489955806601745137:=Nat
def tw964980312894187757:=Nat
def tw179571897215975198:=Nat
def tw3505183688611518091:=Nat
def tw9697303086820321758:=Nat
def tw5356222900989716795:=Nat
def tw10565484884253711188:=Nat
def tw16739471090273068745:=Nat
def tw5040217352546342207:=Nat
def tw3144042754909898064:=Nat
def tw12755946294581268436:=Nat
def tw14700580223731438375:=Nat
def tw15902175138970061634:=Nat
def tw12263424945804666302:=Nat
def tw17774354870077222848:=Nat
def tw18051394627198072433:=Nat
def tw2869336223525768764:=Nat
def tw2731364817342556675:=Nat
def tw16837795379138794642:=Nat
def tw7898008611697394751:=Nat
def tw14303739005387863830:=Nat
def tw4700983889394680104:=Nat
def tw1205728165093489940:=Nat
def tw15381959146430828589:=Nat
def tw7144831862122795125:=Nat
def tw18284165731926942492:=Nat
def tw321575224488587706:=Nat
def tw17280546535936919284:=Nat
def tw14858452293235221733:=Nat
def tw7080863797921544978:=Nat
def tw9798650477238360915:=Nat
def tw7477245021126446741:=Nat
def tw5354995999742359006:=Nat
def tw12367424867479201647:=Nat
def tw13752385046611340201:=Nat
def tw13958850439760125187:=Nat
def tw8972646094275604784:=Nat
def tw11347668719933935625:=Nat
def tw6210418778182466250:=Nat
def tw10079121818083249130:=Nat
def tw11425038935931678221:=Nat
def tw12600108893070846792:=Nat
def tw420162566733261163:=Nat
def tw12208089678807799035:=Nat
def tw686654762930478541:=Nat
def tw4533041299122450506:=Nat
def tw11977821275114617125:=Nat
def tw4504367952579495009:=Nat
def tw8717359155291512331:=Nat
def tw11185678714056965121:=Nat
def tw4162405168630296265:=Nat
def tw12743921353297063655:=Nat
def tw8989704547268249770:=Nat
def tw13415594678882841572:=Nat
def tw12748298456548832074:=Nat
def tw4389506209359389565:=Nat
def tw12412261096278813738:=Nat
def tw16392600813416877985:=Nat
def tw4696093037084052885:=Nat
def tw8824468810458751729:=Nat
def tw5289393858135507077:=Nat
def tw2318074110030294251:=Nat
def tw771984198078981651:=Nat
def tw16541564945504523771:=Nat
def tw4270821027313747899:=Nat
def tw3803823114244961384:=Nat
def tw4609938121152785322:=Nat
def tw7141999366021743707:=Nat
def tw16464091691145579358:=Nat
def tw18176067945046131396:=Nat
def tw1683524393479282371:=Nat
def tw12699000760946567780:=Nat
def tw4170779309106915784:=Nat
def tw4102790581392264862:=Nat
def tw783272380081757491:=Nat
def tw15813814210578757375:=Nat
def tw5291234827472569145:=Nat
def tw18077370324694479958:=Nat
def tw10975691592312811500:=Nat
def tw3031714659939048411:=Nat
def tw7023199113281595040:=Nat
def tw10715330237542332492:=Nat
def tw18421658799603542773:=Nat
def tw13903018437467596643:=Nat
def tw15171907675316805669:=Nat
def tw2646967179082357982:=Nat
def tw12179673672062412057:=Nat
def tw12432447774317069911:=Nat
def tw18230754031850945547:=Nat
def tw16214275471750692682:=Nat
def tw12442429667792923052:=Nat
def tw5162453027158655468:=Nat
def tw392674878215972330:=Nat
def tw6792036141457716639:=Nat
def tw12712427687237374859:=Nat
def tw6773274880266839315:=Nat
def tw9048381859096575667:=Nat
def tw1076488899102233860:=Nat
def tw14744331822545595747:=Nat
def tw12608854765748903236:=Nat
def tw8901605872963262976:=Nat
def tw9996033544628868643:=Nat
def tw1263006490966972429:=Nat
def tw6415914299111221922:=Nat
def tw17431660700227202177:=Nat
def tw16836500929318642799:=Nat
def tw9371854514176765384:=Nat
def tw2637641375473592915:=Nat
def tw17005319946015684574:=Nat
def tw3680663714605425896:=Nat
def tw6797163698436810230:=Nat
def tw15458630041712786330:=Nat
def tw12253853607299580728:=Nat
def tw17734700480811227545:=Nat
def tw14329402302905032900:=Nat
def tw11322325132971939678:=Nat
def tw3827771496434310467:=Nat
def tw5362383646435784195:=Nat
def tw16588209146302295684:=Nat
def tw13343370534311492040:=Nat
def tw4114078740569356026:=Nat
def tw11133615532206141979:=Nat
def tw5211009974923792938:=Nat
def tw7522780432408493633:=Nat
def tw1969494245984504707:=Nat
def tw2149440699222899310:=Nat
def tw5330629840378902444:=Nat
def tw10915795966666740819:=Nat
def tw14973450690479575719:=Nat
def tw4456399623733673249:=Nat
def tw15815433534346158196:=Nat
def tw10373877396256636762:=Nat
def tw16040797781220804706:=Nat
def tw11340159731137812812:=Nat
def tw4042946460621222667:=Nat
def tw16651316568031338386:=Nat
def tw16715571477905715891:=Nat
def tw16474452504207957816:=Nat
def tw18282553321933796011:=Nat
def tw2678659315637873526:=Nat
def tw420348853149140832:=Nat
def tw7614911706578913143:=Nat
def tw11118826177218639118:=Nat
def tw8695811843521422710:=Nat
def tw2735408888548718452:=Nat
def tw16655924787284305591:=Nat
def tw364227014490853669:=Nat
def tw15065000231313271123:=Nat
def tw14367885751789537118:=Nat
def tw7285022673176180988:=Nat
def tw16293342949991623876:=Nat
def tw12496080409816162630:=Nat
def tw12504045064478147747:=Nat
def tw6088803443323132447:=Nat
def tw12290471379706254189:=Nat
def tw4824195099799076157:=Nat
def tw13603890952313726328:=Nat
def tw8662589726209940674:=Nat
def tw2891080242313954878:=Nat
def tw13334737797697071487:=Nat
def tw4082998198661804810:=Nat
def tw17406770294489650565:=Nat
def tw2736924475672545161:=Nat
def tw16944877875160918082:=Nat
def tw15961998757655668490:=Nat
def tw13212862038776048066:=Nat
def tw3171316809813697919:=Nat
def tw17230411301070155195:=Nat
def tw24179923044764743:=Nat
def tw6076528935529683146:=Nat
def tw7690837269628418370:=Nat
def tw3063552205125680978:=Nat
def tw3872295139328450906:=Nat
def tw16188922777730310029:=Nat
def tw8508817604533780001:=Nat
def tw4557443111118309130:=Nat
def tw15846548680554787336:=Nat
def tw1145997177307280735:=Nat
def tw15418759176526813053:=Nat
def tw11256336811616600221:=Nat
def tw14198767878658147229:=Nat
def tw742486808846901486:=Nat
def tw16359574080463130314:=Nat
def tw8055628065457530854:=Nat
def tw3700584284245439096:=Nat
def tw14706005062950092257:=Nat
def tw11847163269330734243:=Nat
def tw5126417989221375107:=Nat
def tw14401246973245571581:=Nat
def tw2323667112262269693:=Nat
def tw11199510681748231653:=Nat
def tw13638944090951729705:=Nat
def tw17328042104066971614:=Nat
def tw5800392894138714687:=Nat
def tw7609522710973200765:=Nat
def tw10334643607694846042:=Nat
def tw12463547249897788475:=Nat
def tw562774286577424166:=Nat
def tw12524085426018656812:=Nat
def tw4399200869975415895:=Nat
def tw17905818216947422356:=Nat
def tw46209139924579836:=Nat
def tw16513656126780672736:=Nat
def tw9057832977880876207:=Nat
def tw1316579422509276567:=Nat
def tw4394944713216869882:=Nat
def tw16730370684190240139:=Nat
def tw16837371061605551392:=Nat
def tw249465816849985849:=Nat
def tw15958069481399324412:=Nat
def tw6069138701642545925:=Nat
def tw2472037258986599311:=Nat
def tw11616808802552557733:=Nat
def tw2690217370093429674:=Nat
def tw8074475753491109867:=Nat
def tw16563450734777399368:=Nat
def tw17219680050556533247:=Nat
def tw11505330659118836387:=Nat
def tw155473356860993677:=Nat
def tw17346909127460018971:=Nat
def tw11594242467251853581:=Nat
def tw13610958369944144751:=Nat
def tw2530381361202159483:=Nat
def tw9492065006063452985:=Nat
def tw18413989995048205562:=Nat
def tw6372390149237406943:=Nat
def tw10572122019203107155:=Nat
def tw16076193842116177817:=Nat
def tw11551637231107086102:=Nat
def tw10963545311812999263:=Nat
def tw15748060221593936628:=Nat
def tw801761128365706114:=Nat
def tw1992889264260468967:=Nat
def tw1609250534237558706:=Nat
def tw5674323556847732941:=Nat
def tw16407495903498458435:=Nat
def tw1850405892165134405:=Nat
def tw16683483478081593398:=Nat
def tw5328853047074068724:=Nat
def tw14613731130050932708:=Nat
def tw8422123057768524690:=Nat
def tw12423542832801434935:=Nat
def tw2382302909677464792:=Nat
def tw183968468956042900:=Nat
def tw4999336576158525117:=Nat
def tw2625929448649489908:=Nat
def tw4706606811142904576:=Nat
def tw13550773064684187713:=Nat
def tw14976982460839625541:=Nat
def tw852884452121586680:=Nat
def tw650876863773471982:=Nat
def tw13063427416400179602:=Nat
def tw11888781069295140818:=Nat
def tw6659262905808390163:=Nat
def tw5559028155981263143:=Nat
def tw10512512374437707777:=Nat
def tw1176516510694030047:=Nat
def tw14351571546912508545:=Nat
def tw9211152375452379797:=Nat
def tw3477827331699505067:=Nat
def tw5385389652306273198:=Nat
def tw5979140517349897347:=Nat
def tw6201010710095884677:=Nat
def tw9877486732245064760:=Nat
def tw15947390347829031196:=Nat
def tw8902346537256770059:=Nat
def tw5109287184516493606:=Nat
def tw12890737899384722560:=Nat
def tw14675093115211516610:=Nat
def tw6369552250369941718:=Nat
def tw15880578138030824605:=Nat
def tw3569913771283028327:=Nat
def tw4349902713503765729:=Nat
def tw188774170079750430:=Nat
def tw6586126202803724604:=Nat
def tw16608394753576404161:=Nat
def tw14372214443628974176:=Nat
def tw13142164096844246607:=Nat
def tw11783334491830418360:=Nat
def tw10928490665137544881:=Nat
def tw11153419035150084557:=Nat
def tw10996769626109167765:=Nat
def tw1142110778700555751:=Nat
def tw13960155478934050726:=Nat
def tw7209559638528717288:=Nat
def tw6840912064945845272:=Nat
def tw8166130529790715001:=Nat
def tw14493524382412885607:=Nat
def tw5665672059594417599:=Nat
def tw8099231386149153651:=Nat
def tw17585430264008851141:=Nat
def tw10387494572355984341:=Nat
def tw4543428168621488092:=Nat
def tw17682636853384825216:=Nat
def tw13597512966900976565:=Nat
def tw13968480515979219212:=Nat
def tw11503465801270848469:=Nat
def tw14698606371994450144:=Nat
def tw5409311846154061278:=Nat
def tw426057143412547576:=Nat
def tw14976759785503904529:=Nat
def tw2412346382462815473:=Nat
def tw6195393062605627216:=Nat
def tw726935540153876237:=Nat
def tw13148780604288973031:=Nat
def tw5413907700813642216:=Nat
def tw18118589519043380680:=Nat
def tw11755759496744995800:=Nat
def tw3332618767710959273:=Nat
def tw16767912893553225981:=Nat
def tw10780197422566528914:=Nat
def tw17520270996640284025:=Nat
def tw8686590933995592415:=Nat
def tw888774183617057815:=Nat
def tw15844449729370293657:=Nat
def tw12036736745649473182:=Nat
def tw2495978361467939663:=Nat
def tw4289968168799348131:=Nat
def tw18013126615974769522:=Nat
def tw9993841819533934845:=Nat
def tw2285773749542419663:=Nat
def tw16097331663511099296:=Nat
def tw15334859241867778963:=Nat
def tw17550233475186050536:=Nat
def tw12746787026548172058:=Nat
def tw10183914855231804377:=Nat
def tw18422084296250630449:=Nat
def tw514778601039539660:=Nat
def tw14581741343938034894:=Nat
def tw16097528865584847902:=Nat
def tw13050998336404782353:=Nat
def tw10406438997257713914:=Nat
end PySem.W.Fast
section
namespace L2
open PySem PySem.Spec PyProof.Rows
abbrev Key:=Sum Int y8
def cM:Key->Da->Bool
 | .inl k,v=>Value.isInt k v
 | .inr x,v=>Value.isStrOf x v
def keyH(w:GM):Key->Int
 | .inl k=>hashInt k
 | .inr x=>hashStr w x
def keyIs_shape:∀ {k:Key} {v:Da},cM k v=true->(∃ i t,k=Sum.inl i/\v=Value.int i t)\/(∃ x t,k=Sum.inr x/\v=Value.str x t)
 | .inl i,v,h=>by
  obtain⟨t,e⟩:=Value.isInt_shape (k:=i) (v:=v) h;exact .inl ⟨i,t,rfl,e⟩
 | .inr x,v,h=>by
  obtain⟨t,e⟩:=Value.isStrOf_shape (x:=x) (v:=v) h;exact .inr ⟨x,t,rfl,e⟩
def nB(i:Int)(t:Tok):cM (.inl i) (.int i t)=true:=by simp[cM,Value.isInt]
def nC(x:y8)(t:Tok):cM (.inr x) (.str x t)=true:=by simp[cM,Value.isStrOf]
def nD(a b:Int):decide ((Sum.inl a:Key)=Sum.inl b)=(a==b):=by
 by_cases e:a=b
 .subst e;simp
 .have h:¬ (Sum.inl a:Key)=Sum.inl b:=λq=>e (Sum.inl.inj q);rw[decide_eq_false h];exact(beq_eq_false_iff_ne.mpr e).symm
def nE(a b:y8):decide ((Sum.inr a:Key)=Sum.inr b)=decide (a=b):=by
 by_cases e:a=b
 .subst e;simp
 .have h:¬ (Sum.inr a:Key)=Sum.inr b:=λq=>e (Sum.inr.inj q);rw[decide_eq_false h,decide_eq_false e]
def nF(a:Int)(b:y8):decide ((Sum.inl a:Key)=Sum.inr b)=false:=decide_eq_false (λq=>nomatch q)
def nG(a:y8)(b:Int):decide ((Sum.inr a:Key)=Sum.inl b)=false:=decide_eq_false (λq=>nomatch q)
def bx(prog:GH)(w:GM):PySem.KeyKind prog w Key where
 is:=cM
 hash:=keyH w
 inj:=λv a b ha hb=>by
  rcases keyIs_shape ha with⟨i,t,rfl,rfl⟩|⟨x,t,rfl,rfl⟩
  .rcases keyIs_shape hb with⟨j,u,rfl,e⟩|⟨y,u,rfl,e⟩
   .injection e with e1 _;rw[e1]
   .exact nomatch e
  .rcases keyIs_shape hb with⟨j,u,rfl,e⟩|⟨y,u,rfl,e⟩
   .exact nomatch e
   .injection e with e1 _;rw[e1]
 byValue:=λk v h=>by
  rcases keyIs_shape h with⟨i,t,rfl,rfl⟩|⟨x,t,rfl,rfl⟩<;>rfl
 pyHash:=λhv h=>by
  rcases keyIs_shape hv with⟨i,t,rfl,rfl⟩|⟨x,t,rfl,rfl⟩
  .exact wpAny_pyHash_int h
  .exact wpAny_pyHash_str h
 eqBool:=λhu hv h=>by
  rcases keyIs_shape hu with⟨i,t,rfl,rfl⟩|⟨x,t,rfl,rfl⟩
  .rcases keyIs_shape hv with⟨j,u,rfl,rfl⟩|⟨y,u,rfl,rfl⟩
   .rw[nD] at h;exact wpAny_eqBool_int h
   .rw[nF] at h;exact SeqAt.EqAt.int_str i t y u _ _ _ _ h
  .rcases keyIs_shape hv with⟨j,u,rfl,rfl⟩|⟨y,u,rfl,rfl⟩
   .rw[nG] at h;exact SeqAt.EqAt.str_int x t j u _ _ _ _ h
   .rw[nE] at h;exact wpAny_eqBool_str h
 «strs»:=λk x t v h=>by
  rcases keyIs_shape h with⟨i,u,rfl,e⟩|⟨y,u,rfl,e⟩
  .exact nomatch e
  .injection e with e1 _;subst e1;cases v<;>rfl
def mixKind_int(prog:GH)(w:GM)(i:Int)(t:Tok):(bx prog w).is (.inl i) (.int i t)=true:=nB i t
def nH(prog:GH)(w:GM)(x:y8)(t:Tok):(bx prog w).is (.inr x) (.str x t)=true:=nC x t
inductive V where
 |non|bl (b:Bool)|int (i:Int)|str (x:Str)|byt (b:Array UInt8)|flt (b:UInt64)|ref (a:GD)|ty (n:String)
 deriving DecidableEq
def RelV:V->Da->Prop
 | .non,u=>u=Value.none
 | .bl b,u=>u=Value.bool b
 | .int i,u=>∃ t,u=Value.int i t
 | .str x,u=>∃ t,u=Value.str x t
 | .byt b,u=>∃ t,u=Value.bytes b t
 | .flt b,u=>∃ t,u=Value.float b t
 | .ref a,u=>u=Value.ref a
 | .ty n,u=>u=Value.type n
abbrev Vals:List V->List Da->Prop:=Paired RelV
def Vals.length{xs:List V}{us:List Da}(r:Vals xs us):xs.length=us.length:=Paired.length r
def Vals.get:∀ {xs:List V} {us:List Da} {i:Nat} {x:V},Vals xs us->xs[i]?=be x->∃ u,us[i]?=be u/\RelV x u
 |_,_,_,_,.nil,e=>by simp at e
 |_,_,0,_,.cons r _,e=>by simp at e;subst e;exact⟨_,rfl,r⟩
 |_,_,i+1,x,.cons _ t,e=>by
  obtain⟨u,h1,h2⟩:=Vals.get (i:=i) (x:=x) t (by simpa using e);exact⟨u,by simpa using h1,h2⟩
def Vals.set{x:V}{u:Da}(r:RelV x u):∀ {xs:List V} {us:List Da} (i:Nat),Vals xs us->Vals (xs.set i x) (us.set i u)
 |_,_,_,.nil=> .nil
 |_,_,0,.cons _ t=> .cons r t
 |_,_,i+1,.cons q t=> .cons q (Vals.set r i t)
def Vals.append:∀ {xs ys:List V} {us ws:List Da},Vals xs us->Vals ys ws->Vals (xs++ys) (us++ws):=by
 intro xs ys us ws h s;induction h with
 |nil=>exact s
 |cons r _ e=>exact .cons r e
def Vals.take:∀ {xs:List V} {us:List Da} (n:Nat),Vals xs us->Vals (xs.take n) (us.take n)
 |_,_,0,_=> .nil
 |_,_,_+1,.nil=> .nil
 |_,_,n+1,.cons r t=> .cons r (Vals.take n t)
def Vals.drop:∀ {xs:List V} {us:List Da} (n:Nat),Vals xs us->Vals (xs.drop n) (us.drop n)
 |_,_,0,r=>r
 |_,_,_+1,.nil=> .nil
 |_,_,n+1,.cons _ t=>Vals.drop n t
def RelO:Option V->Option Da->Prop
 |some v,be u=>RelV v u
 |none,t8=>True
 |_,_=>False
def KV{κ:Type}:List (κ × V)->List (κ × Da)->Prop:=Paired λ(p:κ × V) (q:κ × Da)=>p.1=q.1/\RelV p.2 q.2
def kV:Key->V
 | .inl i=> .int i
 | .inr x=> .str x
inductive HO where
  |lst (xs:List V)
  |tup (xs:List V)
  |dK (a8:List (Key × V))|dT (a8:List (List Key × V))
  |set (S:Int->Bool) (n:Nat)
  |ins (C dx:GD) (fs:List (y8 × V))
  |own (x:GD)
  |xd (fs:List (y8 × V))
  |met (f x:GD)
  |rng (lo hi:Int)
  |frz (o:GZ) (u:HO)
  |tbl (ps:Array Da)
  |ext (φ:Heap->Prop)
abbrev Hp:=GD->Option HO
def upd(H:Hp)(a:GD)(o:HO):Hp:=λb=>if b=a then be o else H b
def az{H:Hp}{a:GD}{o:HO}:upd H a o a=be o:=by unfold upd;rw[if_pos rfl]
def aj{H:Hp}{a b:GD}{o:HO}(h:b≠a):upd H a o b=H b:=by unfold upd;rw[if_neg h]
def nI{H:Hp}{a b:GD}{o u:HO}(h:H a=be o)(h':H b=be u)(d:o≠u):a≠b:=by
 intro e;subst e;rw[h] at h';exact d (Option.some.inj h')
def bo{H:Hp}{a b:GD}{o:HO}(h:H a=be o)(h':H b=t8):a≠b:=by
 intro e;subst e;rw[h] at h';cases h'
section
variable (P:GH)(w:GM)
def ObjOk(H:Hp)(h:Heap)(a:GD):HO->Prop
 | .lst xs=>xs.length<=sizeLine/\∃ (a_:List Da) (n:Nat),Vals xs a_/\h.get? a=be {cls:= .type "list",data:= .seq a_.toArray n}
 | .tup xs=>xs.length<=sizeLine/\∃ a_:List Da,Vals xs a_/\IsTup h a a_.toArray
 | .dK a8=>a8.length<=sizeLine/\(a==G9)=false/\∃ vs,KV a8 vs/\h.DictOf (bx P w) a vs
 | .dT a8=>a8.length<=sizeLine/\(a==G9)=false/\∃ xs:List (List Key × GD × Da),
   Paired (λ(p:List Key × V) (q:List Key × GD × Da)=>p.1=q.1/\H q.2.1=be (.tup (p.1.map kV))/\RelV p.2 q.2.2) a8 xs/\
   ∃ o es ep,h.get? a=be o/\o.ExactDict/\o.data= .dict es ep/\es.toList=xs.map (entryOfKey (Hs (bx P w)))/\(xs.map (·.1)).Nodup
 | .set S n=>h.SetOf (intKind P w) a S n
 | .ins C dx fs=>H dx=be (.own a)/\fs.length<=1000/\dx≠a/\h.get? a=be (instObj C dx)/\
   ∃ mA,h.Ns1 dx mA/\(∀ f,RelO (fs.lookup f) (mA f))/\PySem.Within mA (fs.map (·.1))
 | .own _=>∃ o,h.get? a=be o
 | .xd fs=>∃ mA,h.Ns1 a mA/\∀ f,RelO (fs.lookup f) (mA f)
 | .rng lo hi=>∃ t u v,h.get? a=be {cls:= .type "range",data:= .fields #[.int lo t,.int hi u,.int 1 v]}
 | .frz o u=>h.get? a=be o/\ObjOk H h a u
 | .tbl ps=>h.get? a=be {cls:= .none,data:= .fields ps}
 | .met f x=>h.get? a=be (methodObj (.ref f) (.ref x))
 | .ext φ=>φ h/\(∃ o,h.get? a=be o)/\∀ h1 h2:Heap,φ h1->(∀ o,h1.get? a=be o->h2.get? a=be o)->φ h2
def HOk(H:Hp)(h:Heap):Prop:=∀ a o,H a=be o->ObjOk P w H h a o
end
section
variable {P:GH}{w:GM}{H H':Hp}{h h':Heap}{a:GD}{o:HO}
def ObjOk.lt(x:ObjOk P w H h a o):a<h.objs.size:=by
 cases o with
 |lst xs=>obtain⟨_,_,_,_,e⟩:=x;exact Heap.lt_size e
 |tup xs=>obtain⟨_,_,_,p⟩:=x;exact p.lt
 |dK a8=>obtain⟨_,_,_,_,o,_,_,e,_⟩:=x;exact Heap.lt_size e
 |dT a8=>obtain⟨_,_,_,_,o,_,_,e,_⟩:=x;exact Heap.lt_size e
 |set S n=>obtain⟨o,_,_,_,e,_⟩:=x;exact Heap.lt_size e
 |ins C dx fs=>obtain⟨_,_,_,e,_⟩:=x;exact Heap.lt_size e
 |own y=>obtain⟨_,e⟩:=x;exact Heap.lt_size e
 |xd fs=>obtain⟨_,⟨_,_,_,e,_⟩,_⟩:=x;exact Heap.lt_size e
 |rng lo hi=>obtain⟨_,_,_,e⟩:=x;exact Heap.lt_size e
 |frz ob u=>obtain⟨e,_⟩:=x;exact Heap.lt_size e
 |tbl ps=>exact Heap.lt_size (show h.get? a=be _ from x)
 |met f y=>exact Heap.lt_size (show h.get? a=be _ from x)
 |ext φ=>obtain⟨_,⟨_,e⟩,_⟩:=x;exact Heap.lt_size e
def Paired.mapP{α β:Type}{F G:α->β->Prop}:∀ {l₁:List α} {l₂:List β},Paired F l₁ l₂->(∀ a b,F a b->G a b)->Paired G l₁ l₂:=by
 intro l₁ l₂ h f;induction h with
 |nil=>exact .nil
 |cons r _ e=>exact .cons (f _ _ r) e
def ObjOk.stay(x:ObjOk P w H h a o)(k:∀ b u,(b=a\/H b=be (.own a))->h.get? b=be u->h'.get? b=be u)
  (ho:∀ b,H b=be (.own a)->H' b=be (.own a)) (ht:∀ b xs,H b=be (.tup xs)->H' b=be (.tup xs)):ObjOk P w H' h' a o:=by
 induction o with
 |lst xs=>obtain⟨z,a_,n,r,e⟩:=x;exact⟨z,a_,n,r,k _ _ (.inl rfl) e⟩
 |tup xs=>obtain⟨z,a_,r,ob,e,c⟩:=x;exact⟨z,a_,r,ob,k _ _ (.inl rfl) e,c⟩
 |dK a8=>obtain⟨z,y,vs,r,ob,es,ep,e,c⟩:=x;exact⟨z,y,vs,r,ob,es,ep,k _ _ (.inl rfl) e,c⟩
 |dT a8=>
  obtain⟨z,y,xs,r,ob,es,ep,e,c⟩:=x;exact⟨z,y,xs,Paired.mapP r λp q z=>⟨z.1,ht _ _ z.2.1,z.2.2⟩,ob,es,ep,k _ _ (.inl rfl) e,c⟩
 |set S n=>obtain⟨ob,es,ep,t,e,c⟩:=x;exact⟨ob,es,ep,t,k _ _ (.inl rfl) e,c⟩
 |ins C dx fs=>
  obtain⟨d,z,ne,e,mA,⟨od,es,ep,e2,c⟩,r⟩:=x;exact⟨ho _ d,z,ne,k _ _ (.inl rfl) e,mA,⟨od,es,ep,k _ _ (.inr d) e2,c⟩,r⟩
 |own y=>obtain⟨ob,e⟩:=x;exact⟨ob,k _ _ (.inl rfl) e⟩
 |xd fs=>obtain⟨mA,⟨od,es,ep,e,c⟩,r⟩:=x;exact⟨mA,⟨od,es,ep,k _ _ (.inl rfl) e,c⟩,r⟩
 |rng lo hi=>obtain⟨t,u,v,e⟩:=x;exact⟨t,u,v,k _ _ (.inl rfl) e⟩
 |frz ob u ih=>obtain⟨e,q⟩:=x;exact⟨k _ _ (.inl rfl) e,ih q⟩
 |tbl ps=>
  have e:h.get? a=be {cls:= .none,data:= .fields ps}:=x;show h'.get? a=be {cls:= .none,data:= .fields ps};exact k a _ (.inl rfl) e
 |met f y=>
  have e:h.get? a=be (methodObj (.ref f) (.ref y)):=x;show h'.get? a=be (methodObj (.ref f) (.ref y));exact k a _ (.inl rfl) e
 |ext φ=>obtain⟨p,⟨o,e⟩,st⟩:=x;exact⟨st _ _ p λo q=>k _ _ (.inl rfl) q,⟨o,k _ _ (.inl rfl) e⟩,st⟩
def HOk.lt(x:HOk P w H h)(e:H a=be o):a<h.objs.size:=(x a o e).lt
def HOk.fresh(x:HOk P w H h)(e:h.objs.size<=a):H a=none:=by
 cases q:H a with
 |none=>rfl
 |some u=>exact absurd (xV (x.lt q) e) (yA _)
def HOk.kept(x:HOk P w H h)(k:∀ b u,h.get? b=be u->h'.get? b=be u):HOk P w H h':=λa o e=>
 (x a o e).stay (λb u _ q=>k b u q) (λ_ q=>q) λ_ _ q=>q
def HOk.laid(x:HOk P w H h)(k:∀ b u,h.get? b=be u->h'.get? b=be u)(hp:h.objs.size<=a)(new:ObjOk P w (upd H a o) h' a o):HOk P w (upd H a o) h':=λb u e=>by
 have hn:=x.fresh hp;by_cases hb:b=a
 .subst hb;rw[az] at e;cases e;exact new
 .rw[aj hb] at e;exact(x b u e).stay (λc v _ q=>k c v q) (λc q=>by rw[aj (bo q hn)];exact q) λc xs q=>by rw[aj (bo q hn)];exact q
end
def Rd(H:Hp)(a:GD)(u:HO):Prop:=H a=be u\/∃ o,H a=be (.frz o u)
def Rd.of{H:Hp}{a:GD}{u:HO}(h:H a=be u):Rd H a u:= .inl h
def Rd.ok{P:GH}{w:GM}{H:Hp}{h:Heap}{a:GD}{u:HO}(r:Rd H a u)(x:HOk P w H h):ObjOk P w H h a u:=by
 rcases r with r|⟨o,r⟩
 .exact x a u r
 .obtain⟨_,q⟩:=x a _ r;exact q
def Mut:Option HO->Prop
 |some (.lst _)=>True
 |some (.dK _)=>True
 |some (.dT _)=>True
 |some (.set _ _)=>True
 |some (.ins _ _ _)=>True
 |some (.ext _)=>True
 |_=>False
section
variable {P:GH}{w:GM}{H:Hp}{h h':Heap}{x e:GD}{o':HO}
def HOk.write(ok:HOk P w H h)(mu:Mut (H x))(he:e=x\/H e=be (.own x))(k:∀ b u,b≠e->h.get? b=be u->h'.get? b=be u)(s9:∃ u,h'.get? e=be u)
  (new:ObjOk P w (upd H x o') h' x o'):HOk P w (upd H x o') h':=λb u q=>by
 have AQ:∀ c y,H c=be (.own y)->c≠x:=λc y r z=>by subst z;rw[r] at mu;exact mu
 have B4:∀ c xs,H c=be (.tup xs)->c≠x:=λc xs r z=>by subst z;rw[r] at mu;exact mu
 by_cases hb:b=x
 .subst hb;rw[az] at q;cases q;exact new
 .rw[aj hb] at q;by_cases x9:b=e
  .have q':H b=be (.own x):=by
    rcases he with z|z
    .exact absurd (x9.trans z) hb
    .rw[x9];exact z
   rw[q] at q';cases q';obtain⟨v,hv⟩:=s9;exact⟨v,by rw[x9];exact hv⟩
  .refine(ok b u q).stay (λc v hc r=>k c v ?_ r) (λc r=>by rw[aj (AQ c b r)];exact r) λc xs r=>by rw[aj (B4 c xs r)];exact r
   rcases hc with rfl|hc
   .exact x9
   .rintro rfl;rcases he with z|z
    .exact AQ c b hc z
    .rw[hc] at z;cases z;exact hb rfl
end
structure Un(fs ex:List GD)(H H':Hp)(h h':Heap):Prop where
 keep:∀ b o,h.get? b=be o->H b=t8->b ∉ fs->b ∉ ex->h'.get? b=be o
 slot:∀ b o,h.get? b=be o->H b=t8->b∈fs->b ∉ ex->∃ sl,h'.get? b=be {o with slots:=sl}
 free:∀ b o,h.get? b=be o->H b=t8->b ∉ ex->H' b=t8
 there:∀ b o,h.get? b=be o->b ∉ ex->∃ o',h'.get? b=be o'
 tups:∀ b xs,H b=be (.tup xs)->H' b=be (.tup xs)
 frzs:∀ b o u,H b=be (.frz o u)->H' b=be (.frz o u)
 tbls:∀ b ps,H b=be (.tbl ps)->∃ more,H' b=be (.tbl (ps++more))
section
variable {fs h8 ex B5:List GD}{H H1 H2:Hp}{h h1 h2 h':Heap}{a x e:GD}{o:HO}
def Un.any(u:Un fs ex H H1 h h1){b:GD}{ob:GZ}(q:h.get? b=be ob)(n:H b=t8)(hx:b ∉ ex):∃ sl,h1.get? b=be {ob with slots:=sl}:=by
 by_cases hb:b∈fs
 .exact u.slot b ob q n hb hx
 .exact⟨ob.slots,u.keep b ob q n hb hx⟩
def Un.trans(a:Un fs ex H H1 h h1)(b:Un fs ex H1 H2 h1 h2):Un fs ex H H2 h h2 where
 keep:=λc ob q n hc hx=>b.keep c ob (a.keep c ob q n hc hx) (a.free c ob q n hx) hc hx
 slot:=λc ob q n hc hx=>by
  obtain⟨sl,e1⟩:=a.slot c ob q n hc hx;obtain⟨j9,e2⟩:=b.slot c _ e1 (a.free c ob q n hx) hc hx;exact⟨j9,e2⟩
 free:=λc ob q n hx=>by
  obtain⟨o',e1⟩:=a.there c ob q hx;exact b.free c o' e1 (a.free c ob q n hx) hx
 there:=λc ob q hx=>by
  obtain⟨o',e1⟩:=a.there c ob q hx;exact b.there c o' e1 hx
 tups:=λc xs q=>b.tups c xs (a.tups c xs q)
 frzs:=λc ob xs q=>b.frzs c ob xs (a.frzs c ob xs q)
 tbls:=λc ps q=>by
  obtain⟨m1,e1⟩:=a.tbls c ps q;obtain⟨m2,e2⟩:=b.tbls c _ e1;exact⟨m1++m2,by rw[e2,zI]⟩
def Un.kept(k:∀ b u,h.get? b=be u->h'.get? b=be u):Un fs ex H H h h':=
 ⟨λb ob q _ _ _=>k b ob q,λb ob q _ _ _=>⟨ob.slots,k b ob q⟩,λ_ _ _ n _=>n,λb ob q _=>⟨ob,k b ob q⟩,λ_ _ q=>q,λ_ _ _ q=>q,λ_ ps q=>⟨#[],by rw[q];simp⟩⟩
def Un.refl:Un fs ex H H h h:=Un.kept λ_ _ q=>q
def Un.laid(k:∀ b u,h.get? b=be u->h'.get? b=be u)(hp:h.objs.size<=a)(hn:H a=t8):Un fs ex H (upd H a o) h h' where
 keep:=λb u q _ _ _=>k b u q
 slot:=λb u q _ _ _=>⟨u.slots,k b u q⟩
 free:=λb u q n _=>by rw[aj (xM (xV (Heap.lt_size q) hp))];exact n
 there:=λb u q _=>⟨u,k b u q⟩
 tups:=λb xs q=>by rw[aj (bo q hn)];exact q
 frzs:=λb u xs q=>by rw[aj (bo q hn)];exact q
 tbls:=λb ps q=>⟨#[],by rw[aj (bo q hn),q];simp⟩
def Un.write(mu:Mut (H x))(he:e=x\/H e=be (.own x))(k:∀ b u,b≠e->h.get? b=be u->h'.get? b=be u)(s9:∃ u,h'.get? e=be u):Un fs ex H (upd H x o) h h':=by
 have hx:∀ b,H b=t8->b≠x:=λb n z=>by subst z;rw[n] at mu;exact mu
 have hb:∀ b,H b=t8->b≠e:=λb n z=>by
  subst z;rcases he with r|r
  .exact hx b n r
  .rw[n] at r;cases r
 have hm:∀ b u,H b=be u->¬ Mut (be u)->b≠x:=λb u q nm z=>by subst z;rw[q] at mu;exact nm mu
 refine⟨λb u q n _ _=>k b u (hb b n) q,λb u q n _ _=>⟨u.slots,k b u (hb b n) q⟩,λb u q n _=>by rw[aj (hx b n)];exact n,λb u q _=>?_,
  λb xs q=>by rw[aj (hm b _ q λz=>z)];exact q,λb u xs q=>by rw[aj (hm b _ q λz=>z)];exact q,λb ps q=>⟨#[],by rw[aj (hm b _ q λz=>z),q];simp⟩⟩
 by_cases x9:b=e
 .subst x9;exact s9
 .exact⟨u,k b u x9 q⟩
end
def trk(h:Heap)(H:Hp):List GD:=(xY h.objs.size).filter λa=>(H a).isSome
def hidT(h:Heap)(H:Hp):Heap:=hideAll h (trk h H)
def nJ(h:Heap)(H:Hp):(hidT h H).objs.size=h.objs.size:=hideAll_size _ _
def nK{h:Heap}{H:Hp}{b:GD}{o:GZ}(e:h.get? b=be o)(n:H b=t8):(hidT h H).get? b=be o:=
 hideAll_get _ e λhm=>by
  have q:(H b).isSome=true:=(zJ.mp hm).2;rw[n] at q;simp at q
def nM{h:Heap}{H:Hp}{b:GD}{o:GZ}(e:(hidT h H).get? b=be o):h.get? b=be o/\H b=none:=by
 have e':h.get? b=be o:=of_hideAll (trk h H) e;refine⟨e',?_⟩;cases q:H b with
 |none=>rfl
 |some x=>
  have hm:b∈trk h H:=zJ.mpr ⟨List.mem_range.mpr (Heap.lt_size e'),by simp[q]⟩;have z:(hidT h H).get? b=none:=hideAll_none (trk h H) hm;rw[z] at e;cases e
def allNews(g h:Heap)(L:GD):List (GD × GZ):=(xY h.objs.size).filterMap λa=>if a=L\/(g.get? a).isSome=true then t8 else(h.get? a).map λo=>(a,o)
def rest(g h:Heap)(L d:GD):List (GD × GZ):=(allNews g h L).filter λp=>decide (p.1≠d)
structure Mod(K:xE)(mg:Str->Option Da)(base:Heap):Prop where
 kin:K.In base
 glob:base.Ns GF mg
 blt:∃ mb,base.Ns Ie mb/\∀ x:y8,x≠"__name__"->mb x=GY x
 nolimit:base.NoLimit
structure Cx where
 prog:GH
 w:GM
 K:xE
 mg:y8->Option Da
 base:Heap
 A:GN
 N:List y8
 s₀:GE
 H₀:Hp
 env:Hl
 outer:List Hl
 stack:List Hl
 ex:List GD
 fn:y8->Bool
 calm:Bool
 pn:List (GD × GZ)
 xe:Da->GE->Prop
abbrev zSE(X:Cx)(e:GI)(es:List GI):Prop:=GO (e::es) X.env=(false,GS e X.env)::GO es X.env
abbrev zPL(X:Cx)(p:GV)(es:List GI):Prop:=(Ha p (GO es X.env)).any (·.1)=false
abbrev zHF(X:Cx)(p:GV)(es:List GI):Prop:=((Ha p (GO es X.env)).all (λx=>!x.1) && (Hr p (G' [] X.env)).all (λx=>x.1.isSome) && decide (es.length+([]:List Ht).length+(if([]:List Ht).isEmpty then 0 else 1)<30))=true
abbrev zFN(X:Cx)(x:y8):Prop:=X.fn x=true\/X.env.scope.names.lookup x=be .local
abbrev zND(x:y8):Prop:=(x==("__debug__":y8))=false
abbrev zNC(x:y8):Prop:=(x==("__classdict__":y8))=false
abbrev zFS(X:Cx)(e:GI)(y:Da):Prop:=Ik e X.env y=pure y
def frs(l:List Hl):List GD:=l.filterMap (·.frame)
abbrev Cx.fs(X:Cx):List GD:=frs X.outer
def Vis(sc:Hm)(x:y8):Prop:=sc.names.lookup x=be .local\/sc.names.lookup x=be .cell\/sc.names.lookup x=be .free
def Loc(sc:Hm)(x:y8):Prop:=sc.names.lookup x=be .local\/sc.names.lookup x=be .cell
def Look(env:Hl)(h:Heap)(m:y8->Option Da)(x:y8)(u:Da):Prop:=
 (env.kindOf x=be .local/\m x=be u)\/((env.kindOf x=be .cell\/env.kindOf x=be .free)/\∃ c,env.cells.lookup x=be c/\h.IsCell c (be u))
structure Cx.Ok(X:Cx):Prop where
 mod:Mod X.K X.mg X.base
 kind:X.env.scope.kind= .function
 glob:X.env.globals=GF
 blt:X.env.builtins=Ie
 above:X.s₀.heap.objs.size<=X.env.locals
 inj:∀ x y c,X.env.cells.lookup x=be c->X.env.cells.lookup y=be c->x=y
 has:∀ x,(X.env.kindOf x=be .cell\/X.env.kindOf x=be .free)->∃ c,X.env.cells.lookup x=be c
 cab:∀ x c,X.fn x=true->X.env.cells.lookup x=be c->X.s₀.heap.objs.size<=c
 hd:X.calm=true->X.A.handled=t8
 frames:X.A.frames=be X.stack
 stk:X.stack=X.outer\/(X.stack=X.env::X.outer/\X.env.frame=be X.env.locals)
 exf:∀ b∈X.ex,b≠X.env.locals/\∀ x c,X.env.cells.lookup x=be c->c≠b
 bs:∀ b o,X.base.get? b=be o->X.s₀.heap.get? b=be o/\X.H₀ b=t8
 bsz:X.base.objs.size<=X.s₀.heap.objs.size
 noex:∀ b o,X.base.get? b=be o->b ∉ X.ex
 exfs:∀ b∈X.ex,b ∉ X.fs
 funs:X.s₀.heap.FunFrames X.base X.outer
 frf:∀ b∈X.fs,X.H₀ b=t8
structure Inv(X:Cx)(pins:List (GD × GZ))(σ:List (Option V))(H:Hp)(s:GE):Prop where
 ok:X.Ok
 os:s.os=X.s₀.os
 bare:Hi s.gens
 base:Un X.fs X.ex X.H₀ H X.s₀.heap s.heap
 loc:∃ m,s.heap.Ns X.env.locals m/\∀ (i:Nat) (x:y8) (v:V),X.N[i]?=be x->σ[i]?=be (be v)->Vis X.env.scope x->∃ u,RelV v u/\Look X.env s.heap m x u
 cell:∀ x c,X.env.cells.lookup x=be c->∃ v,s.heap.IsCell c v
 free:H X.env.locals=t8
 freeC:∀ x c,X.env.cells.lookup x=be c->H c=t8
 pin:∀ p∈X.pn++pins,s.heap.get? p.1=be p.2/\H p.1=t8/\p.1≠X.env.locals/\p.1 ∉ X.fs/\∀ v,p.2.data≠.cell v
 hok:HOk X.prog X.w H s.heap
 len:σ.length=X.N.length
section
variable {X:Cx}{pins:List (GD × GZ)}{σ:List (Option V)}{H H':Hp}{s:GE}{h':Heap}
def Cx.Ok.nofr(ok:X.Ok){b:GD}{o:GZ}(e:X.base.get? b=be o):b ∉ X.fs:=λhb=>by
 have:=(ok.funs.mem hb).1;rw[e] at this;cases this
def Inv.bs(I:Inv X pins σ H s):∀ b o,X.base.get? b=be o->s.heap.get? b=be o/\H b=none:=λb o e=>
 ⟨I.base.keep b o (I.ok.bs b o e).1 (I.ok.bs b o e).2 (I.ok.nofr e) (I.ok.noex b o e),I.base.free b o (I.ok.bs b o e).1 (I.ok.bs b o e).2 (I.ok.noex b o e)⟩
def Inv.bk(I:Inv X pins σ H s):∀ b o,X.base.get? b=be o->s.heap.get? b=be o:=λb o e=>(I.bs b o e).1
def Inv.mod(I:Inv X pins σ H s):Mod X.K X.mg X.base:=I.ok.mod
def Inv.kIn(I:Inv X pins σ H s):X.K.In s.heap:=I.ok.mod.kin.keeps I.bk
def Inv.nolimit(I:Inv X pins σ H s):s.heap.NoLimit:=I.ok.mod.nolimit.keeps I.bk
def Inv.fr(I:Inv X pins σ H s):∃ m,Fr X.base X.env.locals s.heap m:=
 let ⟨m,hn,_⟩:=I.loc
 ⟨m,hn,I.bk,xR I.ok.bsz I.ok.above⟩
def Inv.lt(I:Inv X pins σ H s):X.env.locals<s.heap.objs.size:=let ⟨_,hn,_⟩:=I.loc;hn.lt
def Inv.sz(I:Inv X pins σ H s):X.s₀.heap.objs.size<=s.heap.objs.size:=xR I.ok.above (yS I.lt)
def Inv.nofs(I:Inv X pins σ H s){a:GD}(h:s.heap.objs.size<=a):a ∉ X.fs:=λhb=>by
 obtain⟨_,o,ho,_⟩:=I.ok.funs.mem hb;exact absurd (xV (Heap.lt_size ho) (xR I.sz h)) (yA _)
def Inv.cne(I:Inv X pins σ H s):∀ x c,X.env.cells.lookup x=be c->c≠X.env.locals:=λx c e z=>by
 obtain⟨v,o,ho,hd⟩:=I.cell x c e;obtain⟨m,⟨o',es,ep,x',f6,_⟩,_⟩:=I.loc;rw[z,x'] at ho;cases ho;rw[f6] at hd;cases hd
def Inv.funs(I:Inv X pins σ H s):s.heap.FunFrames X.base X.outer:=by
 have all:∀ (l:List Hl),(∀ b∈frs l,b∈X.fs)->X.s₀.heap.FunFrames X.base l->s.heap.FunFrames X.base l:=by
  intro l;induction l with
  |nil=>intro _ _;trivial
  |cons env r ih=>
   intro hs hl;obtain⟨hk,⟨L,o,hf,hn,ho,hd⟩,hr⟩:=hl;have hL:L∈X.fs:=hs L (by unfold frs;rw[yT,hf];exact xT);obtain⟨sl,e⟩:=I.base.slot L o ho (I.ok.frf L hL) hL λz=>I.ok.exfs L z hL;exact⟨hk,⟨L,_,hf,hn,e,hd⟩,ih (λb hb=>hs b (by unfold frs;rw[yT,hf];exact xS _ hb)) hr⟩
 exact all X.outer (λ_ hb=>hb) I.ok.funs
def Inv.stack(I:Inv X pins σ H s):s.heap.FunFrames X.base X.stack:=by
 rcases I.ok.stk with e|⟨e,hf⟩
 .rw[e];exact I.funs
 .rw[e];obtain⟨m,hn,_⟩:=I.loc;refine .cons (by rw[I.ok.kind];decide) hf hn ?_ I.funs;exact Heap.get?_none_of_le (xR I.ok.bsz I.ok.above)
def Inv.stkSub(I:Inv X pins σ H s):∀ b∈frs X.stack,b∈X.env.locals::X.fs:=λb hb=>by
 rcases I.ok.stk with e|⟨e,hf⟩
 .rw[e] at hb;exact xS _ hb
 .rw[e] at hb;unfold frs at hb;rw[yT,hf] at hb;exact hb
def Inv.stkFree(I:Inv X pins σ H s):∀ b∈frs X.stack,H b=none:=λb hb=>by
 rcases xJ.mp (I.stkSub b hb) with e|hb
 .rw[e];exact I.free
 .obtain⟨_,o,ho,_⟩:=I.ok.funs.mem hb;exact I.base.free b o ho (I.ok.frf b hb) λz=>I.ok.exfs b z hb
def Inv.step{g':Array H4}{t':Nat}{d':Drawn}{ch:List GD}(I:Inv X pins σ H s)
  (s_:∀ b∈ch,(b∈X.ex\/X.s₀.heap.objs.size<=b)/\b≠X.env.locals/\(∀ x c,X.env.cells.lookup x=be c->c≠b)/\∀ p∈X.pn++pins,p.1≠b)
  (keep:∀ b o,b≠X.env.locals->b ∉ X.fs->b ∉ ch->s.heap.get? b=be o->H b=t8->h'.get? b=be o)
  (slot:∀ b o,b≠X.env.locals->b∈X.fs->b ∉ ch->s.heap.get? b=be o->H b=t8->∃ sl,h'.get? b=be {o with slots:=sl}) (free:∀ b o,b ∉ ch->s.heap.get? b=be o->H b=t8->H' b=t8)
  (there:∀ b o,b ∉ ch->s.heap.get? b=be o->∃ o',h'.get? b=be o')
  (tups:∀ b xs,H b=be (.tup xs)->H' b=be (.tup xs)) (frzs:∀ b o u,H b=be (.frz o u)->H' b=be (.frz o u)) (tbls:∀ b ps,H b=be (.tbl ps)->∃ more,H' b=be (.tbl (ps++more)))
  (ns:∀ m,s.heap.Ns X.env.locals m->h'.Ns X.env.locals m) (hok:HOk X.prog X.w H' h') (hg:Hi g'):
  Inv X pins σ H' {s with heap:=h',gens:=g',drawn:=d',toks:=t'}:=by
 have DR:∀ b o,X.s₀.heap.get? b=be o->b≠X.env.locals:=λb o e=>xM (xV (Heap.lt_size e) I.ok.above);have BG:∀ b o,X.s₀.heap.get? b=be o->b ∉ X.ex->b ∉ ch:=λb o e hx hb=>by
  rcases(s_ b hb).1 with z|z
  .exact hx z
  .exact absurd (xV (Heap.lt_size e) z) (yA _)
 have h9:∀ x c,X.env.cells.lookup x=be c->∀ v,s.heap.IsCell c v->h'.IsCell c v:=λx c e v ⟨o,ho,hd⟩=>by
  have AR:c ∉ ch:=λz=>(s_ c z).2.2.1 x c e rfl;by_cases hc:c∈X.fs
  .obtain⟨sl,q⟩:=slot c o (I.cne x c e) hc AR ho (I.freeC x c e);exact⟨_,q,hd⟩
  .exact⟨o,keep c o (I.cne x c e) hc AR ho (I.freeC x c e),hd⟩
 refine⟨I.ok,I.os,hg,⟨λb o e n hb hx=>?_,λb o e n hb hx=>?_,λb o e n hx=>?_,λb o e hx=>?_,λb xs e=>tups b xs (I.base.tups b xs e),λb o xs e=>frzs b o xs (I.base.frzs b o xs e),λb ps e=>?_⟩,?_,λx c e=>?_,?_,λx c e=>?_,λp hp=>?_,hok,I.len⟩
 .exact keep b o (DR b o e) hb (BG b o e hx) (I.base.keep b o e n hb hx) (I.base.free b o e n hx)
 .obtain⟨sl,e1⟩:=I.base.slot b o e n hb hx;obtain⟨j9,e2⟩:=slot b _ (DR b o e) hb (BG b o e hx) e1 (I.base.free b o e n hx);exact⟨j9,e2⟩
 .obtain⟨o',e1⟩:=I.base.there b o e hx;exact free b o' (BG b o e hx) e1 (I.base.free b o e n hx)
 .obtain⟨o',e1⟩:=I.base.there b o e hx;exact there b o' (BG b o e hx) e1
 .obtain⟨m1,e1⟩:=I.base.tbls b ps e;obtain⟨m2,e2⟩:=tbls b _ e1;exact⟨m1++m2,by rw[e2,zI]⟩
 .obtain⟨m,hn,hl⟩:=I.loc;refine⟨m,ns m hn,λi x v e1 e2 e3=>?_⟩;obtain⟨u,r,l⟩:=hl i x v e1 e2 e3;refine⟨u,r,?_⟩;rcases l with l|⟨k,c,e,z⟩
  .exact .inl l
  .exact .inr ⟨k,c,e,h9 x c e _ z⟩
 .obtain⟨v,z⟩:=I.cell x c e;exact⟨v,h9 x c e v z⟩
 .obtain⟨m,⟨o,_,_,ho,_⟩,_⟩:=I.loc;exact free _ o (λz=>(s_ _ z).2.1 rfl) ho I.free
 .obtain⟨v,o,ho,hd⟩:=I.cell x c e;exact free c o (λz=>(s_ c z).2.2.1 x c e rfl) ho (I.freeC x c e)
 .obtain⟨e,n,ne,nf,d⟩:=I.pin p hp;have AR:p.1 ∉ ch:=λz=>(s_ p.1 z).2.2.2 p hp rfl;exact⟨keep p.1 p.2 ne nf AR e n,free p.1 p.2 AR e n,ne,nf,d⟩
def Inv.un{t':Nat}(I:Inv X pins σ H s)(u:Un X.fs [] H H' s.heap h')(hok:HOk X.prog X.w H' h'):Inv X pins σ H' {s with heap:=h',toks:=t'}:=by
 obtain⟨m,⟨o,es,ep,ho,r⟩,_⟩:=id I.loc;obtain⟨sl,hL⟩:=u.any ho I.free (by simp);exact I.step (g':=s.gens) (d':=s.drawn) (ch:=[]) (λ_ z=>nomatch z) (λb o _ hb _ e n=>u.keep b o e n hb (by simp)) (λb o _ hb _ e n=>u.slot b o e n hb (by simp)) (λb o _ e n=>u.free b o e n (by simp)) (λb o _ e=>u.there b o e (by simp)) u.tups u.frzs u.tbls (λm' hm=>by
  obtain⟨o',B6,B7,x',r'⟩:=hm;rw[ho] at x';cases x';exact⟨_,B6,B7,hL,r'⟩) hok I.bare
def Inv.call{g':Array H4}{t':Nat}{d':Drawn}{ch:List GD}(I:Inv X pins σ H s)(u:Un (frs X.stack) ch H H' s.heap h')(hok:HOk X.prog X.w H' h')(hg:Hi g')
  (s_:∀ b∈ch,(b∈X.ex\/X.s₀.heap.objs.size<=b)/\b≠X.env.locals/\(∀ x c,X.env.cells.lookup x=be c->c≠b)/\∀ p∈X.pn++pins,p.1≠b):
  Inv X pins σ H' {s with heap:=h',gens:=g',drawn:=d',toks:=t'}:=by
 obtain⟨m,⟨o,es,ep,ho,r⟩,_⟩:=id I.loc;obtain⟨sl,hL⟩:=u.any ho I.free λz=>(s_ _ z).2.1 rfl;exact I.step (ch:=ch) s_ (λb o hL hb hc e n=>u.keep b o e n (λz=>(xJ.mp (I.stkSub b z)).elim hL hb) hc) (λb o _ _ hc e n=>u.any e n hc) (λb o hc e n=>u.free b o e n hc) (λb o hc e=>u.there b o e hc) u.tups u.frzs u.tbls (λm' hm=>by
  obtain⟨o',B6,B7,x',r'⟩:=hm;rw[ho] at x';cases x';exact⟨_,B6,B7,hL,r'⟩) hok hg
def Inv.turned{t':Nat}{it:GD}(I:Inv X pins σ H s)(k:∀ b o,b≠it->s.heap.get? b=be o->h'.get? b=be o)(hn:H it=t8)(hL:it≠X.env.locals)
  (h1:it∈X.ex\/X.s₀.heap.objs.size<=it) (h2:∀ x c,X.env.cells.lookup x=be c->c≠it) (h3:∀ p∈X.pn++pins,p.1≠it):Inv X pins σ H {s with heap:=h',toks:=t'}:=by
 have x_:∀ b u,H b=be u->b≠it:=λb u e z=>by rw[z,hn] at e;cases e
 refine I.step (g':=s.gens) (d':=s.drawn) (ch:=[it]) (λb hb=>?_) (λb o _ _ hc e _=>k b o (λz=>hc (by simp[z])) e) (λb o _ _ hc e _=>⟨o.slots,k b o (λz=>hc (by simp[z])) e⟩) (λ_ _ _ _ n=>n)
  (λb o hc e=>⟨o,k b o (λz=>hc (by simp[z])) e⟩) (λ_ _ e=>e) (λ_ _ _ e=>e) (λb ps e=>⟨#[],by rw[e];simp⟩) (λm hm=>?_) (λb u e=>?_) I.bare
 .have e:b=it:=by simpa using hb
  subst e;exact⟨h1,hL,h2,h3⟩
 .obtain⟨o,es,ep,ho,r⟩:=hm;exact⟨o,es,ep,k _ o (Ne.symm hL) ho,r⟩
 .refine(I.hok b u e).stay (λc v hc q=>k c v ?_ q) (λ_ q=>q) λ_ _ q=>q;rcases hc with z|z
  .rw[z];exact x_ b u e
  .exact x_ c _ z
def Inv.tok(I:Inv X pins σ H s)(t:Nat):Inv X pins σ H {s with toks:=t}:=I.un (h':=s.heap) (t':=t) Un.refl I.hok
def Inv.kept{t':Nat}(I:Inv X pins σ H s)(k:∀ b u,s.heap.get? b=be u->h'.get? b=be u):Inv X pins σ H {s with heap:=h',toks:=t'}:=I.un (Un.kept k) (I.hok.kept k)
def Inv.laid{a:GD}{o:HO}{t':Nat}(I:Inv X pins σ H s)(k:∀ b u,s.heap.get? b=be u->h'.get? b=be u)(hp:s.heap.objs.size<=a)(new:ObjOk X.prog X.w (upd H a o) h' a o):
  Inv X pins σ (upd H a o) {s with heap:=h',toks:=t'}:=I.un (Un.laid k hp (I.hok.fresh hp)) (I.hok.laid k hp new)
def Inv.write{x e:GD}{o:HO}{t':Nat}(I:Inv X pins σ H s)(mu:Mut (H x))(he:e=x\/H e=be (.own x))(k:∀ b u,b≠e->s.heap.get? b=be u->h'.get? b=be u)(s9:∃ u,h'.get? e=be u)
  (new:ObjOk X.prog X.w (upd H x o) h' x o):Inv X pins σ (upd H x o) {s with heap:=h',toks:=t'}:=I.un (Un.write mu he k s9) (I.hok.write mu he k s9 new)
def Inv.pins_of{v6:List (GD × GZ)}(I:Inv X pins σ H s)(h:∀ p∈v6,s.heap.get? p.1=be p.2/\H p.1=t8/\p.1≠X.env.locals/\p.1 ∉ X.fs/\∀ v,p.2.data≠.cell v):Inv X v6 σ H s:=
 ⟨I.ok,I.os,I.bare,I.base,I.loc,I.cell,I.free,I.freeC,λp hp=>(yc.mp hp).elim (λz=>I.pin p (yB _ z)) (h p),I.hok,I.len⟩
def fS{N:List y8}(hN:N.Nodup){i j:Nat}{x:y8}(a:N[i]?=be x)(b:N[j]?=be x):i=j:=by
 obtain⟨h1,e1⟩:=xO.mp a;obtain⟨h2,e2⟩:=xO.mp b;exact(List.getElem_inj hN).mp (e1.trans e2.symm)
def nN{M:H0}{A:GN}{E:Da->GE->Prop}{i:Nat}{x:y8}{v:V}{u:Da}{Q:Unit->GE->Prop}(I:Inv X pins σ H s)(hN:X.N.Nodup)(hi:X.N[i]?=be x)(hx:Loc X.env.scope x)(r:RelV v u)
  (h:∀ s',Inv X pins (σ.set i (be v)) H s'->(∃ a,Heap.SameBut a s.heap s'.heap/\(a=X.env.locals\/X.env.cells.lookup x=be a))->Q () s') (hf:zFN X x:=by first|exact .inl rfl|exact .inr rfl|assumption):GL M A (storeName X.env x u) Q E s:=by
 obtain⟨m,hn,hl⟩:=id I.loc;have n9:(X.env.scope.kind== .class||(X.env.scope.kind== .module && X.env.locals !=X.env.globals))=false:=by rw[I.ok.kind];rfl
 have hiσ:i<σ.length:=by rw[I.len];exact(xO.mp hi).1
 have cne:=I.cne;have d_:∀ {a:GD} {h':Heap},(∃ o,s.heap.get? a=be o/\H a=t8)->Heap.SameBut a s.heap h'->HOk X.prog X.w H h':=λ{a h'} ha hs b ob e=>by
  obtain⟨_,_,v7⟩:=ha;refine(I.hok b ob e).stay (λc w' hc q=>(hs.2 c ?_).trans q) (λ_ q=>q) λ_ _ q=>q;rintro rfl;rcases hc with rfl|hc
  .rw[v7] at e;cases e
  .rw[v7] at hc;cases hc
 rcases hx with hk|hk
 .refine wpAny_storeName_local hk hn (λh' g5 hs=>?_) n9;obtain⟨oL,_,_,DU,_⟩:=id hn;refine h _ ⟨I.ok,I.os,I.bare,⟨λb o e n hb hx=>?_,λb o e n hb hx=>?_,I.base.free,λb o e hx=>?_,I.base.tups,I.base.frzs,I.base.tbls⟩,⟨_,g5,λj y v' e1 e2 e3=>?_⟩,λy c e=>?_,I.free,I.freeC,λp hp=>?_,d_ ⟨oL,DU,I.free⟩ hs,by simpa using I.len⟩ ⟨_,hs,.inl rfl⟩
  .exact(hs.2 b (xM (xV (Heap.lt_size e) I.ok.above))).trans (I.base.keep b o e n hb hx)
  .obtain⟨sl,e1⟩:=I.base.slot b o e n hb hx;exact⟨sl,(hs.2 b (xM (xV (Heap.lt_size e) I.ok.above))).trans e1⟩
  .obtain⟨o',e1⟩:=I.base.there b o e hx;exact⟨o',(hs.2 b (xM (xV (Heap.lt_size e) I.ok.above))).trans e1⟩
  .by_cases hj:j=i
   .subst hj;rw[hi] at e1;cases e1;rw[yf hiσ] at e2;cases e2;exact⟨u,r,.inl ⟨hk,by simp⟩⟩
   .rw[xL (Ne.symm hj)] at e2;obtain⟨u',r',q⟩:=hl j y v' e1 e2 e3;refine⟨u',r',?_⟩;rcases q with⟨k,e⟩|⟨k,c,e,z⟩
    .refine .inl ⟨k,?_⟩;have:y≠x:=λe=>hj (fS hN e1 (e ▸ hi));simp[this,e]
    .exact .inr ⟨k,c,e,z.sameBut hs (cne y c e)⟩
  .obtain⟨w',z⟩:=I.cell y c e;exact⟨w',z.sameBut hs (cne y c e)⟩
  .obtain⟨e,n,ne,nf,d⟩:=I.pin p hp;exact⟨(hs.2 p.1 ne).trans e,n,ne,nf,d⟩
 .have AS:X.fn x=true:=by
   rcases hf with z|z
   .exact z
   .rw[z] at hk;cases hk
  obtain⟨c,hc⟩:=I.ok.has x (.inl hk);obtain⟨w',z⟩:=I.cell x c hc;refine wpAny_storeName_cell I.ok.kind hk hc z (λh' AI hs=>?_);obtain⟨oc,DV,B8⟩:=id z;refine h {s with heap:=h'} ⟨I.ok,I.os,I.bare,⟨λb o e n hb hx=>?_,λb o e n hb hx=>?_,I.base.free,λb o e hx=>?_,I.base.tups,I.base.frzs,I.base.tbls⟩,⟨m,hn.sameBut hs (Ne.symm (cne x c hc)),λj y v' e1 e2 e3=>?_⟩,λy c' e=>?_,I.free,I.freeC,λp hp=>?_,d_ ⟨oc,DV,I.freeC x c hc⟩ hs,by simpa using I.len⟩ ⟨c,hs,.inr hc⟩
  .exact(hs.2 b (xM (xV (Heap.lt_size e) (I.ok.cab x c AS hc)))).trans (I.base.keep b o e n hb hx)
  .obtain⟨sl,e1⟩:=I.base.slot b o e n hb hx;exact⟨sl,(hs.2 b (xM (xV (Heap.lt_size e) (I.ok.cab x c AS hc)))).trans e1⟩
  .obtain⟨o',e1⟩:=I.base.there b o e hx;exact⟨o',(hs.2 b (xM (xV (Heap.lt_size e) (I.ok.cab x c AS hc)))).trans e1⟩
  .by_cases hj:j=i
   .subst hj;rw[hi] at e1;cases e1;rw[yf hiσ] at e2;cases e2;exact⟨u,r,.inr ⟨.inl hk,c,hc,AI⟩⟩
   .rw[xL (Ne.symm hj)] at e2;obtain⟨u',r',q⟩:=hl j y v' e1 e2 e3;refine⟨u',r',?_⟩;rcases q with q|⟨k,c',e,z'⟩
    .exact .inl q
    .refine .inr ⟨k,c',e,z'.sameBut hs ?_⟩;rintro rfl;exact hj (fS hN e1 (I.ok.inj _ _ _ e hc ▸ hi))
  .by_cases DY:c'=c
   .subst DY;exact⟨_,AI⟩
   .obtain⟨w2,z2⟩:=I.cell y c' e;exact⟨w2,z2.sameBut hs DY⟩
  .obtain⟨e,n,ne,nf,d⟩:=I.pin p hp;refine⟨(hs.2 p.1 ?_).trans e,n,ne,nf,d⟩;intro q;rw[q,DV] at e;have q':oc=p.2:=Option.some.inj e;exact d w' (by rw[<- q'];exact B8)
def fT{M:H0}{A:GN}{E:Da->GE->Prop}{i:Nat}{x:y8}{v:V}{u:Da}{Q:Unit->GE->Prop}(I:Inv X pins σ H s)(hN:X.N.Nodup)(hi:X.N[i]?=be x)(hx:Loc X.env.scope x)(r:RelV v u)
  (h:∀ s',Inv X pins (σ.set i (be v)) H s'->Q () s') (hf:zFN X x:=by first|exact .inl rfl|exact .inr rfl|assumption):GL M A (storeName X.env x u) Q E s:=
 nN I hN hi hx r (λs' I' _=>h s' I') hf
def Inv.call'{s':GE}{ch:List GD}(I:Inv X pins σ H s)(ho:s'.os=s.os)(u:Un (frs X.stack) ch H H' s.heap s'.heap)(hok:HOk X.prog X.w H' s'.heap)(hg:Hi s'.gens)
  (s_:∀ b∈ch,(b∈X.ex\/X.s₀.heap.objs.size<=b)/\b≠X.env.locals/\(∀ x c,X.env.cells.lookup x=be c->c≠b)/\∀ p∈X.pn++pins,p.1≠b):Inv X pins σ H' s':=by
 obtain⟨h',g',d',t',o'⟩:=s';have e:o'=s.os:=ho;subst e;exact I.call (g':=g') (t':=t') (d':=d') u hok hg s_
end
abbrev XK:=Da->Option GD->Hp->Prop
abbrev St:=List (Option V)
abbrev VK:=V->Hp->Prop
abbrev TE:=St->Hp->VK->Prop
abbrev TT:=St->Hp->(Bool->Hp->Prop)->Prop
abbrev TA:=St->Hp->(List V->Hp->Prop)->Prop
structure Ends where
 nx:St->Hp->Prop
 rt:VK
 bk:St->Hp->Prop:=λ_ _=>False
 ct:St->Hp->Prop:=λ_ _=>False
abbrev TS:=Ends->St->Hp->Prop
def EP(X:Cx)(pins:List (GD × GZ))(σ:St)(Q:VK)(u:Da)(s':GE):Prop:=∃ v H',Inv X pins σ H' s'/\RelV v u/\Q v H'
def TP(X:Cx)(pins:List (GD × GZ))(σ:St)(Q:Bool->Hp->Prop)(b:Bool)(s':GE):Prop:=∃ H',Inv X pins σ H' s'/\Q b H'
def AP(X:Cx)(pins:List (GD × GZ))(σ:St)(Q:List V->Hp->Prop)(us:List Da)(s':GE):Prop:=∃ vs H',Inv X pins σ H' s'/\Vals vs us/\Q vs H'
def SP(X:Cx)(pins:List (GD × GZ))(D:Ends)(f:Flow)(s':GE):Prop:=
 match f with
 | .next=>∃ σ' H',Inv X pins σ' H' s'/\D.nx σ' H'
 | .brk=>∃ σ' H',Inv X pins σ' H' s'/\D.bk σ' H'
 | .cont=>∃ σ' H',Inv X pins σ' H' s'/\D.ct σ' H'
 | .ret u=>∃ v σ' H',Inv X pins σ' H' s'/\RelV v u/\D.rt v H'
def PE(X:Cx)(e:GI)(t:TE):Prop:=
 ∀ (pins:List (GD × GZ)) (s:GE) (σ:St) (H:Hp) (Q:VK),Inv X pins σ H s->t σ H Q->GL (GJ X.prog X.w) X.A (GS e X.env) (EP X pins σ Q) X.xe s
def PT(X:Cx)(e:GI)(t:TT):Prop:=
 ∀ (pins:List (GD × GZ)) (s:GE) (σ:St) (H:Hp) (Q:Bool->Hp->Prop),Inv X pins σ H s->t σ H Q->GL (GJ X.prog X.w) X.A (isTrue e X.env (GS e X.env)) (TP X pins σ Q) X.xe s
def PW(X:Cx)(e:GI)(t:TT):Prop:=
 ∀ (f7:Il Da) (pins:List (GD × GZ)) (s:GE) (σ:St) (H:Hp) (Q:Bool->Hp->Prop),Inv X pins σ H s->t σ H Q->GL (GJ X.prog X.w) X.A (isTrue e X.env f7) (TP X pins σ Q) X.xe s
def PW.pt{X:Cx}{e:GI}{t:TT}(h:PW X e t):PT X e t:=h _
def PA(X:Cx)(es:List GI)(t:TA):Prop:=
 ∀ (pos:GV) (pins:List (GD × GZ)) (s:GE) (σ:St) (H:Hp) (Q:List V->Hp->Prop),Inv X pins σ H s->t σ H Q->GL (GJ X.prog X.w) X.A (spliced (Ha pos (GO es X.env))) (AP X pins σ Q) X.xe s
def PS(X:Cx)(st:GK)(t:TS):Prop:=
 ∀ (pins:List (GD × GZ)) (s:GE) (σ:St) (H:Hp) (D:Ends),Inv X pins σ H s->t D σ H->GL (GJ X.prog X.w) X.A (exec st X.env) (SP X pins D) X.xe s
def PSs(X:Cx)(st:List GK)(t:TS):Prop:=
 ∀ (pins:List (GD × GZ)) (s:GE) (σ:St) (H:Hp) (D:Ends),Inv X pins σ H s->t D σ H->GL (GJ X.prog X.w) X.A (execs st X.env) (SP X pins D) X.xe s
def thn{α:Type}{t:Il α}{Q Q':α->GE->Prop}{M:H0}{A:GN}{E:Da->GE->Prop}{s:GE}(h:GL M A t Q E s)(hQ:∀ a s,Q a s->Q' a s):GL M A t Q' E s:=G4 h hQ λ_ _ x=>x
section
variable {X:Cx}
def tVar(i:Nat):TE:=λσ H Q=>∃ v,σ[i]?=be (be v)/\Q v H
def tC(v:V):TE:=λ_ H Q=>Q v H
def cN{i:Nat}{x:y8}{pos:GV}(hN:X.N[i]?=be x)(hv:Vis X.env.scope x)(hd:zND x:=by decide)(e_:zNC x:=by decide):PE X (.Name x pos) (tVar i):=by
 intro pins s σ H Q I h;obtain⟨v,e,h⟩:=h;obtain⟨m,hn,hl⟩:=I.loc;obtain⟨u,r,l⟩:=hl i x v hN e hv;have e8:EP X pins σ Q u s:=⟨v,H,I,r,h⟩;rcases l with⟨hk,hm⟩|⟨hk,c,hc,v8⟩
 .exact Ia (wpAny_loadName_local I.ok.kind hk hn hm e8) hd
 .rcases hk with hk|hk
  .exact Ia (wpAny_loadName_cell I.ok.kind hk hc v8 e8) hd
  .exact Ia (wpAny_loadName_free I.ok.kind hk hc v8 e8 e_) hd
def nO{i j pos}:PE X (.Constant (.int i) j pos) (tC (.int i)):=λ_ _ _ H _ I h=>wpAny_Constant_int ⟨.int i,H,I.tok _,⟨_,rfl⟩,h⟩
def nP{b j pos}:PE X (.Constant (.bool b) j pos) (tC (.bl b)):=λ_ _ _ H _ I h=>Constant_bool ⟨.bl b,H,I,rfl,h⟩
def nQ{j pos}:PE X (.Constant .none j pos) (tC .non):=λ_ _ _ H _ I h=>Constant_none ⟨.non,H,I,rfl,h⟩
def jJ{x j pos}:PE X (.Constant (.str x) j pos) (tC (.str x)):=λ_ _ _ H _ I h=>Calls.Constant_str ⟨.str x,H,I.tok _,⟨_,rfl⟩,h⟩
def Gl(X:Cx)(x:y8):Prop:=X.env.kindOf x=be .globalImplicit
def bL{E:Da->GE->Prop}{pins:List (GD × GZ)}{s:GE}{σ:St}{H:Hp}{x:y8}{u:Da}{pos:GV}{Q:Da->GE->Prop}(I:Inv X pins σ H s)(hg:Gl X x)(hm:X.mg x=be u)(h:Q u s)
  (hd:zND x:=by decide):GL (GJ X.prog X.w) X.A (GS (.Name x pos) X.env) Q E s:=
 Calls.Name_function_global I.ok.kind hg (Calls.loadGlobal_global (by rw[I.ok.glob];exact I.mod.glob.keeps I.bk) hm h) hd
def ce{E:Da->GE->Prop}{pins:List (GD × GZ)}{s:GE}{σ:St}{H:Hp}{x:y8}{u:Da}{pos:GV}{Q:Da->GE->Prop}(I:Inv X pins σ H s)(hg:Gl X x)(hm:X.mg x=t8)(hv:GY x=be u)(h:Q u s)
  (hn:x≠"__name__":=by decide) (hd:zND x:=by decide):GL (GJ X.prog X.w) X.A (GS (.Name x pos) X.env) Q E s:=by
 obtain⟨mb,h1,h2⟩:=I.mod.blt;exact Calls.Name_function_global I.ok.kind hg (Calls.loadGlobal_builtin (by rw[I.ok.glob];exact I.mod.glob.keeps I.bk) hm (by rw[I.ok.blt];exact h1.keeps I.bk) ((h2 x hn).trans hv) h) hd
def nR{x:y8}{v:V}{u:Da}{pos:GV}(hg:Gl X x)(hm:X.mg x=be u)(r:RelV v u)(hd:zND x:=by decide):PE X (.Name x pos) (tC v):=
 λ_ _ _ H _ I h=>bL I hg hm ⟨v,H,I,r,h⟩ hd
def nS{x:y8}{v:V}{u:Da}{pos:GV}(hg:Gl X x)(hm:X.mg x=t8)(hv:GY x=be u)(r:RelV v u)(hn:x≠"__name__":=by decide)(hd:zND x:=by decide):PE X (.Name x pos) (tC v):=
 λ_ _ _ H _ I h=>ce I hg hm hv ⟨v,H,I,r,h⟩ hn hd
variable {a b:GI}{ta tb:TE}{pos:GV}
def tB(t:TE):TT:=λσ H Q=>t σ H λx H1=>∃ c,x= .bl c/\Q c H1
variable {tA AT:TT}{rest:List GI}
def tAnd(t u:TT):TT:=λσ H Q=>t σ H λc H1=>if c=true then u σ H1 Q else Q false H1
def tOr(t u:TT):TT:=λσ H Q=>t σ H λc H1=>if c=true then Q true H1 else u σ H1 Q
def nU(ha:PT X a tA):PW X (.BoolOp .And [a] pos) tA:=by
 intro wh pins s σ H Q I h;refine isTrue_and (thn (ha pins s σ H Q I h) λc s1 e=>?_);cases c with
 |true=>exact isTrue_and_nil e
 |false=>exact e
def nV(ha:PT X a tA):PW X (.BoolOp .Or [a] pos) tA:=by
 intro wh pins s σ H Q I h;refine isTrue_or (thn (ha pins s σ H Q I h) λc s1 e=>?_);cases c with
 |false=>exact isTrue_or_nil e
 |true=>exact e
def nW(ha:PT X a tA)(hb:PW X (.BoolOp .And (b::rest) pos) AT):PW X (.BoolOp .And (a::b::rest) pos) (tAnd tA AT):=by
 intro wh pins s σ H Q I h;refine isTrue_and (thn (ha pins s σ H _ I h) λc s1 d7=>?_);obtain⟨H1,I1,q1⟩:=d7;cases c with
 |true=>exact hb wh pins s1 σ H1 Q I1 q1
 |false=>exact⟨H1,I1,q1⟩
def nX(ha:PT X a tA)(hb:PW X (.BoolOp .Or (b::rest) pos) AT):PW X (.BoolOp .Or (a::b::rest) pos) (tOr tA AT):=by
 intro wh pins s σ H Q I h;refine isTrue_or (thn (ha pins s σ H _ I h) λc s1 d7=>?_);obtain⟨H1,I1,q1⟩:=d7;cases c with
 |true=>exact⟨H1,I1,q1⟩
 |false=>exact hb wh pins s1 σ H1 Q I1 q1
def nY(ta tb:TE):TE:=λσ H Q=>ta σ H λx H1=>∃ c,x= .bl c/\if c=true then tb σ H1 Q else Q (.bl false) H1
def nZ(ta:TE):TE:=λσ H Q=>ta σ H λx H1=>∃ c,x= .bl c/\Q (.bl (!c)) H1
def oa{op}{t:TE}(h:PE X a t):PE X (.BoolOp op [a] pos) t:=λpins s σ H Q I hw=>BoolOp_one (h pins s σ H Q I hw)
def og(ha:PE X a ta)(hb:PE X (.BoolOp .And (b::rest) pos) tb):PE X (.BoolOp .And (a::b::rest) pos) (nY ta tb):=by
 intro pins s σ H Q I h;refine BoolOp_and (thn (ha pins s σ H _ I h) λv s1 d7=>?_);obtain⟨x,H1,I1,r1,q1⟩:=d7;obtain⟨c,rfl,q1⟩:=q1;cases r1;refine Hg ?_;cases c with
 |true=>exact hb pins s1 σ H1 Q I1 q1
 |false=>exact⟨.bl false,H1,I1,rfl,q1⟩
def oh(ha:PE X a ta):PE X (.UnaryOp .Not a pos) (nZ ta):=by
 intro pins s σ H Q I h;refine UnaryOp_ (thn (ha pins s σ H _ I h) λv s1 d7=>?_);obtain⟨x,H1,I1,r1,q1⟩:=d7;obtain⟨c,rfl,q1⟩:=q1;cases r1;exact not_of (Hg ⟨.bl (!c),H1,I1,rfl,q1⟩)
def tIf(t:TT)(ta tb:TE):TE:=λσ H Q=>t σ H λc H1=>if c=true then ta σ H1 Q else tb σ H1 Q
def oi{c:GI}(hc:PT X c tA)(ha:PE X a ta)(hb:PE X b tb):PE X (.IfExp c a b pos) (tIf tA ta tb):=by
 intro pins s σ H Q I h;refine wpAny_IfExp (thn (hc pins s σ H _ I h) λd s1 d7=>?_);obtain⟨H1,I1,q1⟩:=d7;cases d with
 |true=>exact ha pins s1 σ H1 Q I1 q1
 |false=>exact hb pins s1 σ H1 Q I1 q1
end
def SqL(K:xE)(H:Hp)(a:GD)(xs:List V):Prop:=
 Rd H a (.lst xs)\/
  ∃ (o:GZ) (a_:Array Da) (n:Nat),K.lookup a=be o/\o.cls= .type "list"/\o.dict=t8/\o.data= .seq a_ n/\a_.size<=sizeLine/\Vals xs a_.toList
def SqT(K:xE)(H:Hp)(a:GD)(xs:List V):Prop:=
 Rd H a (.tup xs)\/
  ∃ (o:GZ) (a_:Array Da) (n:Nat),K.lookup a=be o/\o.cls= .type "tuple"/\o.data= .seq a_ n/\a_.size<=sizeLine/\Vals xs a_.toList
def absV:Da->Option V
 | .none=>be .non
 | .bool b=>be (.bl b)
 | .int i _=>be (.int i)
 | .str x _=>be (.str x)
 | .bytes b _=>be (.byt b)
 | .float b _=>be (.flt b)
 | .ref a=>be (.ref a)
 | .type n=>be (.ty n)
 |_=>t8
def RelV.abs{x:V}{u:Da}(r:RelV x u):absV u=be x:=by
 cases x with
 |non=>cases r;rfl
 |bl _=>cases r;rfl
 |int _=>obtain⟨t,rfl⟩:=r;rfl
 |str _=>obtain⟨t,rfl⟩:=r;rfl
 |byt _=>obtain⟨t,rfl⟩:=r;rfl
 |flt _=>obtain⟨t,rfl⟩:=r;rfl
 |ref _=>cases r;rfl
 |ty _=>cases r;rfl
def RelV.inj{x y:V}{u:Da}(r:RelV x u)(q:RelV y u):x=y:=Option.some.inj (r.abs.symm.trans q.abs)
def Vals.inj:∀ {xs ys:List V} {us:List Da},Vals xs us->Vals ys us->xs=ys:=by
 intro xs ys us h;induction h generalizing ys with
 |nil=>intro g;cases g;rfl
 |cons r _ e=>
  intro g;cases g with
  |cons r' t'=>rw[r.inj r',e t']
section
variable {X:Cx}{pins:List (GD × GZ)}{σ:St}{H:Hp}{s:GE}{a:GD}{xs ys:List V}
def SqL.of{K:xE}(h:H a=be (.lst xs)):SqL K H a xs:= .inl (.inl h)
def SqT.of{K:xE}(h:H a=be (.tup xs)):SqT K H a xs:= .inl (.inl h)
def Inv.list(I:Inv X pins σ H s)(h:SqL X.K H a xs):∃ a_:List Da,Vals xs a_/\PlainL s.heap a a_.toArray/\xs.length<=sizeLine:=by
 rcases h with h|⟨o,a_,n,hk,hc,hd,hs,hz,r⟩
 .obtain⟨z,a_,n,r,e⟩:=h.ok I.hok;exact⟨a_,r,⟨_,n,e,rfl,rfl,rfl⟩,z⟩
 .refine⟨a_.toList,r,⟨o,n,I.kIn a o hk,hc,hd,by simpa using hs⟩,?_⟩;have e:=r.length;simp only[zK] at e;lia
def Inv.tuple(I:Inv X pins σ H s)(h:SqT X.K H a xs):∃ a_:List Da,Vals xs a_/\IsTup s.heap a a_.toArray/\xs.length<=sizeLine:=by
 rcases h with h|⟨o,a_,n,hk,hc,hs,hz,r⟩
 .obtain⟨z,a_,r,p⟩:=h.ok I.hok;exact⟨a_,r,p,z⟩
 .refine⟨a_.toList,r,⟨o,I.kIn a o hk,hc,n,by simpa using hs⟩,?_⟩;have e:=r.length;simp only[zK] at e;lia
def Inv.list_inj(I:Inv X pins σ H s)(h:SqL X.K H a xs)(h':SqL X.K H a ys):xs=ys:=by
 obtain⟨a_,r,⟨o,n,e,_,_,d⟩,_⟩:=I.list h;obtain⟨its',r',⟨o',n',e',_,_,d'⟩,_⟩:=I.list h';rw[e] at e';cases e';rw[d] at d';injection d' with d1 _;have:a_=its':=by simpa using congrArg Array.toList d1
 subst this;exact r.inj r'
end
abbrev Cx.wish(X:Cx)(E:Da->GE->Prop):Cx:={X with xe:=E}
abbrev Cx.nox(X:Cx):Cx:=X.wish λ_ _=>False
def Cx.Ok.wish{X:Cx}(ok:X.Ok)(E:Da->GE->Prop):(X.wish E).Ok:=
 ⟨ok.mod,ok.kind,ok.glob,ok.blt,ok.above,ok.inj,ok.has,ok.cab,ok.hd,ok.frames,ok.stk,ok.exf,ok.bs,ok.bsz,ok.noex,ok.exfs,ok.funs,ok.frf⟩
def Cx.Ok.unwish{X:Cx}{E:Da->GE->Prop}(ok:(X.wish E).Ok):X.Ok:=
 ⟨ok.mod,ok.kind,ok.glob,ok.blt,ok.above,ok.inj,ok.has,ok.cab,ok.hd,ok.frames,ok.stk,ok.exf,ok.bs,ok.bsz,ok.noex,ok.exfs,ok.funs,ok.frf⟩
section
variable {X:Cx}{pins:List (GD × GZ)}{σ:St}{H:Hp}{s:GE}{E:Da->GE->Prop}
def Inv.wish(I:Inv X pins σ H s)(E:Da->GE->Prop):Inv (X.wish E) pins σ H s:=⟨I.ok.wish E,I.os,I.bare,I.base,I.loc,I.cell,I.free,I.freeC,I.pin,I.hok,I.len⟩
def Inv.unwish(I:Inv (X.wish E) pins σ H s):Inv X pins σ H s:=⟨I.ok.unwish,I.os,I.bare,I.base,I.loc,I.cell,I.free,I.freeC,I.pin,I.hok,I.len⟩
def SP.unwish{D:Ends}{f:Flow}{s':GE}(h:SP (X.wish E) pins D f s'):SP X pins D f s':=by
 cases f with
 |next=>obtain⟨σ',H',I,q⟩:=h;exact⟨σ',H',I.unwish,q⟩
 |brk=>obtain⟨σ',H',I,q⟩:=h;exact⟨σ',H',I.unwish,q⟩
 |cont=>obtain⟨σ',H',I,q⟩:=h;exact⟨σ',H',I.unwish,q⟩
 |ret u=>obtain⟨v,σ',H',I,r,q⟩:=h;exact⟨v,σ',H',I.unwish,r,q⟩
def PE.nox{e:GI}{t:TE}(h:PE X.nox e t):PE X e t:=λpins s σ H Q I hw=>
 G4 (h pins s σ H Q (I.wish _) hw) (λ_ _ ⟨v,H',I',r,q⟩=>⟨v,H',I'.unwish,r,q⟩) λ_ _ z=>False.elim z
def PT.nox{e:GI}{t:TT}(h:PT X.nox e t):PT X e t:=λpins s σ H Q I hw=>
 G4 (h pins s σ H Q (I.wish _) hw) (λ_ _ ⟨H',I',q⟩=>⟨H',I'.unwish,q⟩) λ_ _ z=>False.elim z
def PSs.nox{st:List GK}{t:TS}(h:PSs X.nox st t):PSs X st t:=λpins s σ H D I hw=>
 G4 (h pins s σ H D (I.wish _) hw) (λ_ _ q=>q.unwish) λ_ _ z=>False.elim z
end
section
variable {X:Cx}{st:GK}{rest:List GK}{t u:TS}{e:GI}{te:TE}{pos:GV}
def oj:TS:=λD σ H=>D.nx σ H
def tSeq(t u:TS):TS:=λD σ H=>t {D with nx:=u D} σ H
def pss_nil:PSs X [] oj:=λ_ _ σ H _ I h=>G_ ⟨σ,H,I,h⟩
def dg(h1:PS X st t)(h2:PSs X rest u):PSs X (st::rest) (tSeq t u):=by
 intro pins s σ H D I h;refine wpAny_execs_cons (thn (h1 pins s σ H {D with nx:=u D} I h) λf s1 q=>?_);cases f with
 |next=>
  obtain⟨σ',H',I',q⟩:=q;exact h2 pins s1 σ' H' D I' q
 |ret v=>exact q
 |brk=>exact q
 |cont=>exact q
def jK(h1:PS X st t):PSs X [st] t:=by
 intro pins s σ H D I h;refine wpAny_execs_cons (thn (h1 pins s σ H D I h) λf s1 q=>?_);cases f with
 |next=>exact G_ q
 |ret v=>exact q
 |brk=>exact q
 |cont=>exact q
def Inv.quiet{pins:List (GD × GZ)}{σ:St}{H:Hp}{s:GE}(I:Inv X pins σ H s):interactive X.env=false:=by simp[interactive,I.ok.kind]
def ol(te:TE):TS:=λD σ H=>te σ H λ_ H1=>D.nx σ H1
def fU(he:PE X e te)(hs:G2 e t8 pos.line X.env=pure false:=by rfl):PS X (.Expr e pos) (ol te):=by
 intro pins s σ H D I h;exact wpAny_Expr_any (thn (he pins s σ H _ I h) λv s1 ⟨x,H1,I1,r1,q1⟩=>⟨σ,H1,I1,q1⟩) I.quiet hs
def tRet(te:TE):TS:=λD σ H=>te σ H D.rt
def jL(he:PE X e te):PS X (.Return (be e) pos) (tRet te):=by
 intro pins s σ H D I h;exact wpAny_Return_some (thn (he pins s σ H _ I h) λv s1 ⟨x,H1,I1,r1,q1⟩=>⟨x,σ,H1,I1,r1,q1⟩)
def tIfS(c:TT)(t u:TS):TS:=λD σ H=>c σ H λb H1=>if b=true then t D σ H1 else u D σ H1
def jM{c:GI}{a b:List GK}{tc:TT}(hc:PT X c tc)(ha:PSs X a t)(hb:PSs X b u):PS X (.If c a b pos) (tIfS tc t u):=by
 intro pins s σ H D I h;refine wpAny_If (thn (hc pins s σ H _ I h) λd s1 d7=>?_);obtain⟨H1,I1,q1⟩:=d7;cases d with
 |true=>exact ha pins s1 σ H1 D I1 q1
 |false=>exact hb pins s1 σ H1 D I1 q1
end
abbrev TG:=V->St->Hp->(St->Hp->Prop)->Prop
abbrev TGs:=List V->St->Hp->(St->Hp->Prop)->Prop
def PG(X:Cx)(y7:GI)(t:TG):Prop:=
 ∀ (pins:List (GD × GZ)) (s:GE) (σ:St) (H:Hp) (v:V) (u:Da) (Q:St->Hp->Prop),Inv X pins σ H s->RelV v u->t v σ H Q->
  GL (GJ X.prog X.w) X.A (Ih y7 X.env u) (λ_ s'=>∃ σ' H',Inv X pins σ' H' s'/\Q σ' H') X.xe s
def PGs(X:Cx)(ts:List GI)(t:TGs):Prop:=
 ∀ (pins:List (GD × GZ)) (s:GE) (σ:St) (H:Hp) (vs:List V) (us:List Da) (Q:St->Hp->Prop),Inv X pins σ H s->Vals vs us->t vs σ H Q->
  GL (GJ X.prog X.w) X.A (assignInOrder ((GT ts X.env).map (·.2)) us) (λ_ s'=>∃ σ' H',Inv X pins σ' H' s'/\Q σ' H') X.xe s
section
variable {X:Cx}{pos:GV}
def jN(i:Nat):TG:=λv σ H Q=>Q (σ.set i (be v)) H
def dh{i:Nat}{x:y8}(hN:X.N.Nodup)(hi:X.N[i]?=be x)(hx:Loc X.env.scope x)(hf:zFN X x:=by first|exact .inl rfl|exact .inr rfl|assumption):PG X (.Name x pos) (jN i):=by
 intro pins s σ H v u Q I r h;exact wpAny_assign_Name (fT I hN hi hx r (λs' I'=>⟨_,H,I',h⟩) hf)
def gNil:TGs:=λvs σ H Q=>vs=[]/\Q σ H
def om(t:TG)(u:TGs):TGs:=λvs σ H Q=>∃ v r,vs=v::r/\t v σ H λσ' H'=>u r σ' H' Q
def on:PGs X [] gNil:=by
 intro pins s σ H vs us Q I r h;obtain⟨e,h⟩:=h;subst e;cases r;exact assignInOrder_nil ⟨σ,H,I,h⟩
def oo{e:GI}{es:List GI}{t:TG}{u:TGs}(h1:PG X e t)(h2:PGs X es u)
  (hs:(GT (e::es) X.env).map (·.2)=Ih e X.env::(GT es X.env).map (·.2):=by rfl):PGs X (e::es) (om t u):=by
 intro pins s σ H vs us Q I r h;obtain⟨v,vr,e1,h⟩:=h;subst e1;cases r with
 |cons r rr=>
  rw[hs];refine assignInOrder_cons (thn (h1 pins s σ H _ _ _ I r h) λ_ s1 d7=>?_);obtain⟨σ1,H1,I1,q1⟩:=d7;exact h2 pins s1 σ1 H1 _ _ Q I1 rr q1
def gTup(K:xE)(n:Nat)(t:TGs):TG:=λv σ H Q=>∃ a xs,v= .ref a/\SqT K H a xs/\xs.length=n/\t xs σ H Q
def jO{es:List GI}{k:Nat}{t:TGs}{n:Nat}(hc:X.calm=true)(h:PGs X es t)
  (hn:(GT es X.env).length=n:=by rfl) (n_:(GT es X.env).findIdx? (·.1)=none:=by rfl):PG X (.Tuple es k pos) (gTup X.K n t):=by
 intro pins s σ H v u Q I r hw;obtain⟨a,xs,e1,hq,hl,hw⟩:=hw;subst e1;cases r;obtain⟨a_,rv,ht,hz⟩:=I.tuple hq;refine assign_Tuple_tuple (I.ok.hd hc) ht (by simp[hn,<- hl,rv.length]) n_ λh' hx=>?_;have I1:Inv X pins σ H {s with heap:=h'}:=I.kept (t':=s.toks) λb o e=>hx b o (xM (Heap.lt_size e)) e;exact h pins _ σ H xs _ Q I1 (by simpa using rv) hw
def tAsg(te:TE)(g:TG):TS:=λD σ H=>te σ H λx H1=>g x σ H1 D.nx
def oq{tg e:GI}{te:TE}{g:TG}(he:PE X e te)(hg:PG X tg g)(hs:swapsWithSole [tg] e pos.line X.env=pure false:=by rfl)(hw:swappedStores [tg] e X.env=pure none:=by rfl)
  (h1:(GT [tg] X.env).map (·.2)=[Ih tg X.env]:=by rfl):PS X (.Assign [tg] e pos) (tAsg te g):=by
 intro pins s σ H D I h;refine wpAny_Assign_stores (thn (he pins s σ H _ I h) λv s1 hh=>?_) hs hw;obtain⟨x,H1,I1,r1,q1⟩:=hh;rw[h1];exact thn (hg pins s1 σ H1 x v _ I1 r1 q1) λ_ s2 q=>q
def fV{i:Nat}{x:y8}{e:GI}{te:TE}{c8:GV}(hN:X.N.Nodup)(hi:X.N[i]?=be x)(hx:Loc X.env.scope x)(he:PE X e te)(hs:G2 e (be (.Name x c8)) pos.line X.env=pure false:=by rfl)(hf:zFN X x:=by first|exact .inl rfl|exact .inr rfl|assumption):
  PS X (.Assign [.Name x c8] e pos) (tAsg te (jN i)):=by
 intro pins s σ H D I h;refine wpAny_Assign_Name (thn (he pins s σ H _ I h) λv s1 hh=>?_) hs;obtain⟨y,H1,I1,r1,q1⟩:=hh;exact fT I1 hN hi hx r1 (λs2 I2=>⟨_,H1,I2,q1⟩) hf
def ot(c:TT)(tb:TS):TS:=λD σ H=>∃ W:Nat->St->Hp->Prop,(∃ m,W m σ H)/\∀ m σ H,W m σ H->
 c σ H λb H1=>if b=true then ∃ N:St->Hp->Prop,(∀ σ' H',N σ' H'->∃ m',m'<m/\W m' σ' H')/\tb {D with nx:=N,ct:=N,bk:=D.nx} σ H1 else D.nx σ H1
def jP{c:GI}{body:List GK}{tc:TT}{tb:TS}(hp:G7 (GJ X.prog X.w) X.A X.env X.xe)(hc:PT X c tc)(hb:PSs X body tb):PS X (.While c body [] pos) (ot tc tb):=by
 intro pins s σ H D I h;obtain⟨W,⟨m0,w0⟩,d0⟩:=h;refine wpAny_While (codeAny_whileLoop (λn s'=>∃ σ' H',Inv X pins σ' H' s'/\W n σ' H') ?_ m0 ⟨σ,H,I,w0⟩);rintro n s1 ⟨σ1,H1,I1,w1⟩;refine G5 hp (thn (hc pins s1 σ1 H1 _ I1 (d0 n σ1 H1 w1)) λb s2 d7=>?_);obtain⟨H2,I2,q2⟩:=d7;cases b with
 |true=>
  obtain⟨N,hN,q2⟩:=q2;rw[if_pos rfl];refine G5 hp (thn (hb pins s2 σ1 H2 _ I2 q2) λf s3 q3=>?_);cases f with
  |next=>
   obtain⟨σ3,H3,I3,n3⟩:=q3;obtain⟨m',hm,w3⟩:=hN σ3 H3 n3;exact⟨m',hm,σ3,H3,I3,w3⟩
  |cont=>
   obtain⟨σ3,H3,I3,n3⟩:=q3;obtain⟨m',hm,w3⟩:=hN σ3 H3 n3;exact⟨m',hm,σ3,H3,I3,w3⟩
  |brk=>exact q3
  |ret v=>exact q3
 |false=>
  rw[if_neg xK];exact G_ ⟨σ1,H2,I2,q2⟩
end
structure It where
 go:Nat->Hp->Prop
 yld:Nat->Hp->V->Hp->Prop
 stop:Nat->Hp->Prop
def FpOk(X:Cx)(pins:List (GD × GZ))(H:Hp)(b:GD):Prop:=
 H b=t8/\b≠X.env.locals/\b ∉ X.fs/\(b∈X.ex\/X.s₀.heap.objs.size<=b)/\(∀ x c,X.env.cells.lookup x=be c->c≠b)/\∀ p∈X.pn++pins,p.1≠b
def Inv.fpOk{X:Cx}{pins:List (GD × GZ)}{σ:St}{H H':Hp}{s:GE}{b:GD}(I:Inv X pins σ H s)(hb:s.heap.objs.size<=b)(hn:H' b=t8):FpOk X pins H' b:=by
 refine⟨hn,yC (xV I.lt hb),I.nofs hb,.inr (xR I.sz hb),λx c e z=>?_,λp hp z=>?_⟩
 .obtain⟨v,q⟩:=I.cell x c e;exact absurd (xV q.lt (by rw[z];exact hb)) (yA _)
 .exact absurd (xV (Heap.lt_size (I.pin p hp).1) (by rw[z];exact hb)) (yA _)
structure Turn(P:GH)(w:GM)(K:xE)(tg:GI)(J:It)(fp:List GD)(it:GD)(tn:Nat->Heap->Prop):Prop where
 mem:it∈fp
 obj:∀ i h,tn i h->∀ b∈fp,∃ o,h.get? b=be o/\∀ v,o.data≠.cell v
 keep:∀ i h h',tn i h->(∀ b∈fp,∀ o,h.get? b=be o->h'.get? b=be o)->tn i h'
 item:∀ (X:Cx),X.prog=P->X.w=w->X.K=K->X.calm=true->∀ (i:Nat) (pins:List (GD × GZ)) (s:GE) (σ:St) (H:Hp) (E:Da->GE->Prop),Inv X pins σ H s->(∀ b∈fp,FpOk X pins H b)->tn i s.heap->J.go i H->
  GL (GJ P w) X.A (pyNext (.ref it)) (λr s1=>∃ u,r=be u/\
   GL (GJ P w) X.A (HD tg (.ref it) u) (λ_ s2=>∃ x H',Inv X pins σ H' s2/\RelV x u/\J.yld i H x H'/\tn (i+1) s2.heap/\∀ b∈fp,H' b=t8) E s1) E s
 done:∀ (X:Cx),X.prog=P->X.w=w->X.K=K->X.calm=true->∀ (i:Nat) (pins:List (GD × GZ)) (s:GE) (σ:St) (H:Hp) (E:Da->GE->Prop),Inv X pins σ H s->(∀ b∈fp,FpOk X pins H b)->tn i s.heap->J.stop i H->
  GL (GJ P w) X.A (pyNext (.ref it)) (λr s1=>r=t8/\Inv X pins σ H s1) E s
 self:∀ (A:GN) (i:Nat) (s:GE) (Q:Da->GE->Prop) (E:Da->GE->Prop),tn i s.heap->Q (.ref it) s->GL (GJ P w) A (pyIter (.ref it)) Q E s
abbrev TI:=St->Hp->(It->Hp->Prop)->Prop
def PIE(X:Cx)(pins:List (GD × GZ))(σ:St)(tg:GI)(R:It->Hp->Prop)(DZ:Da)(s2:GE):Prop:=
 ∃ (it:GD) (fp:List GD) (tn:Nat->Heap->Prop) (J:It) (H':Hp),DZ= .ref it/\Inv X pins σ H' s2/\Turn X.prog X.w X.K tg J fp it tn/\tn 0 s2.heap/\(∀ b∈fp,FpOk X pins H' b)/\R J H'
def PI(X:Cx)(tg iter:GI)(wi:TI):Prop:=
 ∀ (pins:List (GD × GZ)) (s:GE) (σ:St) (H:Hp) (R:It->Hp->Prop),Inv X pins σ H s->wi σ H R->
  GL (GJ X.prog X.w) X.A (GS iter X.env) (λv s1=>GL (GJ X.prog X.w) X.A (pyIter v) (PIE X pins σ tg R) X.xe s1) X.xe s
def jQ{M:H0}{A:GN}{E:Da->GE->Prop}{s:GE}{tg:GI}{it:GD}{u:Da}{o:GZ}{n:String}{vs:Array Da}{Q:Unit->GE->Prop}(ho:s.heap.get? it=be o)(hc:o.cls= .type n)(hd:o.data= .fields vs)
    (hn:["enumerate","zip","dict_itemiterator","dict_reverseitemiterator","odict_iterator","itertools.zip_longest","itertools.pairwise"].contains n=false) (hQ:Q () s):GL M A (HD tg (.ref it) u) Q E s:=by
  unfold HD;cases tg<;>first
    |exact GP hQ
    |(cases u<;>first
        |exact GP hQ
        | (refine GG (wpAny_load ho ?_)
           rw[hc,hd];show GL M A (if(["enumerate","zip","dict_itemiterator","dict_reverseitemiterator","odict_iterator","itertools.zip_longest","itertools.pairwise"].contains n && vs[0]?==be (Hk _))=true then _ else _) Q E s;rw[if_neg (by intro h;rw[hn,Bool.false_and] at h;cases h)];exact GP hQ))
def Itr(lo:Int)(n:Nat):It:=⟨λi _=>i<n,λi H x H'=>H'=H/\x= .int (lo+i),λi _=>n<=i⟩
def ou{P:GH}{w:GM}{K:xE}{tg:GI}(it:GD)(lo:Int)(n:Nat):Turn P w K tg (Itr lo n) [it] it (λi h=>HC h it (lo+(i:Nat)*1) ((n:Int) - (i:Nat)) 1) where
 mem:=by simp
 obj:=λi h st b hb=>by
  have e:b=it:=by simpa using hb
  subst e;exact⟨_,st,λv z=>by
   have z':Data.fields _=Data.cell v:=z;cases z'⟩
 keep:=λi h h' st k=>k it (by simp) _ st
 item:=by
  intro X hP hw hK hc i pins s σ H E I hf st hg;subst hP hw hK;obtain⟨f0,f1,f2,f3,f4,f5⟩:=hf it (by simp);have W:=Walks.range (prog:=X.prog) (w:=X.w) (I.ok.hd hc) it lo 1 n;refine W.item i s _ _ hg st λv h' tk hv st' kk=>?_;obtain⟨t,rfl⟩:=hv;have I1:Inv X pins σ H {s with heap:=h',toks:=tk}:=I.turned (λb o hb e=>kk b o (by simpa using hb) e) f0 f1 f3 f4 f5;refine⟨_,rfl,jQ (s:={s with heap:=h',toks:=tk}) (n:="range_iterator") st' rfl rfl (by decide) ⟨.int (lo+i),H,I1,⟨t,?_⟩,⟨rfl,rfl⟩,st',λb hb=>(hf b hb).1⟩⟩;rw[Int.mul_one]
 done:=by
  intro X hP hw hK hc i pins s σ H E I hf st hg;subst hP hw hK;obtain⟨f0,f1,f2,f3,f4,f5⟩:=hf it (by simp);exact HN (I.ok.hd hc) st (by have:n<=i:=hg;lia) λh' eb=>⟨rfl,I.turned (t':=s.toks) (λb o hb e=>eb b o hb e) f0 f1 f3 f4 f5⟩
 self:=λ_ _ _ _ _ st h=>HP st h
section
variable {X:Cx}{tg:GI}
def jR{pins:List (GD × GZ)}{σ:St}{H:Hp}{s:GE}{R:It->Hp->Prop}{E:Da->GE->Prop}{lo hi:Int}{t u v:Tok}{tk:Nat}(I:Inv X pins σ H s)(h1: -(2 ^ 62)<=lo)(h2:lo<2 ^ 62)(h3: -(2 ^ 62)<=hi)(h4:hi<2 ^ 62)
  (q:R (Itr lo (hi - lo).toNat) H):GL (GJ X.prog X.w) X.A (pyIter (.ref s.heap.objs.size)) (PIE X pins σ tg R) E {s with heap:=s.heap.push {cls:= .type "range",data:= .fields #[.int lo t,.int hi u,.int 1 v]},toks:=tk}:=by
 refine H9 (IsRange.new ..) (small_one h1 h2 h3 h4) ?_;have I1:Inv X pins σ H {s with heap:=s.heap.push {cls:= .type "range",data:= .fields #[.int lo t,.int hi u,.int 1 v]},toks:=tk}:=I.kept λb o e=>Heap.get?_push_of_some _ e;refine⟨(s.heap.push {cls:= .type "range",data:= .fields #[.int lo t,.int hi u,.int 1 v]}).objs.size,[(s.heap.push {cls:= .type "range",data:= .fields #[.int lo t,.int hi u,.int 1 v]}).objs.size],_,_,H,rfl,
  I1.kept (t':=tk) λb o e=>Heap.get?_push_of_some _ e,ou _ lo (hi - lo).toNat,?_,λb hb=>?_,q⟩
 .have e1:lo+((0:Nat):Int)*1=lo:=by simp
  have e2:(((hi - lo).toNat:Nat):Int) - ((0:Nat):Int)=Builtin.Range.rangeSize lo hi 1:=by rw[rangeSize_one];split<;>lia
  show HC _ _ (lo+((0:Nat):Int)*1) ((((hi - lo).toNat:Nat):Int) - ((0:Nat):Int)) 1;rw[e1,e2];exact Heap.get?_push_size _ rfl
 .have e:b=(s.heap.push {cls:= .type "range",data:= .fields #[.int lo t,.int hi u,.int 1 v]}).objs.size:=by simpa using hb
  subst e;exact I1.fpOk (xH _) (I1.hok.fresh (xH _))
def oy(ta:TA):TI:=λσ H R=>ta σ H λvs H1=>∃ j:Int,vs=[.int j]/\-(2 ^ 62)<=j/\j<2 ^ 62/\R (Itr 0 j.toNat) H1
def oz(ta:TA):TI:=λσ H R=>ta σ H λvs H1=>∃ i j:Int,vs=[.int i,.int j]/\(-(2 ^ 62)<=i/\i<2 ^ 62/\-(2 ^ 62)<=j/\j<2 ^ 62)/\R (Itr i (j - i).toNat) H1
def jS{a:GI}{ta:TA}{p pos:GV}(hg:Gl X "range")(hm:X.mg "range"=t8)(ha:PA X [a] ta)(hs:GO [a] X.env=[(false,GS a X.env)]:=by rfl):PI X tg (.Call (.Name "range" p) [a] [] pos) (oy ta):=by
 intro pins s σ H R I h;refine Call_ (ce I hg hm Ig (PyProof.Rows.callWith_type1 (thn (ha pos pins s σ H _ I h) λus s1 hh=>?_) hs rfl));obtain⟨vs,H1,I1,r1,q1⟩:=hh;obtain⟨j,e,q1,q2,q⟩:=q1;subst e;cases r1 with
 |cons r rr=>
  cases rr;obtain⟨t,rfl⟩:=r;exact call_range_1 (jR I1 (by lia) (by lia) q1 q2 (by simpa using q))
def oA{a b:GI}{ta:TA}{p pos:GV}(hg:Gl X "range")(hm:X.mg "range"=t8)(ha:PA X [a,b] ta)(hs:GO [a,b] X.env=[(false,GS a X.env),(false,GS b X.env)]:=by rfl)(h_:GO [b] X.env=[(false,GS b X.env)]:=by rfl):
  PI X tg (.Call (.Name "range" p) [a,b] [] pos) (oz ta):=by
 intro pins s σ H R I h;refine Call_ (ce I hg hm Ig (PyProof.Rows.callWith_type1 (thn (ha pos pins s σ H _ I h) λus s1 hh=>?_) (by rw[hs,h_]) (by rw[h_];rfl)));obtain⟨vs,H1,I1,r1,q1⟩:=hh;obtain⟨i,j,e,⟨q1,q2,q3,q4⟩,q⟩:=q1;subst e;cases r1 with
 |cons r rr=>
  cases rr with
  |cons r' rr=>
   cases rr;obtain⟨t,rfl⟩:=r;obtain⟨t',rfl⟩:=r';exact call_range_2 (jR I1 q1 q2 q3 q4 q)
def tFor(wi:TI)(g:TG)(tb:TS):TS:=λD σ H=>wi σ H λJ H1=>∃ W:Nat->Nat->St->Hp->Prop,(∃ m,W 0 m σ H1)/\∀ i m σ H,W i m σ H->
 (J.stop i H/\D.nx σ H)\/(J.go i H/\∃ N:St->Hp->Prop,(∀ σ' H',N σ' H'->∃ m',m'<m/\W (i+1) m' σ' H')/\∀ x H',J.yld i H x H'->g x σ H' λσ2 H2=>tb {D with nx:=N,ct:=N,bk:=D.nx} σ2 H2)
def dO(fp:List GD)(h:Heap):List (GD × GZ):=fp.filterMap λb=>(h.get? b).map λo=>(b,o)
def jT{fp:List GD}{h:Heap}{b:GD}{o:GZ}(hb:b∈fp)(e:h.get? b=be o):(b,o)∈dO fp h:=zL.mpr ⟨b,hb,by rw[e];rfl⟩
def oB{fp:List GD}{h:Heap}{p:GD × GZ}(hp:p∈dO fp h):p.1∈fp/\h.get? p.1=be p.2:=by
 obtain⟨b,hb,e⟩:=zL.mp hp;cases q:h.get? b with
 |none=>rw[q] at e;cases e
 |some o=>
  rw[q] at e;have e':(b,o)=p:=Option.some.inj e;subst e';exact⟨hb,q⟩
def Inv.pinned{pins:List (GD × GZ)}{σ:St}{H:Hp}{s:GE}{fp:List GD}(I:Inv X pins σ H s)(hf:∀ b∈fp,FpOk X pins H b)(ho:∀ b∈fp,∃ o,s.heap.get? b=be o/\∀ v,o.data≠.cell v):Inv X (pins++dO fp s.heap) σ H s:=
 I.pins_of λp hp=>(yc.mp hp).elim (λz=>I.pin p (ym _ z)) λz=>by
  obtain⟨hb,e⟩:=oB z;obtain⟨f0,f1,f2,_⟩:=hf p.1 hb;obtain⟨o,e',d⟩:=ho p.1 hb;rw[e] at e';cases e';exact⟨e,f0,f1,f2,d⟩
def Inv.unpinned{pins pl:List (GD × GZ)}{σ:St}{H:Hp}{s:GE}(I:Inv X (pins++pl) σ H s):Inv X pins σ H s:=I.pins_of λp hp=>I.pin p (ym _ (yB _ hp))
def cO{iter:GI}{body:List GK}{wi:TI}{g:TG}{tb:TS}{pos:GV}(hp:G7 (GJ X.prog X.w) X.A X.env X.xe)(hc:X.calm=true)(hi:PI X tg iter wi)(hg:PG X tg g)(hb:PSs X body tb)
  (hs:∀ x,Ik iter X.env x=pure x:=by intro _;rfl):PS X (.For tg iter body [] pos) (tFor wi g tb):=by
 intro pins s σ H D I h;refine wpAny_For (thn (hi pins s σ H _ I h) λv s1 h1=>thn h1 λDZ s2 h2=>?_) hs;obtain⟨it,fp,tn,J,H2,e,I2,T,l0,f2,W,⟨m0,w0⟩,d0⟩:=h2;subst e;have y9:∀ {H':Hp},(∀ b∈fp,H' b=t8)->∀ b∈fp,FpOk X pins H' b:=λhn b hb=>⟨hn b hb,(f2 b hb).2⟩;refine codeAny_forLoop_any (λn s'=>∃ i σ' H',Inv X pins σ' H' s'/\tn i s'.heap/\(∀ b∈fp,H' b=t8)/\W i n σ' H') ?_ m0 ⟨0,σ,H2,I2,l0,λb hb=>(f2 b hb).1,w0⟩;rintro n s3 ⟨i,σ3,H3,I3,td,D1,w3⟩;rcases d0 i n σ3 H3 w3 with⟨stop,qn⟩|⟨go,N,hN,step⟩
 .refine G5 hp (thn (T.done X rfl rfl rfl hc i pins s3 σ3 H3 X.xe I3 (y9 D1) td stop) λr s4 d7=>?_);obtain⟨hr,I4⟩:=d7;subst hr;exact G_ ⟨σ3,H3,I4,qn⟩
 .refine G5 hp (thn (T.item X rfl rfl rfl hc i pins s3 σ3 H3 X.xe I3 (y9 D1) td go) λr s4 d7=>?_);obtain⟨u,hr,h4⟩:=d7;subst hr;refine G5 hp (thn h4 λ_ s5 d7=>?_);obtain⟨x,H5,I5,r5,y5,B9,EO⟩:=d7;have EQ:=I5.pinned (y9 EO) (T.obj _ _ B9);refine G5 hp (thn (hg _ s5 σ3 H5 x u _ EQ r5 (step x H5 y5)) λ_ s6 d7=>?_);obtain⟨σ6,H6,I6,q6⟩:=d7;refine G5 hp (thn (hb _ s6 σ6 H6 _ I6 q6) λf s7 q7=>?_);have again:∀ {σ7:St} {H7:Hp},Inv X (pins++dO fp s5.heap) σ7 H7 s7->N σ7 H7->∃ m,m<n/\∃ i σ' H',Inv X pins σ' H' s7/\tn i s7.heap/\(∀ b∈fp,H' b=t8)/\W i m σ' H':=λ{σ7 H7} I7 n7=>by
   obtain⟨m',hm,w7⟩:=hN σ7 H7 n7;refine⟨m',hm,i+1,σ7,H7,I7.unpinned,T.keep _ _ _ B9 λb hb o e=>(I7.pin (b,o) (ym _ (ym _ (jT hb e)))).1,λb hb=>?_,w7⟩;obtain⟨o,e,d⟩:=T.obj _ _ B9 b hb;exact(I7.pin (b,o) (ym _ (ym _ (jT hb e)))).2.1
  cases f with
  |next=>obtain⟨σ7,H7,I7,n7⟩:=q7;exact again I7 n7
  |cont=>obtain⟨σ7,H7,I7,n7⟩:=q7;exact again I7 n7
  |brk=>obtain⟨σ7,H7,I7,q7⟩:=q7;exact⟨σ7,H7,I7.unpinned,q7⟩
  |ret v=>obtain⟨x7,σ7,H7,I7,r7,q7⟩:=q7;exact⟨x7,σ7,H7,I7.unpinned,r7,q7⟩
end
def fW{lo:Int}{n:Nat}{g:TG}{tb:TS}{D:Ends}{σ:St}{H:Hp}(Pv:Nat->St->Hp->Prop)(h0:Pv 0 σ H)
  (hs:∀ i σ H,i<n->Pv i σ H->g (.int (lo+i)) σ H λσ2 H2=>tb {D with nx:=Pv (i+1),ct:=Pv (i+1),bk:=D.nx} σ2 H2) (hd:∀ σ H,Pv n σ H->D.nx σ H):
  ∃ W:Nat->Nat->St->Hp->Prop,(∃ m,W 0 m σ H)/\∀ i m σ H,W i m σ H->
   ((Itr lo n).stop i H/\D.nx σ H)\/((Itr lo n).go i H/\∃ N:St->Hp->Prop,(∀ σ' H',N σ' H'->∃ m',m'<m/\W (i+1) m' σ' H')/\∀ x H',(Itr lo n).yld i H x H'->g x σ H' λσ2 H2=>tb {D with nx:=N,ct:=N,bk:=D.nx} σ2 H2):=by
 refine⟨λi m σ H=>m=n - i/\i<=n/\Pv i σ H,⟨n,by simp,yg _,h0⟩,?_⟩;rintro i m σ H ⟨rfl,hi,p⟩;by_cases j_:i<n
 .refine .inr ⟨j_,Pv (i+1),λσ' H' p'=>⟨n - (i+1),by lia,rfl,j_,p'⟩,λx H' y=>?_⟩;obtain⟨e,y⟩:=y;subst e y;exact hs i σ _ j_ p
 .have e:i=n:=by lia
  subst e;exact .inl ⟨xH _,hd σ H p⟩
abbrev R2:=V->V->Hp->VK->Prop
def OpR(X:Cx)(f:Da->Da->Il Da)(r:R2):Prop:=
 ∀ (pins:List (GD × GZ)) (s:GE) (σ:St) (H:Hp) (x y:V) (v u:Da) (Q:VK),Inv X pins σ H s->RelV x v->RelV y u->r x y H Q->
  GL (GJ X.prog X.w) X.A (f v u) (EP X pins σ Q) X.xe s
def UnR(X:Cx)(f:Da->Il Da)(r:V->Hp->VK->Prop):Prop:=
 ∀ (pins:List (GD × GZ)) (s:GE) (σ:St) (H:Hp) (x:V) (v:Da) (Q:VK),Inv X pins σ H s->RelV x v->r x H Q->
  GL (GJ X.prog X.w) X.A (f v) (EP X pins σ Q) X.xe s
def bz(X:Cx)(f:Da)(r:List V->Hp->VK->Prop):Prop:=
 ∀ (pins:List (GD × GZ)) (s:GE) (σ:St) (H:Hp) (xs:List V) (us:List Da) (Q:VK),Inv X pins σ H s->Vals xs us->r xs H Q->
  GL (GJ X.prog X.w) X.A (call f us) (EP X pins σ Q) X.xe s
def TruR(X:Cx)(r:V->Hp->(Bool->Hp->Prop)->Prop):Prop:=
 ∀ (pins:List (GD × GZ)) (s:GE) (σ:St) (H:Hp) (x:V) (v:Da) (Q:Bool->Hp->Prop),Inv X pins σ H s->RelV x v->r x H Q->
  GL (GJ X.prog X.w) X.A (truthy v) (TP X pins σ Q) X.xe s
def tOp(r:R2)(ta tb:TE):TE:=λσ H Q=>ta σ H λx H1=>tb σ H1 λy H2=>r x y H2 Q
def tUn(r:V->Hp->VK->Prop)(ta:TE):TE:=λσ H Q=>ta σ H λx H1=>r x H1 Q
def rI(C:Int->Int->Prop)(g:Int->Int->V):R2:=λx y H Q=>∃ i j,x= .int i/\y= .int j/\C i j/\Q (g i j) H
def rI0(g:Int->Int->V):R2:=λx y H Q=>∃ i j,x= .int i/\y= .int j/\Q (g i j) H
def rU(g:Int->V):V->Hp->VK->Prop:=λx H Q=>∃ i,x= .int i/\Q (g i) H
section
variable {X:Cx}{a b c:GI}{ta tb tc:TE}{pos:GV}
def binT(ha:PE X a ta)(hb:PE X b tb){pins:List (GD × GZ)}{s:GE}{σ:St}{H:Hp}{R:V->V->Hp->Prop}(I:Inv X pins σ H s)
  (h:ta σ H λx H1=>tb σ H1 λy H2=>R x y H2) {Q:Da->GE->Prop} {f:Da->Da->Il Da}
  (hf:∀ v u s2 x y H2,Inv X pins σ H2 s2->RelV x v->RelV y u->R x y H2->GL (GJ X.prog X.w) X.A (f v u) Q X.xe s2):
  GL (GJ X.prog X.w) X.A (GS a X.env) (λv s₁=>GL (GJ X.prog X.w) X.A (GS b X.env) (λu s₂=>GL (GJ X.prog X.w) X.A (f v u) Q X.xe s₂) X.xe s₁) X.xe s:=by
 refine thn (ha pins s σ H _ I h) λv s1 d7=>?_;obtain⟨x,H1,I1,r1,q1⟩:=d7;refine thn (hb pins s1 σ H1 _ I1 q1) λu s2 d7=>?_;obtain⟨y,H2,I2,r2,q2⟩:=d7;exact hf v u s2 x y H2 I2 r1 r2 q2
def jU{op:Operator}{r:R2}(ho:OpR X (G6 op) r)(ha:PE X a ta)(hb:PE X b tb):PE X (.BinOp a op b pos) (tOp r ta tb):=by
 intro pins s σ H Q I h;exact wpAny_BinOp (binT ha hb I h λv u s2 x y H2 I2 rx ry q=>ho pins s2 σ H2 x y v u Q I2 rx ry q)
def oC{op:UnaryOp}{r:V->Hp->VK->Prop}(ho:UnR X (unaryOp op) r)(ha:PE X a ta):PE X (.UnaryOp op a pos) (tUn r ta):=by
 intro pins s σ H Q I h;exact UnaryOp_ (thn (ha pins s σ H _ I h) λv s1 ⟨x,H1,I1,r1,q1⟩=>ho pins s1 σ H1 x v Q I1 r1 q1)
def opI{f:Da->Da->Il Da}{C:Int->Int->Prop}{g:Int->Int->Int}
  (rule:∀ (i j:Int) (t u:Tok) (s:GE) (Q:Da->GE->Prop) (E:Da->GE->Prop),C i j->Q (.int (g i j) s.toks) {s with toks:=s.toks+1}->GL (GJ X.prog X.w) X.A (f (.int i t) (.int j u)) Q E s):
  OpR X f (rI C λi j=> .int (g i j)):=by
 intro pins s σ H x y v u Q I rx ry h;obtain⟨i,j,rfl,rfl,hc,q⟩:=h;obtain⟨t,rfl⟩:=rx;obtain⟨t',rfl⟩:=ry;exact rule i j t t' s _ _ hc ⟨.int (g i j),H,I.tok _,⟨_,rfl⟩,q⟩
def opI0{f:Da->Da->Il Da}{g:Int->Int->Int}
  (rule:∀ (i j:Int) (t u:Tok) (s:GE) (Q:Da->GE->Prop) (E:Da->GE->Prop),Q (.int (g i j) s.toks) {s with toks:=s.toks+1}->GL (GJ X.prog X.w) X.A (f (.int i t) (.int j u)) Q E s):
  OpR X f (rI0 λi j=> .int (g i j)):=by
 intro pins s σ H x y v u Q I rx ry h;obtain⟨i,j,rfl,rfl,q⟩:=h;obtain⟨t,rfl⟩:=rx;obtain⟨t',rfl⟩:=ry;exact rule i j t t' s _ _ ⟨.int (g i j),H,I.tok _,⟨_,rfl⟩,q⟩
def opB0{f:Da->Da->Il Da}{g:Int->Int->Bool}
  (rule:∀ (i j:Int) (t u:Tok) (s:GE) (Q:Da->GE->Prop) (E:Da->GE->Prop),Q (.bool (g i j)) s->GL (GJ X.prog X.w) X.A (f (.int i t) (.int j u)) Q E s):
  OpR X f (rI0 λi j=> .bl (g i j)):=by
 intro pins s σ H x y v u Q I rx ry h;obtain⟨i,j,rfl,rfl,q⟩:=h;obtain⟨t,rfl⟩:=rx;obtain⟨t',rfl⟩:=ry;exact rule i j t t' s _ _ ⟨.bl (g i j),H,I,rfl,q⟩
def CDiv(i j:Int):Prop:=0<j/\j<1073741824
def CMul(i j:Int):Prop:=(-(2 ^ 64)<i/\i<2 ^ 64)\/(-(2 ^ 64)<j/\j<2 ^ 64)
def CMul.ok{i j:Int}(h:CMul i j):IntMulOk i j:=by
 rcases h with⟨h1,h2⟩|⟨h1,h2⟩
 .exact .of_left (intBits_le_64 h1 h2)
 .exact .of_right (intBits_le_64 h1 h2)
def oE:OpR X (G6 .Add) (rI0 λi j=> .int (i+j)):=opI0 λ_ _ _ _ _ _ _ q=>add_int q
def jV:OpR X (G6 .Sub) (rI0 λi j=> .int (i - j)):=opI0 λ_ _ _ _ _ _ _ q=>sub_int q
def oF:OpR X (G6 .Mult) (rI CMul λi j=> .int (i*j)):=opI λ_ _ _ _ _ _ _ hc q=>mul_int q hc.ok
def oG:OpR X (G6 .FloorDiv) (rI CDiv λi j=> .int (i / j)):=opI λi j _ _ _ _ _ hc q=>by
 have h1:(0:Int)<j:=hc.1;have h2:j<1073741824:=hc.2;exact floordiv_int (by lia) (by rw[Int.fdiv_eq_ediv_of_nonneg i (by lia)];exact q) (.inl (PyProof.noPylong_small (by lia)))
def oH:OpR X (G6 .Mod) (rI (λ_ j=>0<j) λi j=> .int (i % j)):=opI λi j _ _ _ _ _ hc q=>by
 have h1:(0:Int)<j:=hc;exact mod_int' (by lia) (by rw[Int.fmod_eq_emod_of_nonneg i (by lia)];exact q)
def unI{f:Da->Il Da}{g:Int->Int}
  (rule:∀ (i:Int) (t:Tok) (s:GE) (Q:Da->GE->Prop) (E:Da->GE->Prop),Q (.int (g i) s.toks) {s with toks:=s.toks+1}->GL (GJ X.prog X.w) X.A (f (.int i t)) Q E s):
  UnR X f (rU λi=> .int (g i)):=by
 intro pins s σ H x v Q I rx h;obtain⟨i,rfl,q⟩:=h;obtain⟨t,rfl⟩:=rx;exact rule i t s _ _ ⟨.int (g i),H,I.tok _,⟨_,rfl⟩,q⟩
def oI:UnR X (unaryOp .USub) (rU λi=> .int (-i)):=unI λ_ _ _ _ _ q=>neg_int q
end
def scal:V->V->Bool
 | .non,.non=>true| .non,.int _=>true| .int _,.non=>true| .non,.bl _=>true| .bl _,.non=>true| .non,.str _=>true| .str _,.non=>true
 | .int _,.int _=>true| .bl _,.bl _=>true| .str _,.str _=>true| .byt _,.byt _=>true
 | .int _,.str _=>true| .str _,.int _=>true| .bl _,.str _=>true| .str _,.bl _=>true
 |_,_=>false
def rEq:R2:=λx y H Q=>scal x y=true/\Q (.bl (decide (x=y))) H
def rNe:R2:=λx y H Q=>scal x y=true/\Q (.bl (!decide (x=y))) H
def jW{i j:Int}:decide (V.int i=V.int j)=(i==j):=by
 rw[yU];simp
def jX{i j:Bool}:decide (V.bl i=V.bl j)=(i==j):=by
 rw[yU];simp
def jY{i j:y8}:decide (V.str i=V.str j)=(i==j):=by
 rw[yU];simp
def jZ{i j:Array UInt8}:decide (V.byt i=V.byt j)=(i.toList==j.toList):=by
 rw[yU];cases i;cases j;simp
section
variable {X:Cx}{a b c:GI}{ta tb tc:TE}{pos:GV}
def aH{pins:List (GD × GZ)}{σ:St}{H:Hp}{s:GE}{Q:VK}{k k':Bool}(I:Inv X pins σ H s)(q:Q (.bl k) H)(e:k=k'):EP X pins σ Q (.bool k') s:=by
 subst e;exact⟨.bl k,H,I,rfl,q⟩
def fX:OpR X (G3 .Eq) rEq:=by
 intro pins s σ H x y v u Q I rx ry h;obtain⟨hs,q⟩:=h;cases x with
 |non=>
  cases rx;cases y with
  |non=>cases ry;exact PySem.EqNone.eq_none_none (aH I q (by simp))
  |bl j=>cases ry;exact PySem.EqNone.eq_none_bool (aH I q (by simp))
  |int j=>obtain⟨t',rfl⟩:=ry;exact PySem.EqNone.eq_none_int (aH I q (by simp))
  |str j=>obtain⟨t',rfl⟩:=ry;exact PySem.EqNone.eq_none_str (aH I q (by simp))
  |_=>exact absurd (show false=true from hs) xK
 |bl i=>
  cases rx;cases y with
  |non=>cases ry;exact PySem.EqNone.eq_bool_none (aH I q (by simp))
  |bl j=>cases ry;exact eq_bool (aH I q jX)
  |str j=>obtain⟨t',rfl⟩:=ry;exact PySem.EqMixed.eq_bool_str (aH I q (by simp))
  |_=>exact absurd (show false=true from hs) xK
 |int i=>
  obtain⟨t,rfl⟩:=rx;cases y with
  |non=>cases ry;exact PySem.EqNone.eq_int_none (aH I q (by simp))
  |int j=>obtain⟨t',rfl⟩:=ry;exact eq_int (aH I q jW)
  |str j=>obtain⟨t',rfl⟩:=ry;exact PySem.EqMixed.eq_int_str (aH I q (by simp))
  |_=>exact absurd (show false=true from hs) xK
 |str i=>
  obtain⟨t,rfl⟩:=rx;cases y with
  |non=>cases ry;exact PySem.EqNone.eq_str_none (aH I q (by simp))
  |bl j=>cases ry;exact PySem.EqMixed.eq_str_bool (aH I q (by simp))
  |int j=>obtain⟨t',rfl⟩:=ry;exact PySem.EqMixed.eq_str_int (aH I q (by simp))
  |str j=>obtain⟨t',rfl⟩:=ry;exact eq_str (aH I q jY)
  |_=>exact absurd (show false=true from hs) xK
 |byt i=>
  obtain⟨t,rfl⟩:=rx;cases y with
  |byt j=>obtain⟨t',rfl⟩:=ry;exact eq_bytes (aH I q jZ)
  |_=>exact absurd (show false=true from hs) xK
 |_=>cases y<;>exact absurd (show false=true from hs) xK
def oJ:OpR X (G3 .NotEq) rNe:=by
 intro pins s σ H x y v u Q I rx ry h;obtain⟨hs,q⟩:=h;cases x with
 |non=>
  cases rx;cases y with
  |non=>cases ry;exact PySem.EqNone.ne_none_none (aH I q (by simp))
  |bl j=>cases ry;exact PySem.EqNone.ne_none_bool (aH I q (by simp))
  |int j=>obtain⟨t',rfl⟩:=ry;exact PySem.EqNone.ne_none_int (aH I q (by simp))
  |str j=>obtain⟨t',rfl⟩:=ry;exact PySem.EqNone.ne_none_str (aH I q (by simp))
  |_=>exact absurd (show false=true from hs) xK
 |bl i=>
  cases rx;cases y with
  |non=>cases ry;exact PySem.EqNone.ne_bool_none (aH I q (by simp))
  |bl j=>cases ry;exact ne_bool (aH I q (congrArg not jX))
  |str j=>obtain⟨t',rfl⟩:=ry;exact PySem.EqMixed.ne_bool_str (aH I q (by simp))
  |_=>exact absurd (show false=true from hs) xK
 |int i=>
  obtain⟨t,rfl⟩:=rx;cases y with
  |non=>cases ry;exact PySem.EqNone.ne_int_none (aH I q (by simp))
  |int j=>obtain⟨t',rfl⟩:=ry;exact ne_int (aH I q (congrArg not jW))
  |str j=>obtain⟨t',rfl⟩:=ry;exact PySem.EqMixed.ne_int_str (aH I q (by simp))
  |_=>exact absurd (show false=true from hs) xK
 |str i=>
  obtain⟨t,rfl⟩:=rx;cases y with
  |non=>cases ry;exact PySem.EqNone.ne_str_none (aH I q (by simp))
  |bl j=>cases ry;exact PySem.EqMixed.ne_str_bool (aH I q (by simp))
  |int j=>obtain⟨t',rfl⟩:=ry;exact PySem.EqMixed.ne_str_int (aH I q (by simp))
  |str j=>obtain⟨t',rfl⟩:=ry;exact ne_str (aH I q (congrArg not jY))
  |_=>exact absurd (show false=true from hs) xK
 |byt i=>
  obtain⟨t,rfl⟩:=rx;cases y with
  |byt j=>obtain⟨t',rfl⟩:=ry;exact ne_bytes (aH I q (congrArg not jZ))
  |_=>exact absurd (show false=true from hs) xK
 |_=>cases y<;>exact absurd (show false=true from hs) xK
def kd:OpR X (G3 .Lt) (rI0 λi j=> .bl (decide (i<j))):=opB0 λ_ _ _ _ _ _ _ q=>lt_int q
def oK:OpR X (G3 .Gt) (rI0 λi j=> .bl (decide (j<i))):=opB0 λ_ _ _ _ _ _ _ q=>gt_int q
def oM:OpR X (G3 .Is) (λx y H Q=>y= .non/\Q (.bl (decide (x= .non))) H):=by
 intro pins s σ H x y v u Q I rx ry h;obtain⟨rfl,q⟩:=h;cases ry;refine is_none_gen (aH I q ?_);cases x<;>first
  |(cases rx;rfl)
  |(obtain⟨t,rfl⟩:=rx;rfl)
def OpR.or{f:Da->Da->Il Da}{r r':R2}(h:OpR X f r)(h':OpR X f r'):OpR X f (λx y H Q=>r x y H Q\/r' x y H Q):=by
 intro pins s σ H x y v u Q I rx ry q;rcases q with q|q
 .exact h pins s σ H x y v u Q I rx ry q
 .exact h' pins s σ H x y v u Q I rx ry q
def nomark(b:GI){op:Im}(h:op≠.In:=by decide)(h2:op≠.NotIn:=by decide):G1 op b=false:=by
 have e1:(op==CmpOp.In)=false:=by cases op<;>first|rfl|exact absurd rfl h
 have e2:(op==CmpOp.NotIn)=false:=by cases op<;>first|rfl|exact absurd rfl h2
 cases b<;>simp[G1,e1,e2]
def oN{op:Im}{r:R2}(ho:OpR X (G3 op) r)(ha:PE X a ta)(hb:PE X b tb)(hm:G1 op b=false):PE X (.Compare a [op] [b] pos) (tOp r ta tb):=by
 intro pins s σ H Q I h;exact wpAny_Compare1 (binT ha hb I h λv u s2 x y H2 I2 rx ry q=>ho pins s2 σ H2 x y v u Q I2 rx ry q) hm
def oO(t:TE):TT:=λσ H Q=>t σ H λx H'=>∃ k,x= .bl k/\Q k H'
def ke{op:Im}{r:R2}(ho:OpR X (G3 op) r)(ha:PE X a ta)(hb:PE X b tb)(hm:G1 op b=false):PT X (.Compare a [op] [b] pos) (oO (tOp r ta tb)):=by
 intro pins s σ H Q I h;refine wpAny_isTrue_Compare1 (thn (ha pins s σ H _ I h) λv s1 ⟨x,H1,I1,r1,q1⟩=>thn (hb pins s1 σ H1 _ I1 q1) λu s2 ⟨y,H2,I2,r2,q2⟩=>
  thn (ho pins s2 σ H2 x y v u _ I2 r1 r2 q2) λc s3 hh=>?_) hm
 obtain⟨z,H3,I3,r3,k,e,q3⟩:=hh;subst e;cases r3;exact Hg ⟨H3,I3,q3⟩
def TruV(K:xE)(x:V)(H:Hp)(k:Bool):Prop:=
 match x with
 | .non=>k=false
 | .bl b=>k=b
 | .int i=>k=(i !=0)
 | .str y=>y.length<=sizeLine/\k=((y.length:Int) !=0)
 | .byt y=>y.size<=sizeLine/\k=((y.size:Int) !=0)
 | .ref p=>(∃ xs,SqL K H p xs/\k=!xs.isEmpty)\/(∃ xs,SqT K H p xs/\k=!xs.isEmpty)\/∃ a8,H p=be (.dK a8)/\k=!a8.isEmpty
 |_=>False
def oP{κ:Type}{a8:List (κ × V)}{vs:List (κ × Da)}(r:KV a8 vs):(!vs.isEmpty)=!a8.isEmpty:=by
 cases r<;>rfl
def isEmpty_of{xs:List V}{a_:List Da}(r:Vals xs a_):(!a_.toArray.isEmpty)=!xs.isEmpty:=by
 cases r<;>simp
def line63:(sizeLine:Nat)<2 ^ 63:=by rw[Ho];decide
def oQ:TruR X (λx H Q=>∃ k,TruV X.K x H k/\Q k H):=by
 intro pins s σ H x v Q I rx h;obtain⟨k,e,q⟩:=h;have hl:=line63;have hs:sizeLine=16777216:=Ho;cases x with
 |non=>
  cases rx;have e':k=false:=e;subst e';exact truthy_none ⟨H,I,q⟩
 |bl b=>
  cases rx;have e':k=b:=e;subst e';exact Hg ⟨H,I,q⟩
 |int i=>
  obtain⟨t,rfl⟩:=rx;have e':k=(i !=0):=e;subst e';exact PySem.P.truthy_int ⟨H,I,q⟩
 |str y=>
  obtain⟨t,rfl⟩:=rx;obtain⟨hy,e'⟩:y.length<=sizeLine/\k=((y.length:Int) !=0):=e;subst e';exact PySem.P.truthy_str (by lia) ⟨H,I.tok _,q⟩
 |byt y=>
  obtain⟨t,rfl⟩:=rx;obtain⟨hy,e'⟩:y.size<=sizeLine/\k=((y.size:Int) !=0):=e;subst e';exact truthy_bytes (by lia) ⟨H,I.tok _,q⟩
 |ref p=>
  cases rx;have e':(∃ xs,SqL X.K H p xs/\k=!xs.isEmpty)\/(∃ xs,SqT X.K H p xs/\k=!xs.isEmpty)\/∃ a8,H p=be (.dK a8)/\k=!a8.isEmpty:=e;rcases e' with⟨xs,hx,e'⟩|⟨xs,hx,e'⟩|⟨a8,hx,e'⟩
  .subst e';obtain⟨a_,r,pl,hz⟩:=I.list hx;have b9:=r.length;exact wpAny_truthy_list pl.isList (by simp only[xW];lia) ⟨H,I.tok _,by rw[isEmpty_of r];exact q⟩
  .subst e';obtain⟨a_,r,pl,hz⟩:=I.tuple hx;have b9:=r.length;exact truthy_tuple pl (by simp only[xW];lia) ⟨H,I.tok _,by rw[isEmpty_of r];exact q⟩
  .subst e';obtain⟨hz,hS,vs,r,m⟩:a8.length<=sizeLine/\(p==G9)=false/\∃ vs,KV a8 vs/\s.heap.DictOf (bx X.prog X.w) p vs:=I.hok p _ hx;have b9:a8.length=vs.length:=Paired.length r;exact wpAny_truthy_dict hS m (by lia) ⟨H,I.tok _,by rw[oP r];exact q⟩
 |_=>exact(show False from e).elim
def oR(ha:PE X a ta)(he:∀ f7,isTrue a X.env f7=(do let v <- f7;Hu a.pos;HU [v] (truthy v))):
  PT X a (λσ H Q=>ta σ H λx H'=>∃ k,TruV X.K x H' k/\Q k H'):=by
 intro pins s σ H Q I h;exact isTrue_plain (thn (ha pins s σ H _ I h) λv s1 ⟨x,H1,I1,r1,q1⟩=>oQ pins s1 σ H1 x v Q I1 r1 q1) (he _)
def oS:OpR X (G6 .Add) (λx y H Q=>∃ i j,x= .str i/\y= .str j/\i.length+j.length<=sizeLine/\Q (.str (i++j)) H):=by
 intro pins s σ H x y v u Q I rx ry h;obtain⟨i,j,rfl,rfl,hz,q⟩:=h;obtain⟨t,rfl⟩:=rx;obtain⟨t',rfl⟩:=ry;exact add_str (λt' tk=>⟨.str (i++j),H,I.tok _,⟨_,rfl⟩,q⟩) hz
def bG{x:V}{us:List Da}(r:Vals [x] us):∃ u,us=[u]/\RelV x u:=by
 cases r with
 |cons r1 r2=>cases r2;exact⟨_,rfl,r1⟩
def kg{x y:V}{us:List Da}(r:Vals [x,y] us):∃ u w',us=[u,w']/\RelV x u/\RelV y w':=by
 cases r with
 |cons r1 r2=>
  cases r2 with
  |cons r3 r4=>cases r4;exact⟨_,_,rfl,r1,r3⟩
def oU:bz X (.builtin "abs") (λxs H Q=>∃ i,xs=[.int i]/\Q (.int (if i<0 then -i else i)) H):=by
 intro pins s σ H xs us Q I r h;obtain⟨i,rfl,q⟩:=h;obtain⟨u,rfl,t,rfl⟩:=bG r;exact call_abs_int λu tk=>⟨.int (if i<0 then -i else i),H,I.tok _,⟨_,rfl⟩,q⟩
def oV:bz X (.type "int") (λxs H Q=>(∃ i,xs=[.int i]/\Q (.int i) H)\/∃ k,xs=[.bl k]/\Q (.int (if k then 1 else 0)) H):=by
 intro pins s σ H xs us Q I r h;rcases h with⟨i,rfl,q⟩|⟨k,rfl,q⟩
 .obtain⟨u,rfl,t,rfl⟩:=bG r;exact call_int_int ⟨.int i,H,I,⟨_,rfl⟩,q⟩
 .obtain⟨u,rfl,r1⟩:=bG r;cases r1;exact call_int_bool ⟨.int (if k then 1 else 0),H,I.tok _,⟨_,rfl⟩,q⟩
def oW:bz X (.type "str") (λxs H Q=>∃ i,xs=[.int i]/\i.natAbs.log2<1920/\Q (.str (toString i)) H):=by
 intro pins s σ H xs us Q I r h;obtain⟨i,rfl,hz,q⟩:=h;obtain⟨u,rfl,t,rfl⟩:=bG r;exact PySem.P.str_of_int hz ⟨.str _,H,I.tok _,⟨_,rfl⟩,q⟩
def LenV(K:xE)(x:V)(H:Hp)(n:Nat):Prop:=
 match x with
 | .str y=>y.length<=sizeLine/\n=y.length
 | .byt y=>y.size<=sizeLine/\n=y.size
 | .ref p=>(∃ xs,SqL K H p xs/\n=xs.length)\/∃ xs,SqT K H p xs/\n=xs.length
 |_=>False
def fY:bz X (.builtin "len") (λxs H Q=>∃ x n,xs=[x]/\LenV X.K x H n/\Q (.int n) H):=by
 intro pins s σ H xs us Q I r h;obtain⟨x,n,rfl,e,q⟩:=h;obtain⟨u,rfl,rx⟩:=bG r;have hl:=line63;have hs:sizeLine=16777216:=Ho;cases x with
 |str y=>
  obtain⟨t,rfl⟩:=rx;obtain⟨hy,e'⟩:y.length<=sizeLine/\n=y.length:=e;subst e';exact len_str (by lia) ⟨.int _,H,I.tok _,⟨_,rfl⟩,q⟩
 |byt y=>
  obtain⟨t,rfl⟩:=rx;obtain⟨hy,e'⟩:y.size<=sizeLine/\n=y.size:=e;subst e';exact len_bytes (by lia) ⟨.int _,H,I.tok _,⟨_,rfl⟩,q⟩
 |ref p=>
  cases rx;have e':(∃ xs,SqL X.K H p xs/\n=xs.length)\/∃ xs,SqT X.K H p xs/\n=xs.length:=e;rcases e' with⟨xs,hx,e'⟩|⟨xs,hx,e'⟩
  .subst e';obtain⟨a_,r',pl,hz⟩:=I.list hx;have b9:=r'.length;exact Calls.call_len_list pl.isList (by simp only[xW];lia) ⟨.int xs.length,H,I.tok _,⟨_,by simp only[xW];rw[b9]⟩,q⟩
  .subst e';obtain⟨a_,r',pl,hz⟩:=I.tuple hx;have b9:=r'.length;exact len_tuple pl (by simp only[xW];lia) ⟨.int xs.length,H,I.tok _,⟨_,by simp only[xW];rw[b9]⟩,q⟩
 |_=>exact(show False from e).elim
end
structure ObjM(h:Heap)(x dx C:GD)(mA:Str->Option Da):Prop where
 obj:h.get? x=be (instObj C dx)
 ns:h.Ns1 dx mA
 ne:dx≠x
def kh{h:Heap}{dx:GD}{mA:y8->Option Da}(n:h.Ns1 dx mA):∃ od,h.get? dx=be od/\∀ name,lookIn name od=be (mA name):=by
 obtain⟨o,es,ep,ho,hd,hk,_,hm⟩:=n;refine⟨o,ho,λname=>?_⟩;have e:=hm name;unfold nsFind findBy at e;rw[<- Array.find?_toList] at e;unfold lookIn;rw[hd];dsimp only;split
 .rename_i y q;rw[q] at e;exact congrArg be e
 .rename_i q;rw[q] at e;have a:es.toList.any (·.refKey)=false:=by
   rw[List.any_eq_false];intro y hy;obtain⟨z,t,j3⟩:=hk y (Array.mem_toList_iff.mp hy);simp[DictEntry.refKey,j3]
  have a':¬ es.toList.any (·.refKey)=true:=by rw[a];exact xK
  rw[if_neg a'];exact congrArg be e
def ObjM.look{h:Heap}{x dx C:GD}{mA:y8->Option Da}(I:ObjM h x dx C mA):∃ od,PySem.W.InstAt h x (instObj C dx) C (be od)/\∀ name,lookIn name od=be (mA name):=
 let ⟨od,ho,hl⟩:=kh I.ns
 ⟨od,⟨I.obj,rfl,rfl,ho⟩,hl⟩
section
variable {prog:GH}{w:GM}{A:GN}{E:Da->GE->Prop}{s:GE}{K:xE}{x dx C f:GD}{mA:y8->Option Da}{name:y8}{v:Da}
def oX{o8:Bool}{Q:Da->GE->Prop}(X:K.In s.heap)(I:ObjM s.heap x dx C mA)(hg:plainGet K C name=true)(hh:hasDictIn K C=true)
  (ha:xI K (.ref C) name=be t8) (hv:mA name=be v) (ER:zM v=true) (h:Q v {s with toks:=s.toks+1}):
  GL (GJ prog w) A (HV (.ref x) name o8) Q E s:=by
 obtain⟨od,J,hl⟩:=I.look;exact get_value X J (plainGet_of hg).1 (findObj_own hh ha rfl (by rw[hl,hv])) ER h
def oY{pl:Il Bool}{Q:Da × List Da->GE->Prop}(X:K.In s.heap)(I:ObjM s.heap x dx C mA)(hg:plainGet K C name=true)
  (hf:xI K (.ref C) name=be (be (.ref f))) (ht:isFn K (.ref f)=true) (hv:mA name=t8) (h:Q (.ref f,[.ref x]) s):
  GL (GJ prog w) A (Hz (.ref x) name pl) Q E s:=by
 obtain⟨od,J,hl⟩:=I.look;exact method_fn X J (plainGet_of hg).1 (plainGet_of hg).2 hf (beq_iff_eq.mp ht) (by show(lookIn name od).map (·.isSome)=be false;rw[hl,hv];rfl) h
def oZ{ns:List y8}{Q:Unit->GE->Prop}(X:K.In s.heap)(I:ObjM s.heap x dx C mA)
  (hs:xI K (.ref C) "__setattr__"=be (be (.builtin "object.__setattr__"))) (hp:plainOver K C=true) (ht:takerIn K C name=be t8) (hh:hasDictIn K C=true)
  (hw:PySem.Within mA ns) (j4:ns.length<=sizeLine)
  (h:∀ h',ObjM h' x dx C (λy=>if y=name then be v else mA y)->Heap.SameBut dx s.heap h'->Q () {s with heap:=h',toks:=s.toks+2}):
  GL (GJ prog w) A (setAttr (.ref x) name v) Q E s:=by
 obtain⟨od,J,hl⟩:=I.look;refine PySem.W.set_plain X J hs (osa_open (s:={s with toks:=s.toks+1}) (r:=t8) X J hp ht λb=>?_);obtain⟨cd,hc,f6⟩:=any_some hh;have hx:s.heap.get? x=be ⟨.ref C,be dx,.plain,#[]⟩:=I.obj;refine GG (GP (GG (GG (wpAny_loadPart hx (GG (PySem.W.Looks.here (s:={s with toks:=s.toks+1}) (PySem.W.looks_clsIn X hc) ?_))))));rw[f6];refine GP (a:=be dx) (GG (GP (GG ?_)));refine wpAny_nsSet1 (s:={s with toks:=s.toks+1}) I.ns λh' t5 h_=>?_;obtain⟨oD,ES,ET,B_,Ca,Cb⟩:=t5.count (PySem.Within.cons name v hw);refine GG (wpAny_lookBehind B_ (by rw[Ca];exact pastItsLine_dict (xR Cb (by rw[xG];lia))) ?_);exact GP (h _ ⟨(h_.2 _ (Ne.symm I.ne)).trans I.obj,t5,I.ne⟩ h_)
def pd{R:Result->GE->Prop}{vs:List Da}{kw:List (y8 × Da)}(X:K.In s.heap)(hm:makesIn K C=true)
  (hi:xI K (.ref C) "__init__"=be (be (.ref f))) (hf:PySem.W.typeIn K (.ref f)=be (.type "function"))
  (h:HF (GJ prog w) (A.under (.builtin "type.__call__" ⟨.ref C::vs,kw⟩)) (.call (.ref f) ⟨.ref (s.heap.objs.size+1)::vs,kw⟩) (InitBack (s.heap.objs.size+1) R)
   {s with heap:=(s.heap.push emptyDict).push (instObj C s.heap.objs.size)}):
  HF (GJ prog w) A (.call (.ref C) ⟨vs,kw⟩) R s:=by
 obtain⟨hh,g,d,t,os⟩:=s;exact make_core (makes_of X hm) (PySem.W.looks_findIn X hi) (λself=>PySem.W.bind_fn X self hf) (.inl rfl) h
end
def putF(f:y8)(v:V):List (y8 × V)->List (y8 × V)
 |[]=>[(f,v)]
 |(g,x)::r=>if g=f then(g,v)::r else(g,x)::putF f v r
def ki(f g:y8)(v:V):∀ fs:List (y8 × V),(putF f v fs).lookup g=if g=f then be v else fs.lookup g
 |[]=>by
  show yu g [(f,v)]=_;by_cases h:g=f
  .have hb:(g==f)=true:=beq_iff_eq.mpr h;simp only[yu,hb,if_pos h]
  .have hb:(g==f)=false:=beq_eq_false_iff_ne.mpr h;simp only[yu,hb,if_neg h]
 |(k,x)::r=>by
  have ih:=ki f g v r;rw[show putF f v ((k,x)::r)=(if k=f then(k,v)::r else(k,x)::putF f v r) from rfl];by_cases hk:k=f
  .rw[if_pos hk];by_cases h:g=k
   .have hb:(g==k)=true:=beq_iff_eq.mpr h;simp only[yu,hb,if_pos (h.trans hk)]
   .have hb:(g==k)=false:=beq_eq_false_iff_ne.mpr h;simp only[yu,hb,if_neg (λe:g=f=>h (e.trans hk.symm))]
  .rw[if_neg hk];by_cases h:g=k
   .have hb:(g==k)=true:=beq_iff_eq.mpr h;simp only[yu,hb,if_neg (λe:g=f=>hk (h.symm.trans e))]
   .have hb:(g==k)=false:=beq_eq_false_iff_ne.mpr h;simp only[yu,hb];exact ih
def fZ(f:y8)(v:V):∀ fs:List (y8 × V),f∈(putF f v fs).map (·.1)/\∀ g,g∈fs.map (·.1)->g∈(putF f v fs).map (·.1)
 |[]=>⟨by simp[putF],λg h=>by simp at h⟩
 |(k,x)::r=>by
  obtain⟨i1,i2⟩:=fZ f v r;rw[show putF f v ((k,x)::r)=(if k=f then(k,v)::r else(k,x)::putF f v r) from rfl];by_cases hk:k=f
  .rw[if_pos hk];subst hk;exact⟨by simp,λg h=>by simpa using h⟩
  .rw[if_neg hk];refine⟨?_,λg h=>?_⟩
   .rw[xN];exact xS _ i1
   .rw[xN] at h ⊢;rcases xJ.mp h with e|e
    .exact xJ.mpr (.inl e)
    .exact xS _ (i2 g e)
def kj(f:y8)(v:V):∀ fs:List (y8 × V),(putF f v fs).length<=fs.length+1
 |[]=>by simp[putF]
 |(k,x)::r=>by
  have ih:=kj f v r;rw[show putF f v ((k,x)::r)=(if k=f then(k,v)::r else(k,x)::putF f v r) from rfl];by_cases hk:k=f
  .rw[if_pos hk,xG,xG];lia
  .rw[if_neg hk,xG,xG];lia
def RelO.some_of{v:V}{o:Option Da}(r:RelO (be v) o):∃ u,o=be u/\RelV v u:=by
 cases o with
 |none=>exact(show False from r).elim
 |some u=>exact⟨u,rfl,r⟩
def RelO.none_of{o:Option Da}(r:RelO t8 o):o=none:=by
 cases o with
 |none=>rfl
 |some u=>exact(show False from r).elim
def kl{v:V}{u:Da}(r:RelV v u):zM u=true:=by
 cases v with
 |non=>cases(show u=Value.none from r);rfl
 |bl b=>cases(show u=Value.bool b from r);rfl
 |int i=>obtain⟨t,e⟩:=(show ∃ t,u=Value.int i t from r);cases e;rfl
 |str x=>obtain⟨t,e⟩:=(show ∃ t,u=Value.str x t from r);cases e;rfl
 |byt b=>obtain⟨t,e⟩:=(show ∃ t,u=Value.bytes b t from r);cases e;rfl
 |flt b=>obtain⟨t,e⟩:=(show ∃ t,u=Value.float b t from r);cases e;rfl
 |ref a=>cases(show u=Value.ref a from r);rfl
 |ty n=>cases(show u=Value.type n from r);rfl
section
variable {P:GH}{w:GM}{H H':Hp}{h h':Heap}{a C dx:GD}{fs h8:List (y8 × V)}
def dP(hok:HOk P w H h)(e:H a=be (.ins C dx fs)):∃ mA,ObjM h a dx C mA/\(∀ f,RelO (fs.lookup f) (mA f))/\PySem.Within mA (fs.map (·.1))/\fs.length<=1000/\H dx=be (.own a):=by
 obtain⟨d,z,ne,ob,mA,n,r,q⟩:=(show ObjOk P w H h a (.ins C dx fs) from hok a _ e);exact⟨mA,⟨ob,n,ne⟩,r,q,z,d⟩
end
structure Cls(K:xE)(C:GD):Prop where
 pg:plainGet K C Str.empty=true
 hd:hasDictIn K C=true
 po:plainOver K C=true
 sa:xI K (.ref C) "__setattr__"=be (be (.builtin "object.__setattr__"))
def Cls.get{K:xE}{C:GD}(c:Cls K C)(f:y8):plainGet K C f=true:=c.pg
def NoAttr(K:xE)(C:GD)(f:y8):Prop:=xI K (.ref C) f=be t8
def NoAttr.taker{K:xE}{C:GD}{f:y8}(n:NoAttr K C f):takerIn K C f=be none:=by
 unfold takerIn;rw[show xI K (.ref C) f=be t8 from n];rfl
structure Con(K:xE)(C:GD)(f:Str)(v:V)(u:Da):Prop where
 at_:xI K (.ref C) f=be (be u)
 rel:RelV v u
 get:specialIn K u "__get__"=be t8
 cp:PySem.W.copiedNames.contains f=false
structure Meth(K:xE)(C:GD)(m:Str)(f:GD):Prop where
 at_:xI K (.ref C) m=be (be (.ref f))
 fn:isFn K (.ref f)=true
 kp:keepIn K (.ref f)=true
section
variable {X:Cx}{pins:List (GD × GZ)}{σ:St}{H:Hp}{s:GE}{a C dx:GD}{fs:List (y8 × V)}{f:y8}{v:V}{A:GN}{E:Da->GE->Prop}
def pe{b:Bool}{Q:Da->GE->Prop}(I:Inv X pins σ H s)(e:H a=be (.ins C dx fs))(c:Cls X.K C)(n:NoAttr X.K C f)(l:fs.lookup f=be v)
  (h:∀ u s',Inv X pins σ H s'->RelV v u->Q u s'):GL (GJ X.prog X.w) A (HV (.ref a) f b) Q E s:=by
 obtain⟨mA,O,r,_,_,_⟩:=dP I.hok e;obtain⟨u,hu,ru⟩:=RelO.some_of (v:=v) (o:=mA f) (by rw[<- l];exact r f);exact oX I.kIn O (c.get f) c.hd n hu (kl ru) (h u _ (I.tok _) ru)
def km{m:y8}{g:GD}{pl:Il Bool}{Q:Da × List Da->GE->Prop}(I:Inv X pins σ H s)(e:H a=be (.ins C dx fs))(c:Cls X.K C)(k:Meth X.K C m g)(l:fs.lookup m=t8)
  (h:Q (.ref g,[.ref a]) s):GL (GJ X.prog X.w) A (Hz (.ref a) m pl) Q E s:=by
 obtain⟨mA,O,r,_,_,_⟩:=dP I.hok e;have hn:mA m=none:=RelO.none_of (by rw[<- l];exact r m);exact oY I.kIn O (c.get m) k.at_ k.fn hn h
def pf{y:V}{u:Da}{Q:Unit->GE->Prop}(I:Inv X pins σ H s)(e:H a=be (.ins C dx fs))(c:Cls X.K C)(n:NoAttr X.K C f)(hl:fs.length<1000)(ry:RelV y u)
  (h:∀ s',Inv X pins σ (upd H a (.ins C dx (putF f y fs))) s'->Q () s'):GL (GJ X.prog X.w) A (setAttr (.ref a) f u) Q E s:=by
 obtain⟨mA,O,r,wi,_,ho⟩:=dP I.hok e;have hz:(fs.map (·.1)).length<=sizeLine:=by rw[xU,Ho];lia
 refine oZ I.kIn O c.sa c.po n.taker c.hd wi hz λh' O' sb=>h _ ?_;have hd:∃ o,h'.get? dx=be o:=let ⟨o,_,_,e',_⟩:=O'.ns;⟨o,e'⟩
 refine I.write (x:=a) (e:=dx) (by rw[e];exact True.intro) (.inr ho) (λb q hb z=>(sb.2 b hb).trans z) hd ?_;refine⟨by rw[aj O.ne];exact ho,?_,O.ne,O'.obj,_,O'.ns,λg=>?_,λg hg=>?_⟩
 .have:=kj f y fs;lia
 .show RelO ((putF f y fs).lookup g) (if g=f then be u else mA g);rw[ki];by_cases q:g=f
  .rw[if_pos q,if_pos q];exact ry
  .rw[if_neg q,if_neg q];exact r g
 .by_cases q:g=f
  .rw[q];exact(fZ f y fs).1
  .refine(fZ f y fs).2 g (wi g λz=>hg ?_);show(if g=f then be u else mA g)=t8;rw[if_neg q];exact z
def Inv.made(I:Inv X pins σ H s):Inv X pins σ (upd (upd H s.heap.objs.size (.own (s.heap.objs.size+1))) (s.heap.objs.size+1) (.ins C s.heap.objs.size []))
  {s with heap:=(s.heap.push emptyDict).push (instObj C s.heap.objs.size)}:=by
 have e1:(s.heap.push emptyDict).get? s.heap.objs.size=be emptyDict:=Heap.get?_push_size s.heap rfl;have e2:((s.heap.push emptyDict).push (instObj C s.heap.objs.size)).get? (s.heap.objs.size+1)=be (instObj C s.heap.objs.size):=by
  have:=Heap.get?_push_size (s.heap.push emptyDict) (o:=instObj C s.heap.objs.size) rfl;rwa [Heap.size_push] at this
 have e3:(s.heap.push emptyDict).Ns s.heap.objs.size (λ_=>t8):=⟨emptyDict,#[],_,e1,rfl,(λe he=>absurd he (by simp)),λ_=>rfl⟩;have I1:=I.laid (a:=s.heap.objs.size) (o:= .own (s.heap.objs.size+1)) (h':=s.heap.push emptyDict) (t':=s.toks) (λb u q=>Heap.get?_push_of_some _ q) (xH _) ⟨_,e1⟩;refine I1.laid (a:=s.heap.objs.size+1) (o:= .ins C s.heap.objs.size []) (t':=s.toks) (λb u q=>Heap.get?_push_of_some _ q) (yV (Heap.size_push _ _)) ?_;have ne:s.heap.objs.size≠s.heap.objs.size+1:=xM (zN _);refine⟨by rw[aj ne,az],yg _,ne,e2,λ_=>t8,(Heap.Ns1.of_empty e3).at λo q=>Heap.get?_push_of_some _ q,λ_=>True.intro,λy hy=>absurd rfl hy⟩
def attr_of{prog:GH}{w:GM}{env:Hl}{e:GI}{f:y8}{pos:GV}{s:GE}{Q:Da->GE->Prop}(hb:GQ e f env (GS e env)=GS e env)
  (h:GL (GJ prog w) A (GS e env) (λo s₁=>GL (GJ prog w) A (HV o f true) Q E s₁) E s):GL (GJ prog w) A (GS (.Attribute e f pos) env) Q E s:=
 Attribute_any_ h (by rw[arm_eval_Attribute,hb])
end
def tFld(K:xE)(ta:TE)(f:y8):TE:=λσ H Q=>ta σ H λx H1=>∃ a C dx fs v,x= .ref a/\H1 a=be (.ins C dx fs)/\Cls K C/\NoAttr K C f/\fs.lookup f=be v/\Q v H1
def sFld(K:xE)(ta tv:TE)(f:y8):TS:=λD σ H=>tv σ H λy H1=>ta σ H1 λx H2=>∃ a C dx fs,x= .ref a/\H2 a=be (.ins C dx fs)/\Cls K C/\NoAttr K C f/\fs.length<1000/\
 D.nx σ (upd H2 a (.ins C dx (putF f y fs)))
section
variable {X:Cx}{o e value:GI}{f:y8}{pos c8 EU:GV}{ta tv:TE}
def ph(he:PE X e ta)(hb:GQ e f X.env (GS e X.env)=GS e X.env):PE X (.Attribute e f pos) (tFld X.K ta f):=by
 intro pins s σ H Q I h;refine attr_of hb (thn (he pins s σ H _ I h) λu s1 d7=>?_);obtain⟨x,H1,I1,rx,a,C,dx,fs,v,ex,ea,c,n,l,q⟩:=d7;subst ex;obtain rfl:u=Value.ref a:=rx;exact pe I1 ea c n l λu' s2 I2 ru=>⟨v,H1,I2,ru,q⟩
def ko(ha:PE X o ta)(hv:PE X value tv)(hs:G2 value (be (.Attribute o f c8)) pos.line X.env=pure false):PS X (.Assign [.Attribute o f c8] value pos) (sFld X.K ta tv f):=by
 intro pins s σ H D I h;refine Hx (thn (hv pins s σ H _ I h) λu s1 ⟨y,H1,I1,ry,q⟩=>thn (ha pins s1 σ H1 _ I1 q) λov s2 hh=>?_) hs;obtain⟨x,H2,I2,rx,a,C,dx,fs,ex,ea,c,n,l,q2⟩:=hh;subst ex;obtain rfl:ov=Value.ref a:=rx;exact pf I2 ea c n l ry λs3 I3=>⟨σ,_,I3,q2⟩
end
section
variable {X:Cx}{pins:List (GD × GZ)}{σ:St}{H:Hp}{s:GE}{A:GN}{E:Da->GE->Prop}{Q:Da->GE->Prop}{c:Da}{b:Bool}
inductive TyOf(K:xE)(H:Hp):V->Da->Prop where
 |non:TyOf K H .non (.type "NoneType")
 |bl (x:Bool):TyOf K H (.bl x) (.type "bool")
 |int (i:Int):TyOf K H (.int i) (.type "int")
 |str (x:Str):TyOf K H (.str x) (.type "str")
 |flt (x:UInt64):TyOf K H (.flt x) (.type "float")
 |lst {a:GD} {xs:List V} (e:H a=some (.lst xs)):TyOf K H (.ref a) (.type "list")
 |frz {a:GD} {o:GZ} {xs:List V} (e:H a=some (.frz o (.lst xs))):TyOf K H (.ref a) (.type "list")
 |tup {a:GD} {xs:List V} (e:H a=some (.tup xs)):TyOf K H (.ref a) (.type "tuple")
 |dK {a:GD} {a8:List (Key × V)} (e:H a=some (.dK a8)):TyOf K H (.ref a) (.type "dict")
 |dT {a:GD} {a8:List (List Key × V)} (e:H a=some (.dT a8)):TyOf K H (.ref a) (.type "dict")
 |ins {a C dx:GD} {fs:List (Str × V)} (e:H a=some (.ins C dx fs)) (cl:Cls K C) (ha:xI K (.ref C) "__class__"=some (some (.builtin "object.__class__")))
   (hn:specialIn K (.builtin "object.__class__") "__get__"=be (be (.builtin "getset_descriptor.__get__"))) (htk:takesIn K (.builtin "object.__class__")=be true)
   (hm:yn K C (.type "object")=be true):TyOf K H (.ref a) (.ref C)
def pi{x:V}{u t:Da}(I:Inv X pins σ H s)(rx:RelV x u)(ty:TyOf X.K H x t)(e:kitOne X.K t c=be b)(h:∀ tk,Q (.bool b) {s with toks:=tk}):
  GL (GJ X.prog X.w) A (call (.builtin "isinstance") [u,c]) Q E s:=by
 cases ty with
 |non=>cases(show u=Value.none from rx);exact kia_one kitx_none I.kIn True.intro e (λz=>nomatch z) h
 |bl y=>cases(show u=Value.bool y from rx);exact kia_one kitx_bool I.kIn True.intro e (λz=>nomatch z) h
 |int i=>obtain⟨t,q⟩:=(show ∃ t,u=Value.int i t from rx);cases q;exact kia_one kitx_int I.kIn True.intro e (λz=>nomatch z) h
 |str y=>obtain⟨t,q⟩:=(show ∃ t,u=Value.str y t from rx);cases q;exact kia_one kitx_str I.kIn True.intro e (λz=>nomatch z) h
 |flt y=>obtain⟨t,q⟩:=(show ∃ t,u=Value.float y t from rx);cases q;exact kia_one kitx_float I.kIn True.intro e (λz=>nomatch z) h
 |@lst a xs ea=>
  cases(show u=Value.ref a from rx);obtain⟨_,_,n,_,h1⟩:=(show ObjOk X.prog X.w H s.heap a (.lst xs) from I.hok a _ ea);exact kia_one kitx_list I.kIn ⟨_,h1,rfl⟩ e (λz=>nomatch z) h
 |@frz a ob xs ea=>
  cases(show u=Value.ref a from rx);obtain⟨_,_,_,n,_,h1⟩:=(show ObjOk X.prog X.w H s.heap a (.frz ob (.lst xs)) from I.hok a _ ea);exact kia_one kitx_list I.kIn ⟨_,h1,rfl⟩ e (λz=>nomatch z) h
 |@tup a xs ea=>
  cases(show u=Value.ref a from rx);obtain⟨_,_,_,p⟩:=(show ObjOk X.prog X.w H s.heap a (.tup xs) from I.hok a _ ea);obtain⟨o,h1,h2,_⟩:=p;exact kia_one kitx_tuple I.kIn ⟨o,h1,h2⟩ e (λz=>nomatch z) h
 |@dK a a8 ea=>
  cases(show u=Value.ref a from rx);obtain⟨_,_,vs,_,p⟩:=(show ObjOk X.prog X.w H s.heap a (.dK a8) from I.hok a _ ea);obtain⟨o,es,ep,h1,h2,_⟩:=p;exact kia_one kitx_dict I.kIn ⟨o,h1,h2.1⟩ e (λz=>nomatch z) h
 |@dT a a8 ea=>
  cases(show u=Value.ref a from rx);obtain⟨_,_,xs,_,o,es,ep,h1,h2,_⟩:=(show ObjOk X.prog X.w H s.heap a (.dT a8) from I.hok a _ ea);exact kia_one kitx_dict I.kIn ⟨o,h1,h2.1⟩ e (λz=>nomatch z) h
 |@ins a C dx fs ea cl ha hn htk hm=>
  cases(show u=Value.ref a from rx);obtain⟨mA,O,_⟩:=dP I.hok ea;obtain⟨od,J,_⟩:=O.look;exact kia_one (kitx_own (cl.get _) cl.hd ha hn htk hm) I.kIn J e (λz=>nomatch z) h
end
structure Room(k:Nat)(A:GN):Prop where
 hd:A.handled=t8
 dp:A.depth+3*k+5<recursionLimit
 un:A.units+16*k+200<cLine
def Room.mono{j k:Nat}{A:GN}(r:Room k A)(h:j<=k):Room j A:=⟨r.hd,by have:=r.dp;lia,by have:=r.un;lia⟩
def Room.deeper{k:Nat}{A:GN}(r:Room (k+1) A)(env:Hl):Room k (A.deeper env):=
 ⟨r.hd,by have:=r.dp;show A.depth+1+3*k+5<_;lia,by have:=r.un;show A.units+3+16*k+200<_;lia⟩
def Room.in1{k:Nat}{A:GN}(r:Room (k+1) A):Room k A.in1:=
 ⟨r.hd,by have:=r.dp;show A.depth+3*k+5<_;lia,by have:=r.un;show A.units+1+16*k+200<_;lia⟩
def pj{A:GN}{C:GD}{us:List Da}{kw:List (y8 × Da)}:(A.under (.builtin "type.__call__" ⟨.ref C::us,kw⟩)).depth=A.depth+1:=by
 first|rfl|simp[Around.under,Code.weight,Code.isCreation,Code.isGuard,Code.isCaller,Code.frames,Code.isFrame,guardIds]
def pk{A:GN}{C:GD}{us:List Da}{kw:List (y8 × Da)}:(A.under (.builtin "type.__call__" ⟨.ref C::us,kw⟩)).units=A.units+1:=by
 first|rfl|simp[Around.under,Code.cUnits,Code.frames,Code.isFrame]
def Room.make{k:Nat}{A:GN}(r:Room (k+1) A)(C:GD)(us:List Da)(kw:List (y8 × Da)):Room k (A.under (.builtin "type.__call__" ⟨.ref C::us,kw⟩)):=
 ⟨r.hd,by have:=r.dp;rw[pj];lia,by have:=r.un;rw[pk];lia⟩
def Room.depth{k:Nat}{A:GN}(r:Room k A):A.depth<recursionLimit:=by have:=r.dp;lia
def Room.units{k:Nat}{A:GN}(r:Room k A):A.units+64<cLine:=by have:=r.un;lia
def tNil:TA:=λ_ H Q=>Q [] H
def pp(ta:TE)(tr:TA):TA:=λσ H Q=>ta σ H λx H1=>tr σ H1 λxs H2=>Q (x::xs) H2
section
variable {X:Cx}{e:GI}{es:List GI}{te:TE}{t:TA}{pos:GV}
def pa_nil:PA X [] tNil:=λ_ _ _ _ H Q I h=>Calls.spliced_nil ⟨[],H,I,.nil,h⟩
def aT(ha:PE X e te)(hr:PA X es t)(hs:zSE X e es:=by rfl):PA X (e::es) (pp te t):=by
 intro pos pins s σ H Q I h;rw[hs];show GL _ _ (spliced ((false,GS e X.env)::Ha pos (GO es X.env))) _ _ s;refine Calls.spliced_cons (thn (ha pins s σ H _ I h) λu s1 d7=>?_);obtain⟨x,H1,I1,r1,q1⟩:=d7;exact thn (hr pos pins s1 σ H1 _ I1 q1) λus s2 ⟨xs,H2,I2,r2,q2⟩=>⟨x::xs,H2,I2,.cons r1 r2,q2⟩
def tTup(t:TA):TE:=λσ H Q=>t σ H λxs H1=>xs.length<=sizeLine/\∀ p,H1 p=t8->Q (.ref p) (upd H1 p (.tup xs))
def tLst(t:TA):TE:=λσ H Q=>t σ H λxs H1=>xs.length<=sizeLine/\∀ p,H1 p=t8->Q (.ref p) (upd H1 p (.lst xs))
def kq{x1}(h:PA X es t):PE X (.Tuple es x1 pos) (tTup t):=by
 intro pins s σ H Q I hq;refine wpAny_Tuple_spliced (thn (h pos pins s σ H _ I hq) λus s1 ⟨xs,H1,I1,r,z,q⟩=>⟨by rw[<- r.length];exact z,?_⟩);have hf:H1 s1.heap.objs.size=none:=I1.hok.fresh (xH _);refine⟨.ref s1.heap.objs.size,upd H1 s1.heap.objs.size (.tup xs),I1.laid (t':=s1.toks) (λb u e=>Heap.get?_push_of_some _ e) (xH _) ?_,rfl,q _ hf⟩;exact⟨z,us,r,⟨_,Heap.get?_push_size _ rfl,rfl,_,rfl⟩⟩
def gc(h:PA X es t):PE X (.List es pos) (tLst t):=by
 intro pins s σ H Q I hq;refine wpAny_List_spliced (thn (h pos pins s σ H _ I hq) λus s1 ⟨xs,H1,I1,r,z,q⟩=>⟨by rw[<- r.length];exact z,?_⟩);have hf:H1 s1.heap.objs.size=none:=I1.hok.fresh (xH _);refine⟨.ref s1.heap.objs.size,upd H1 s1.heap.objs.size (.lst xs),I1.laid (t':=s1.toks) (λb u e=>Heap.get?_push_of_some _ e) (xH _) ?_,rfl,q _ hf⟩;exact⟨z,us,0,r,Heap.get?_push_size _ rfl⟩
end
abbrev Sp:=List V->Hp->VK->XK->Prop
abbrev CXT:=List Hl->Hp->GE->XK->Da->GE->Prop
structure Env0(P:GH)(w:GM)(K:xE)(mg:Str->Option Da)(base:Heap)(A:GN)(outer:List Hl)(s:GE)(H:Hp):Prop where
 frames:A.frames=be outer
 mod:Mod K mg base
 bs:∀ b o,base.get? b=be o->s.heap.get? b=be o/\H b=t8
 bsz:base.objs.size<=s.heap.objs.size
 funs:s.heap.FunFrames base outer
 frf:∀ b∈frs outer,H b=t8
 hok:HOk P w H s.heap
 bare:Hi s.gens
def CE(outer:List Hl)(P:GH)(w:GM)(H:Hp)(s:GE)(Q:VK)(u:Da)(s':GE):Prop:=
 ∃ v H',s'.os=s.os/\Hi s'.gens/\Un (frs outer) [] H H' s.heap s'.heap/\HOk P w H' s'.heap/\RelV v u/\Q v H'
def CR(CX:CXT)(outer:List Hl)(P:GH)(w:GM)(H:Hp)(s:GE)(Q:VK)(E:XK)(r:Result)(s':GE):Prop:=
 match r with
 | .ok (.ret u)=>CE outer P w H s Q u s'
 | .ok _=>False
 | .error e=>CX outer H s E e s'
structure FnOk(P:GH)(w:GM)(K:xE)(mg:Str->Option Da)(base:Heap)(CX:CXT)(k:Nat)(f:GD)(fd:GR)(ps:List Str)(sp:Sp):Prop where
 len:∀ vs H Q E,sp vs H Q E->vs.length=ps.length
 run:∀ (A:GN) (outer:List Hl) (s:GE) (H:Hp) (args:Args) (us:List Da) (vs:List V) (Q:VK) (E:XK),Room k A->Env0 P w K mg base A outer s H->Hw s fd args (ps.zip us)->Vals vs us->sp vs H Q E->
  HF (GJ P w) A (.call (.ref f) args) (CR CX outer P w H s Q E) s
def FnOk.mono{P:GH}{w:GM}{K:xE}{mg:y8->Option Da}{base:Heap}{CX:CXT}{j k:Nat}{f:GD}{fd:GR}{ps:List y8}{sp:Sp}(F:FnOk P w K mg base CX j f fd ps sp)(h:j<=k):
  FnOk P w K mg base CX k f fd ps sp:=⟨F.len,λA outer s H args us vs Q E hr=>F.run A outer s H args us vs Q E (hr.mono h)⟩
def FnOk.imp{P:GH}{w:GM}{K:xE}{mg:y8->Option Da}{base:Heap}{CX:CXT}{k:Nat}{f:GD}{fd:GR}{ps:List y8}{sp v9:Sp}(F:FnOk P w K mg base CX k f fd ps sp)
  (h:∀ vs H Q E,v9 vs H Q E->sp vs H Q E):FnOk P w K mg base CX k f fd ps v9:=
 ⟨λvs H Q E q=>F.len vs H Q E (h _ _ _ _ q),λA outer s H args us vs Q E hr he hb hv hs=>F.run A outer s H args us vs Q E hr he hb hv (h _ _ _ _ hs)⟩
def Env0.make{P:GH}{w:GM}{K:xE}{mg:y8->Option Da}{base:Heap}{A:GN}{outer:List Hl}{s:GE}{H:Hp}(e:Env0 P w K mg base A outer s H)(C:GD)(us:List Da)(kw:List (y8 × Da)):
  Env0 P w K mg base (A.under (.builtin "type.__call__" ⟨.ref C::us,kw⟩)) outer s H:=⟨by first|exact e.frames|(simpa[Around.under,Code.envs,Code.isFrame,pushEnvs] using e.frames),e.mod,e.bs,e.bsz,e.funs,e.frf,e.hok,e.bare⟩
def Env0.in1{P:GH}{w:GM}{K:xE}{mg:y8->Option Da}{base:Heap}{A:GN}{outer:List Hl}{s:GE}{H:Hp}(e:Env0 P w K mg base A outer s H):
  Env0 P w K mg base A.in1 outer s H:=⟨e.frames,e.mod,e.bs,e.bsz,e.funs,e.frf,e.hok,e.bare⟩
section
variable {X:Cx}{pins:List (GD × GZ)}{σ:St}{H:Hp}{s s':GE}
def Inv.env0(I:Inv X pins σ H s):Env0 X.prog X.w X.K X.mg X.base X.A X.stack s H:=
 ⟨I.ok.frames,I.ok.mod,I.bs,xR I.ok.bsz I.sz,I.stack,I.stkFree,I.hok,I.bare⟩
def Inv.after{Q:VK}{u:Da}(I:Inv X pins σ H s)(h:CE X.stack X.prog X.w H s Q u s'):EP X pins σ Q u s':=by
 obtain⟨v,H',os,bare,un,hok,r,q⟩:=h;obtain⟨hh,g,d,t,EV⟩:=s';obtain rfl:EV=s.os:=os;exact⟨v,H',I.call (h':=hh) (g':=g) (d':=d) (t':=t) (ch:=[]) un hok bare (λb z=>absurd z (by simp)),r,q⟩
end
def kr(sp:Sp)(j5:List V)(E:XK)(t:TA):TE:=λσ H Q=>t σ H λvs H1=>sp (vs++j5) H1 Q E
def pq(C:GD)(sp:Sp)(j5:List V)(E:XK)(t:TA):TE:=λσ H Q=>t σ H λvs H1=>∀ x dx,H1 x=t8->H1 dx=t8->dx≠x->
 sp (.ref x::(vs++j5)) (upd (upd H1 dx (.own x)) x (.ins C dx [])) (λv H2=>v= .non/\Q (.ref x) H2) E
def Binds(K:xE)(fd:GR)(ps:List y8)(ds:List Da):Prop:=
 ∀ (s:GE) (us:List Da),K.In s.heap->(us++ds).length=ps.length->Hw s fd ⟨us,[]⟩ (ps.zip (us++ds))
def Binds.all{K:xE}{fd:GR}{ps:List y8}(h:∀ us:List Da,us.length=ps.length->Hf fd ⟨us,[]⟩=pure (ps.zip us)):Binds K fd ps []:=λs us _ hl=>by
 rw[yd] at hl ⊢;exact .of_eq (h us hl)
def dm(CX:CXT)(X:Cx)(E:XK):Prop:=∀ (pins:List (GD × GZ)) (σ:St) (H:Hp) (s:GE) (e:Da) (s':GE),Inv X pins σ H s->CX X.stack H s E e s'->X.xe e s'
section
variable {X:Cx}{CX:CXT}{k:Nat}{f C:GD}{fd:GR}{ps:List y8}{sp:Sp}{j5:List V}{ds:List Da}{E:XK}{x m:y8}{p pos apos:GV}{e o:GI}{es:List GI}{ta:TE}{t:TA}
def pr{pins:List (GD × GZ)}{σ:St}{H:Hp}{s:GE}{Q:VK}{us:List Da}{vs:List V}(F:FnOk X.prog X.w X.K X.mg X.base CX k f fd ps sp)(hr:Room k X.A)(hb:Binds X.K fd ps ds)(hd:Vals j5 ds)(hx:dm CX X E)
  (I:Inv X pins σ H s) (r:Vals vs us) (h:sp (vs++j5) H Q E):GL (GJ X.prog X.w) X.A (call (.ref f) us) (EP X pins σ Q) X.xe s:=by
 have r2:Vals (vs++j5) (us++ds):=r.append hd;have hl:(us++ds).length=ps.length:=by rw[<- r2.length];exact F.len _ _ _ _ h
 refine Hd (Hc (F.run X.A X.stack s H ⟨us,[]⟩ (us++ds) (vs++j5) Q E hr I.env0 (hb s us I.kIn hl) r2 h) λr s' hq=>?_);cases r with
 |error e=>exact hx pins σ H s e s' I hq
 |ok fl=>
  cases fl with
  |ret u=>exact I.after hq
  |next=>exact False.elim hq
  |brk=>exact False.elim hq
  |cont=>exact False.elim hq
def pu(F:FnOk X.prog X.w X.K X.mg X.base CX k f fd ps sp)(hr:Room k X.A)(hg:Gl X x)(hm:X.mg x=be (.ref f))(hk:keepIn X.K (.ref f)=true)(hb:Binds X.K fd ps ds)(hd:Vals j5 ds)(hx:dm CX X E)
  (ha:PA X (e::es) t) (d4:zND x:=by decide) (he:zSE X e es:=by rfl) (c7:zPL X pos es:=by rfl):
  PE X (.Call (.Name x p) (e::es) [] pos) (kr sp j5 E t):=by
 intro pins s σ H Q I h;refine GU (bL I hg hm ?_ d4);refine callWith_K (h₀:=X.base) I.ok.mod.kin hk (thn (ha pos pins s σ H _ I h) λus s1 hh=>⟨hh.elim λ_ h=>h.elim λ_ h=>h.1.kIn,?_⟩) he c7;obtain⟨vs,H1,I1,r,q⟩:=hh;exact pr F hr hb hd hx I1 r q
structure Mk(K:xE)(C f:GD):Prop where
 makes:makesIn K C=true
 init:xI K (.ref C) "__init__"=be (be (.ref f))
 fn:isFn K (.ref f)=true
 kp:keepIn K (.ref C)=true
def pv{pins:List (GD × GZ)}{σ:St}{H:Hp}{s:GE}{Q:VK}{us:List Da}{vs:List V}(M:Mk X.K C f)(F:FnOk X.prog X.w X.K X.mg X.base CX k f fd ps sp)(hr:Room (k+1) X.A)(hb:Binds X.K fd ps ds)(hd:Vals j5 ds)
  (hx:dm CX X E) (I:Inv X pins σ H s) (r:Vals vs us)
  (h:∀ x dx,H x=t8->H dx=t8->dx≠x->sp (.ref x::(vs++j5)) (upd (upd H dx (.own x)) x (.ins C dx [])) (λv H2=>v= .non/\Q (.ref x) H2) E):
  GL (GJ X.prog X.w) X.A (call (.ref C) us) (EP X pins σ Q) X.xe s:=by
 have hq:=h (s.heap.objs.size+1) s.heap.objs.size (I.hok.fresh (yv _)) (I.hok.fresh (xH _)) (xM (zN _));have I2:=Inv.made (C:=C) I;have r2:Vals (V.ref (s.heap.objs.size+1)::(vs++j5)) (Value.ref (s.heap.objs.size+1)::(us++ds)):= .cons rfl (r.append hd);have hl:(Value.ref (s.heap.objs.size+1)::us++ds).length=ps.length:=by
  have e:=r2.length;rw[F.len _ _ _ _ hq] at e;exact e.symm
 refine Hd (pd (f:=f) I.kIn M.makes M.init (beq_iff_eq.mp M.fn) (Hc (F.run _ X.stack _ _ ⟨Value.ref (s.heap.objs.size+1)::us,[]⟩ (Value.ref (s.heap.objs.size+1)::(us++ds)) _ _ E (hr.make C us [])
  (I2.env0.make C us []) (hb _ (Value.ref (s.heap.objs.size+1)::us) I2.kIn hl) r2 hq) λr s' l8=>?_))
 cases r with
 |error e=>exact hx pins σ _ _ e s' I2 l8
 |ok fl=>
  cases fl with
  |ret u=>
   obtain⟨v,H',I3,rv,ev,q3⟩:=I2.after l8;subst ev;exact⟨rv,⟨V.ref (s.heap.objs.size+1),H',I3,rfl,q3⟩⟩
  |next=>exact False.elim l8
  |brk=>exact False.elim l8
  |cont=>exact False.elim l8
def gd(M:Mk X.K C f)(F:FnOk X.prog X.w X.K X.mg X.base CX k f fd ps sp)(hr:Room (k+1) X.A)(hg:Gl X x)(hm:X.mg x=be (.ref C))(hb:Binds X.K fd ps ds)(hd:Vals j5 ds)(hx:dm CX X E)
  (ha:PA X (e::es) t) (d4:zND x:=by decide) (he:zSE X e es:=by rfl) (c7:zPL X pos es:=by rfl):
  PE X (.Call (.Name x p) (e::es) [] pos) (pq C sp j5 E t):=by
 intro pins s σ H Q I h;refine GU (bL I hg hm ?_ d4);refine callWith_K (h₀:=X.base) I.ok.mod.kin M.kp (thn (ha pos pins s σ H _ I h) λus s1 hh=>⟨hh.elim λ_ h=>h.elim λ_ h=>h.1.kIn,?_⟩) he c7;obtain⟨vs,H1,I1,r,q⟩:=hh;exact pv M F hr hb hd hx I1 r q
end
structure FnScope(N P:List Str)(sc:Hm):Prop where
 kind:sc.kind= .function
 co:sc.isCoroutine=false
 gen:sc.isGenerator=false
 nd:N.Nodup
 pre:N.take P.length=P
 par:∀ x∈P,sc.names.lookup x=be .local\/sc.names.lookup x=be .cell
 nofree:∀ y∈sc.names,y.2≠.free
def kt{kindOf:y8->Option HZ}{x:y8}:∀ {binds:List (y8 × Da)} {m:y8->Option Da},(∀ v,(x,v) ∉ binds)->HL kindOf binds m x=m x
 |[],_,_=>rfl
 |(n,v)::r,m,h=>by
  unfold HL;rw[kt λw hw=>h w (xS _ hw)];split
  .have:x≠n:=by rintro rfl;exact h v xT
   simp[this]
  .rfl
def bindC_out{kindOf:y8->Option HZ}{x:y8}:∀ {binds:List (y8 × Da)} {m:y8->Option Da},(∀ v,(x,v) ∉ binds)->HM kindOf binds m x=m x
 |[],_,_=>rfl
 |(n,v)::r,m,h=>by
  unfold HM;rw[bindC_out λw hw=>h w (xS _ hw)];split
  .rfl
  .have:x≠n:=by rintro rfl;exact h v xT
   simp[this]
def bindL_get{kindOf:y8->Option HZ}{x:y8}{v:Da}:∀ {P:List y8} {vs:List Da} {i:Nat} {m:y8->Option Da},P.Nodup->P[i]?=be x->vs[i]?=be v->kindOf x=be .local->
  HL kindOf (P.zip vs) m x=be v
 |[],_,_,_,_,h,_,_=>by simp at h
 |_::_,[],_,_,_,_,h,_=>by simp at h
 |p::P,w::vs,0,m,nd,h1,h2,hk=>by
  simp at h1 h2;subst h1;subst h2;show HL kindOf ((p,w)::P.zip vs) m p=_;unfold HL;rw[kt λv hv=>(yp.mp nd).1 (zl hv).1,if_pos hk];simp
 |p::P,w::vs,i+1,m,nd,h1,h2,hk=>by
  show HL kindOf ((p,w)::P.zip vs) m x=_;unfold HL;exact bindL_get (i:=i) (yp.mp nd).2 (by simpa using h1) (by simpa using h2) hk
def ku{kindOf:y8->Option HZ}{x:y8}{v:Da}:∀ {P:List y8} {vs:List Da} {i:Nat} {m:y8->Option Da},P.Nodup->P[i]?=be x->vs[i]?=be v->kindOf x≠be .local->
  HM kindOf (P.zip vs) m x=be v
 |[],_,_,_,_,h,_,_=>by simp at h
 |_::_,[],_,_,_,_,h,_=>by simp at h
 |p::P,w::vs,0,m,nd,h1,h2,hk=>by
  simp at h1 h2;subst h1;subst h2;show HM kindOf ((p,w)::P.zip vs) m p=_;unfold HM;rw[bindC_out λv hv=>(yp.mp nd).1 (zl hv).1,if_neg hk];simp
 |p::P,w::vs,i+1,m,nd,h1,h2,hk=>by
  show HM kindOf ((p,w)::P.zip vs) m x=_;unfold HM;exact ku (i:=i) (yp.mp nd).2 (by simpa using h1) (by simpa using h2) hk
def start(N:List y8)(vs:List V):St:=vs.map be++yi (N.length - vs.length) t8
def cxOf(CX:CXT)(P:GH)(w:GM)(K:xE)(mg:y8->Option Da)(base:Heap)(N:List y8)(qual:y8)(scope:Hm)(f:GD)(cd:Da)(A:GN)(outer:List Hl)(s:GE)(H:Hp)(E:XK):Cx where
 prog:=P
 w:=w
 K:=K
 mg:=mg
 base:=base
 A:=A.deeper (GX qual scope s.heap.objs.size f cd)
 N:=N
 s₀:=s
 H₀:=H
 env:=GX qual scope s.heap.objs.size f cd
 outer:=outer
 stack:=GX qual scope s.heap.objs.size f cd::outer
 ex:=[]
 calm:=true
 fn:=λ_=>true
 pn:=[]
 xe:=λe s'=>GL (GJ P w) (A.deeper (GX qual scope s.heap.objs.size f cd)) (HS (GX qual scope s.heap.objs.size f cd) e) (λ_ Cd=>CX outer H s E e Cd) (λe' Cd=>CX outer H s E e' Cd) s'
def cell_has{sc:Hm}{n:Nat}{x:y8}(h:sc.names.lookup x=be .cell):∃ c,(cellsFrom n sc.names []).lookup x=be c:=by
 have q:=cellsFrom_some sc.names n [] (.inl h);exact Option.isSome_iff_exists.mp q
def pw{CX:CXT}{P:GH}{w:GM}{K:xE}{mg:y8->Option Da}{base:Heap}{N ps:List y8}{qual:y8}{scope:Hm}{f:GD}{cd:Da}{A:GN}{outer:List Hl}{s s1:GE}{H:Hp}{E:XK}{us:List Da}{vs:List V}
  (S:FnScope N ps scope) (hd:A.handled=t8) (e0:Env0 P w K mg base A outer s H) (hl:vs.length=ps.length) (r:Vals vs us)
  (x:InCallC s s.heap.objs.size (HL (GX qual scope s.heap.objs.size f cd).kindOf (ps.zip us) λ_=>t8) (cellsFrom (s.heap.objs.size+1) scope.names []) (HM (GX qual scope s.heap.objs.size f cd).kindOf (ps.zip us) λ_=>t8) s1):
  Inv (cxOf CX P w K mg base N qual scope f cd A outer s H E) [] (start N vs) H s1:=by
 have c7:ps.length<=N.length:=by have:=congrArg yI S.pre;rw[List.length_take] at this;lia
 obtain⟨h1,tk,rfl,hk⟩:=x.done;have AV:∀ b:GD,b ∉ (cxOf CX P w K mg base N qual scope f cd A outer s H E).ex:=λb z=>absurd (show b∈([]:List GD) from z) (by simp);refine⟨⟨e0.mod,S.kind,rfl,rfl,xH _,λy z c h1 h2=>?_,λy hy=>?_,λy c _ h=>?_,λ_=>hd,Around.frames_deeper e0.frames,.inr ⟨rfl,rfl⟩,λb z=>absurd z (AV b),e0.bs,e0.bsz,λb _ _=>AV b,λb z=>absurd z (AV b),e0.funs,e0.frf⟩,
  rfl,e0.bare,Un.kept hk,⟨_,x.toInCall.ns,λi y v h1 h2 h3=>?_⟩,λy c h=>⟨_,x.cell y c h⟩,e0.hok.fresh (xH _),λy c h=>?_,λp hp=>absurd (show p∈([]:List (GD × GZ)) from hp) (by simp),e0.hok.kept hk,?_⟩
 .exact name_of_addr x.apart (PySem.mem_of_lookup h1) (PySem.mem_of_lookup h2)
 .have hy:scope.names.lookup y=be .cell\/scope.names.lookup y=be .free:=hy;rcases hy with hy|hy
  .exact cell_has hy
  .exact absurd rfl (S.nofree _ (PySem.mem_of_lookup hy))
 .exact yS (x.above y c (PySem.mem_of_lookup h))
 .have hi:i<vs.length:=by
   unfold start at h2;by_cases hi:i<vs.length
   .exact hi
   .rw[zm (by simpa using hi)] at h2;rw[zn] at h2;split at h2<;>cases h2
  have ha:vs[i]?=be v:=by
   unfold start at h2;rw[yW (by simpa using hi),yj] at h2;cases e:vs[i]? with
   |none=>rw[e] at h2;cases h2
   |some a=>rw[e] at h2;cases h2;rfl
  obtain⟨u,hu,rv⟩:=r.get ha;have hp:ps[i]?=be y:=by
   rw[<- S.pre,List.getElem?_take_of_lt (by lia)];exact h1
  have D2:ps.Nodup:=by rw[<- S.pre];exact S.nd.sublist (List.take_sublist _ _)
  refine⟨u,rv,?_⟩;rcases S.par y (zo hp) with k|k
  .exact .inl ⟨k,bindL_get D2 hp hu k⟩
  .obtain⟨c,e⟩:=cell_has (n:=s.heap.objs.size+1) k;refine .inr ⟨.inl k,c,e,?_⟩;have q:=x.cell y c e;rw[ku D2 hp hu (by show scope.names.lookup y≠_;rw[k];decide)] at q;exact q
 .exact e0.hok.fresh (yS (x.above y c (PySem.mem_of_lookup h)))
 .unfold start;show _=N.length;rw[xP,xU,List.length_replicate];lia
def ky{CX:CXT}{P:GH}{w:GM}{K:xE}{mg:y8->Option Da}{base:Heap}{k:Nat}{f:GD}{name qual:y8}{params:Arguments}{body:List GK}{scope:Hm}{dV kV doc pm cdv ct oc:Da}{an od:Option GD}
  {osl:Array (Option Da)} {N ps:List y8} {sp:Sp} (lk:K.lookup f=be ⟨oc,od,.func (fnOf name qual params body scope dV kV doc pm an cdv ct),osl⟩) (e_:codeIn K cdv qual=true) (S:FnScope N ps scope)
  (len:∀ vs H Q E,sp vs H Q E->vs.length=ps.length)
  (a9:∀ (A:GN) (outer:List Hl) (s:GE) (H:Hp) (vs:List V) (Q:VK) (E:XK),Room k (A.deeper (GX qual scope s.heap.objs.size f cdv))->sp vs H Q E->
   ∃ t,PSs (cxOf CX P w K mg base N qual scope f cdv A outer s H E) body t/\t {nx:=λ_ H'=>Q .non H',rt:=Q} (start N vs) H):
  FnOk P w K mg base CX (k+1) f (fnOf name qual params body scope dV kV doc pm an cdv ct) ps sp:=by
 refine⟨len,λA outer s H args us vs Q E hr e0 hb r l9=>?_⟩;have hl:=len _ _ _ _ l9;have KX:K.In s.heap:=e0.mod.kin.keeps λb o e=>(e0.bs b o e).1;have EW:s.heap.NoLimit:=e0.mod.nolimit.keeps λb o e=>(e0.bs b o e).1;have AW:∀ y∈ps.zip us,scope.names.lookup y.1=be .local\/(scope.names.lookup y.1=be .cell/\((cellsFrom (s.heap.objs.size+1) scope.names []).lookup y.1).isSome=true):=λ⟨n,v⟩ hy=>by
  rcases S.par n (zl hy).1 with q|q
  .exact .inl q
  .exact .inr ⟨q,cellsFrom_some _ _ _ (.inl q)⟩
 refine codeAny_call_function hr.depth (KX _ _ lk) rfl S.co S.gen rfl (codeRec_of KX e_) (hb _ _ _ _ ?_);refine wpAny_newFunctionEnv_cells S.kind AW λenv he s1 x=>?_;subst he;refine⟨EW.keeps x.toInCall.keep,codeAny_func ?_⟩;obtain⟨t,ht,hq⟩:=a9 A outer s H vs Q E (hr.deeper _) l9;have I:Inv (cxOf CX P w K mg base N qual scope f cdv A outer s H E) [] (start N vs) H s1:=pw S hr.hd e0 hl r x;refine G4 (ht [] s1 (start N vs) H _ I hq) (λfl s' hs=>?_) λe s' hs=>hs;have e8:∀ {σ':St} {H':Hp} {v:V} {u:Da},Inv (cxOf CX P w K mg base N qual scope f cdv A outer s H E) [] σ' H' s'->RelV v u->Q v H'->CE outer P w H s Q u s':=
  λ{σ' H' v u} J rv q=>⟨v,H',J.os,J.bare,J.base,J.hok,rv,q⟩
 cases fl with
 |ret u=>
  obtain⟨v,σ',H',J,rv,q⟩:=hs;exact e8 J rv q
 |next=>
  obtain⟨σ',H',J,q⟩:=hs;exact e8 (v:=V.non) (u:=Value.none) J rfl q
 |brk=>
  obtain⟨_,_,_,q⟩:=hs;exact False.elim q
 |cont=>
  obtain⟨_,_,_,q⟩:=hs;exact False.elim q
section
variable {X:Cx}{x:y8}{p pos:GV}{e:GI}{es:List GI}{t:TA}{id T:String}{r:List V->Hp->VK->Prop}
def tCB(r:List V->Hp->VK->Prop)(t:TA):TE:=λσ H Q=>t σ H λvs H1=>r vs H1 Q
def dQ(hc:bz X (.builtin id) r)(hg:Gl X x)(hm:X.mg x=t8)(hv:GY x=be (.builtin id))(ha:PA X (e::es) t)(hn:x≠"__name__":=by decide)(d4:zND x:=by decide)
  (he:zSE X e es:=by rfl) (c7:zPL X pos es:=by rfl):PE X (.Call (.Name x p) (e::es) [] pos) (tCB r t):=by
 intro pins s σ H Q I h;refine GU (ce I hg hm hv ?_ hn d4);exact PyProof.Rows.callWith_builtin1 (thn (ha pos pins s σ H _ I h) λus s1 ⟨vs,H1,I1,r1,q1⟩=>hc pins s1 σ H1 vs us Q I1 r1 q1) he c7
def kz(hc:bz X (.type T) r)(hg:Gl X x)(hm:X.mg x=t8)(hv:GY x=be (.type T))(ha:PA X (e::es) t)(hn:x≠"__name__":=by decide)(d4:zND x:=by decide)
  (he:zSE X e es:=by rfl) (c7:zPL X pos es:=by rfl):PE X (.Call (.Name x p) (e::es) [] pos) (tCB r t):=by
 intro pins s σ H Q I h;refine GU (ce I hg hm hv ?_ hn d4);exact PyProof.Rows.callWith_type1 (thn (ha pos pins s σ H _ I h) λus s1 ⟨vs,H1,I1,r1,q1⟩=>hc pins s1 σ H1 vs us Q I1 r1 q1) he c7
end
end L2
namespace HT
open PySem PyProof.Rows
section
variable {prog:GH}{w:GM}{A:GN}{E:Da->GE->Prop}{s:GE}
def cat_tup{t b:GD}{vs ws:List Da}{Q:Da->GE->Prop}(ht:IsTup s.heap t vs.toArray)(hb:IsTup s.heap b ws.toArray)(hv:vs≠[])
  (h1:ws=[]->Q (.ref t) s) (h2:ws≠[]->Q (.ref s.heap.objs.size) {s with heap:=s.heap.push {cls:= .type "tuple",data:= .seq (vs++ws).toArray} })
  (j4:vs.length+ws.length<=sizeLine):GL (GJ prog w) A (G6 .Add (.ref t) (.ref b)) Q E s:=by
 obtain⟨⟨cls,dd,data,sl⟩,ho,hc,n,hd⟩:=id ht;obtain⟨⟨EY,D3,data2,D4⟩,BH,D5,n2,BI⟩:=id hb;simp only at hc hd D5 BI;subst hc hd D5 BI;have e:vs.toArray++ws.toArray=(vs++ws).toArray:=by simp
 by_cases hw:ws=[]
 .exact concat_meets ⟨_,ho,rfl⟩ ⟨_,BH,rfl⟩ noFill_tuple_add seq_tuple_add PySem.F.slot_tuple_add PySem.F.entry_tuple_add (PySem.F.args_tuple_add_2 _ _)
   (tuple_addW1 t b vs.toArray ws.toArray n n2 dd D3 sl D4 (by simpa using hv) (by simp[hw])) ⟨ho,BH,h1 hw⟩
 .refine concat_meets ⟨_,ho,rfl⟩ ⟨_,BH,rfl⟩ noFill_tuple_add seq_tuple_add PySem.F.slot_tuple_add PySem.F.entry_tuple_add (PySem.F.args_tuple_add_2 _ _)
   (tuple_addW2 t b vs.toArray ws.toArray n n2 dd D3 sl D4 (by simpa using hv) (by simpa using hw) (by rw[xW,xW];exact j4)) ⟨ho,BH,?_⟩
  rw[e];exact h2 hw
def sIx(n d:Nat):Option Int->Nat
 |none=>d
 |some v=>if v<0 then(v+(n:Int)).toNat else min v.toNat n
end
end HT
namespace L2
open PySem PySem.Spec PyProof.Rows
abbrev TO:=St->Hp->(Option Int->Hp->Prop)->Prop
def PO(X:Cx)(e:Option GI)(t:TO):Prop:=
 ∀ (pins:List (GD × GZ)) (s:GE) (σ:St) (H:Hp) (Q:Option Int->Hp->Prop),Inv X pins σ H s->t σ H Q->
  GL (GJ X.prog X.w) X.A (evalPart e X.env) (λu s'=>∃ o H',Inv X pins σ H' s'/\IsPart u o/\Q o H') X.xe s
section
variable {X:Cx}{e:GI}{te:TE}{lo hi:Option GI}{tl th:TO}{pos p2:GV}
def kA(K:xE):R2:=λx y H Q=>∃ a b xs ys,x= .ref a/\y= .ref b/\SqT K H a xs/\SqT K H b ys/\xs≠[]/\xs.length+ys.length<=sizeLine/\
 (ys=[]->Q (.ref a) H)/\(ys≠[]->∀ p,H p=t8->Q (.ref p) (upd H p (.tup (xs++ys))))
def Vals.nil_iff{xs:List V}{us:List Da}(r:Vals xs us):us=[]↔xs=[]:=by
 cases r with
 |nil=>simp
 |cons _ _=>simp
def pz:OpR X (G6 .Add) (kA X.K):=by
 intro pins s σ H x y v u Q I rx ry h;obtain⟨a,b,xs,ys,rfl,rfl,ha,hb,hx,hz,q1,q2⟩:=h;cases rx;cases ry;obtain⟨a_,r1,p1,_⟩:=I.tuple ha;obtain⟨i6,r2,p2,_⟩:=I.tuple hb;refine HT.cat_tup p1 p2 (λz=>hx (r1.nil_iff.mp z)) (λz=>⟨.ref a,H,I,rfl,q1 (r2.nil_iff.mp z)⟩) (λz=>?_) (by rw[<- r1.length,<- r2.length];exact hz);refine⟨.ref s.heap.objs.size,_,I.laid (t':=s.toks) (o:= .tup (xs++ys)) (λb ob q=>Heap.get?_push_of_some _ q) (xH _) ?_,rfl,q2 (λw=>z (r2.nil_iff.mpr w)) _ (I.hok.fresh (xH _))⟩;exact⟨by rw[xP];exact hz,_,r1.append r2,IsTup.new _ _⟩
end
def ixN(n:Nat)(i:Int):Option Nat:=if 0<=i then(if i<n then be i.toNat else t8) else if -(n:Int)<=i then be (i+n).toNat else t8
def atI{α:Type}(xs:List α)(i:Int):Option α:=(ixN xs.length i).bind λj=>xs[j]?
def pA{n:Nat}{i:Int}{j:Nat}(h:ixN n i=be j):seqIndex? i n=be j/\j<n/\-(n:Int)<=i/\i<n:=by
 unfold ixN at h;by_cases h0:0<=i
 .rw[if_pos h0] at h;by_cases h1:i<n
  .rw[if_pos h1] at h;have e:i.toNat=j:=Option.some.inj h;exact⟨by rw[seqIndex_of h0 h1,e],by lia,by lia,h1⟩
  .rw[if_neg h1] at h;cases h
 .rw[if_neg h0] at h;by_cases h1: -(n:Int)<=i
  .rw[if_pos h1] at h;have e:(i+n).toNat=j:=Option.some.inj h;exact⟨by rw[seqIndex_neg (by lia) h1,e],by lia,h1,by lia⟩
  .rw[if_neg h1] at h;cases h
def atI_get{α:Type}{xs:List α}{i:Int}{v:α}(h:atI xs i=be v):∃ j,seqIndex? i xs.length=be j/\xs[j]?=be v/\j<xs.length/\-(xs.length:Int)<=i/\i<xs.length:=by
 unfold atI at h;cases e:ixN xs.length i with
 |none=>rw[e] at h;cases h
 |some j=>
  rw[e] at h;obtain⟨h1,h2,h3,h4⟩:=pA e;exact⟨j,h1,h,h2,h3,h4⟩
def dn{α:Type}{xs:List α}{j:Nat}{v:α}(h:xs[j]?=be v):atI xs (j:Int)=be v:=by
 have hj:j<xs.length:=(xO.mp h).1;have e:ixN xs.length (j:Int)=be j:=by
  unfold ixN;rw[if_pos (by lia),if_pos (by lia)];simp
 unfold atI;rw[e];exact h
def cP(b:GI):Prop:=∀ o i,subscripted b false o i=operate [o,i] (getItem o i)
def IxR(X:Cx)(r:R2):Prop:=
 ∀ (value slice:GI) (pins:List (GD × GZ)) (s:GE) (σ:St) (H:Hp) (x y:V) (v u:Da) (Q:VK),Inv X pins σ H s->RelV x v->RelV y u->r x y H Q->
  subscripted slice false v u=operate [v,u] (getItem v u)->GL (GJ X.prog X.w) X.A (subscriptTail value slice v u) (EP X pins σ Q) X.xe s
def MtR(X:Cx)(id:String)(r:V->List V->Hp->VK->Prop):Prop:=
 ∀ (pins:List (GD × GZ)) (s:GE) (σ:St) (H:Hp) (x:V) (xs:List V) (v:Da) (us:List Da) (Q:VK),Inv X pins σ H s->RelV x v->Vals xs us->r x xs H Q->
  GL (GJ X.prog X.w) X.A (call (.builtin id) (v::us)) (EP X pins σ Q) X.xe s
section
variable {X:Cx}{a b:GI}{ta tb:TE}{pos:GV}
def IxR.or{r r':R2}(h:IxR X r)(h':IxR X r'):IxR X (λx y H Q=>r x y H Q\/r' x y H Q):=by
 intro value slice pins s σ H x y v u Q I rx ry q hs;rcases q with q|q
 .exact h value slice pins s σ H x y v u Q I rx ry q hs
 .exact h' value slice pins s σ H x y v u Q I rx ry q hs
def pe_ix{r:R2}(hr:IxR X r)(ha:PE X a ta)(hb:PE X b tb)(hs:cP b):PE X (.Subscript a b pos) (tOp r ta tb):=by
 intro pins s σ H Q I h;exact Subscript_ (binT ha hb I h λv u s2 x y H2 I2 rx ry q=>hr a b pins s2 σ H2 x y v u Q I2 rx ry q (hs _ _))
def rIxL(K:xE):R2:=λx y H Q=>∃ p xs i v,x= .ref p/\y= .int i/\SqL K H p xs/\atI xs i=be v/\Q v H
def rIxT(K:xE):R2:=λx y H Q=>∃ p xs i v,x= .ref p/\y= .int i/\SqT K H p xs/\atI xs i=be v/\Q v H
def rIxS:R2:=λx y H Q=>∃ z i c,x= .str z/\y= .int i/\z.length<=sizeLine/\atI z.cps.toList i=be c/\Q (.str ⟨#[c]⟩) H
def ix_list:IxR X (rIxL X.K):=by
 intro value slice pins s σ H x y v u Q I rx ry h hs;obtain⟨p,xs,i,z,rfl,rfl,hq,he,q⟩:=h;cases rx;obtain⟨t,rfl⟩:=ry;obtain⟨a_,r,pl,hz⟩:=I.list hq;obtain⟨j,h1,h2,h3,h4,h5⟩:=atI_get he;obtain⟨w,ew,j6⟩:=r.get h2;have hl:=r.length;have hn:=line63;have e8:EP X pins σ Q w s:=⟨z,H,I,j6,q⟩;by_cases h0:0<=i
 .have hj:i.toNat=j:=by
   rw[seqIndex_of h0 h5] at h1;exact Option.some.inj h1
  exact item_listR pl.isList h0 (by lia) (by rw[hj];simpa using ew) e8 hs
 .have hj:(i+(a_.toArray.size:Int)).toNat=j:=by
   rw[seqIndex_neg (by lia) h4] at h1;rw[xW,<- hl];exact Option.some.inj h1
  exact HQ (x:=w) pl.isList.typeIs slot_list_getitem.lookup
   (wpAny_getItem_list_neg (Q:=λr s'=>r=w/\EP X pins σ Q r s') pl.isList (by lia) (by rw[xW]<;>lia) (by lia) (by rw[hj];simpa using ew) ⟨rfl,e8⟩) hs
def ix_tup:IxR X (rIxT X.K):=by
 intro value slice pins s σ H x y v u Q I rx ry h hs;obtain⟨p,xs,i,z,rfl,rfl,hq,he,q⟩:=h;cases rx;obtain⟨t,rfl⟩:=ry;obtain⟨a_,r,pl,hz⟩:=I.tuple hq;obtain⟨j,h1,h2,h3,h4,h5⟩:=atI_get he;obtain⟨w,ew,j6⟩:=r.get h2;have hl:=r.length;have hn:=line63;have e8:EP X pins σ Q w s:=⟨z,H,I,j6,q⟩;exact HQ (x:=w) pl.typeIs slot_tuple_getitem.lookup
  (getItem_tuple (j:=j) (Q:=λr s'=>r=w/\EP X pins σ Q r s') pl (by lia) (by lia) (by rw[xW,<- hl];exact h1) (by simpa using ew) ⟨rfl,e8⟩) hs
def pB:IxR X rIxS:=by
 intro value slice pins s σ H x y v u Q I rx ry h hs;obtain⟨z,i,c,rfl,rfl,hz,he,q⟩:=h;obtain⟨t,rfl⟩:=rx;obtain⟨t',rfl⟩:=ry;obtain⟨j,h1,h2,h3,h4,h5⟩:=atI_get he;have hl:z.cps.toList.length=z.length:=by simp[Str.length]
 rw[hl] at h1 h4 h5;have hn:=line63;exact tail_any (Ib s z t) slot_str_getitem.lookup (getItem_str (c:=c) (by
  have e1:decide (i< -(2 ^ 63:Int))=false:=decide_eq_false (by lia);have e2:decide (i >= 2 ^ 63)=false:=decide_eq_false (by lia);rw[e1,e2,Bool.or_false]) (by rw[h1];simpa using h2) ⟨.str ⟨#[c]⟩,H,I.tok _,⟨_,rfl⟩,q⟩) hs
def rIx(K:xE):R2:=λx y H Q=>rIxL K x y H Q\/rIxT K x y H Q\/rIxS x y H Q
def kB:IxR X (rIx X.K):=ix_list.or (ix_tup.or pB)
def Inv.lst{pins:List (GD × GZ)}{σ:St}{H:Hp}{s:GE}{p:GD}{xs:List V}(I:Inv X pins σ H s)(h:H p=be (.lst xs)):
  ∃ (a_:List Da) (n:Nat),Vals xs a_/\s.heap.get? p=be {cls:= .type "list",data:= .seq a_.toArray n}/\xs.length<=sizeLine:=by
 obtain⟨z,a_,n,r,e⟩:=I.hok p _ h;exact⟨a_,n,r,e,z⟩
def aX:V->Bool
 | .non=>true
 | .bl _=>true
 | .int _=>true
 | .str _=>true
 |_=>false
def eqV:V->V->Bool
 | .non,.non=>true
 | .bl a,.bl b=>a==b
 | .bl a,.int b=>(if a then 1 else 0)==b
 | .int a,.bl b=>a==(if b then 1 else 0)
 | .int a,.int b=>a==b
 | .str a,.str b=>a==b
 |_,_=>false
def eqAt_V{A:GN}{s:GE}{y x:V}{u v:Da}(ry:RelV y u)(rx:RelV x v)(fy:aX y=true)(fx:aX x=true):SeqAt.EqAt A s u v (eqV y x):=by
 cases y with
 |non=>
  cases ry;cases x with
  |non=>cases rx;exact SeqAt.EqAt.same _
  |bl b=>cases rx;exact SeqAt.EqAt.none_bool b
  |int b=>obtain⟨t,rfl⟩:=rx;exact SeqAt.EqAt.none_int b t
  |str b=>obtain⟨t,rfl⟩:=rx;exact SeqAt.EqAt.none_str b t
  |_=>exact absurd (show false=true from fx) xK
 |bl a=>
  cases ry;cases x with
  |non=>cases rx;exact SeqAt.EqAt.bool_none a
  |bl b=>cases rx;exact SeqAt.EqAt.bool_bool a b
  |int b=>obtain⟨t,rfl⟩:=rx;exact SeqAt.EqAt.bool_int a b t
  |str b=>obtain⟨t,rfl⟩:=rx;exact SeqAt.EqAt.bool_str a b t
  |_=>exact absurd (show false=true from fx) xK
 |int a=>
  obtain⟨t',rfl⟩:=ry;cases x with
  |non=>cases rx;exact SeqAt.EqAt.int_none a t'
  |bl b=>cases rx;exact SeqAt.EqAt.int_bool a t' b
  |int b=>obtain⟨t,rfl⟩:=rx;exact SeqAt.EqAt.int_int a t' b t
  |str b=>obtain⟨t,rfl⟩:=rx;exact SeqAt.EqAt.int_str a t' b t
  |_=>exact absurd (show false=true from fx) xK
 |str a=>
  obtain⟨t',rfl⟩:=ry;cases x with
  |non=>cases rx;exact SeqAt.EqAt.str_none a t'
  |bl b=>cases rx;exact SeqAt.EqAt.str_bool a t' b
  |int b=>obtain⟨t,rfl⟩:=rx;exact SeqAt.EqAt.str_int a t' b t
  |str b=>obtain⟨t,rfl⟩:=rx;exact SeqAt.EqAt.str_str a t' b t
  |_=>exact absurd (show false=true from fx) xK
 |_=>exact absurd (show false=true from fy) xK
def eqU(x:V)(u:Da):Bool:=match u with
 | .none=>eqV .non x
 | .bool b=>eqV (.bl b) x
 | .int i _=>eqV (.int i) x
 | .str z _=>eqV (.str z) x
 |_=>false
def gf{x y:V}{u:Da}(r:RelV y u)(f:aX y=true):eqU x u=eqV y x:=by
 cases y with
 |non=>cases r;rfl
 |bl b=>cases r;rfl
 |int i=>obtain⟨t,rfl⟩:=r;rfl
 |str z=>obtain⟨t,rfl⟩:=r;rfl
 |_=>exact absurd (show false=true from f) xK
def gh{x:V}:∀ {xs:List V} {us:List Da},Vals xs us->xs.all aX=true->us.any (eqU x)=xs.any λy=>eqV y x
 |_,_,.nil,_=>rfl
 |y::xs,u::us,.cons r t,f=>by
  rw[yq,yb] at f;rw[yr,yr,gf r f.1,gh t f.2]
def mem_eqAt{A:GN}{s:GE}{x:V}{v:Da}(rx:RelV x v)(fx:aX x=true):∀ {xs:List V} {us:List Da},Vals xs us->xs.all aX=true->∀ u∈us,SeqAt.EqAt A s u v (eqU x u)
 |_,_,.nil,_=>λu hu=>by cases hu
 |y::xs,u::us,.cons r t,f=>λu' hu=>by
  rw[yq,yb] at f;rcases xJ.mp hu with rfl|hu
  .rw[gf r f.1];exact eqAt_V r rx f.1 fx
  .exact mem_eqAt rx fx t f.2 u' hu
def inV(x:V)(xs:List V):Bool:=xs.any λy=>eqV y x
def rIn(K:xE)(neg:Bool):R2:=λx y H Q=>∃ p xs,y= .ref p/\(SqL K H p xs\/SqT K H p xs)/\aX x=true/\xs.all aX=true/\Q (.bl (if neg then !inV x xs else inV x xs)) H
def pC:OpR X (G3 .NotIn) (rIn X.K true):=by
 intro pins s σ H x y v u Q I rx ry h;obtain⟨p,xs,rfl,hq,fx,fs,q⟩:=h;cases ry;rcases hq with hq|hq
 .obtain⟨a_,r,pl,hz⟩:=I.list hq;refine SeqAt.notIn_listAt (eqU x) pl.isList (λw hw=>mem_eqAt rx fx r fs w (by simpa using hw)) ⟨.bl _,H,I,rfl,?_⟩;rw[show a_.toArray.any (eqU x)=a_.any (eqU x) by simp,gh r fs];exact q
 .obtain⟨a_,r,pl,hz⟩:=I.tuple hq;refine SeqAt.notIn_tupleAt (eqU x) pl (λw hw=>mem_eqAt rx fx r fs w (by simpa using hw)) ⟨.bl _,H,I,rfl,?_⟩;rw[show a_.toArray.any (eqU x)=a_.any (eqU x) by simp,gh r fs];exact q
def pD:OpR X (G3 .NotIn) (λx y H Q=>∃ i j,x= .str i/\y= .str j/\Q (.bl (!(!(Builtin.Str.occurrences j i 0 j.length 1).isEmpty))) H):=by
 intro pins s σ H x y v u Q I rx ry h;obtain⟨i,j,rfl,rfl,q⟩:=h;obtain⟨t,rfl⟩:=rx;obtain⟨t',rfl⟩:=ry;exact notIn_str ⟨.bl _,H,I,rfl,q⟩
def tyV(K:xE)(T:String)(x:V)(H:Hp):Prop:=match x with
 | .str _=>T="str"
 | .int _=>T="int"
 | .ref p=>(T="list"/\∃ xs,SqL K H p xs)\/(T="tuple"/\∃ o,K.lookup p=be o/\o.cls= .type "tuple"/\o.dict=t8)\/
   (T="dict"/\((∃ a8,H p=be (.dK a8))\/∃ a8,H p=be (.dT a8)))\/(T="set"/\∃ S n,H p=be (.set S n))
 |_=>False
def pE{pins:List (GD × GZ)}{σ:St}{H:Hp}{s:GE}{T:String}{x:V}{v:Da}(I:Inv X pins σ H s)(r:RelV x v)(ty:tyV X.K T x H):
  s.TypeIs v T/\∀ a,v= .ref a->∃ ob,s.heap.get? a=be ob/\ob.dict=none:=by
 cases x with
 |str z=>
  obtain⟨t,rfl⟩:=r;cases(show T="str" from ty);exact⟨Ib s z t,λ_ e=>nomatch e⟩
 |int i=>
  obtain⟨t,rfl⟩:=r;cases(show T="int" from ty);exact⟨typeIs_int s i t,λ_ e=>nomatch e⟩
 |ref p=>
  cases r;rcases ty with⟨rfl,xs,hq⟩|⟨rfl,o,hk,hc,hd⟩|⟨rfl,hk⟩|⟨rfl,S,n,hk⟩
  .obtain⟨a_,_,pl,_⟩:=I.list hq;refine⟨pl.isList.typeIs,λa e=>?_⟩;cases e;obtain⟨o,n,e,c,hd,_⟩:=pl;exact⟨o,e,hd⟩
  .refine⟨⟨o,I.kIn p o hk,hc⟩,λa e=>?_⟩;cases e;exact⟨o,I.kIn _ o hk,hd⟩
  .have z:∃ o,s.heap.get? p=be o/\o.ExactDict:=by
    rcases hk with⟨a8,hk⟩|⟨a8,hk⟩
    .obtain⟨_,_,_,_,o,_,_,e,ex,_⟩:=I.hok p _ hk;exact⟨o,e,ex⟩
    .obtain⟨_,_,_,_,o,_,_,e,ex,_⟩:=I.hok p _ hk;exact⟨o,e,ex⟩
   obtain⟨o,e,ex⟩:=z;refine⟨⟨o,e,ex.1⟩,λa e2=>?_⟩;cases e2;exact⟨o,e,ex.2.1⟩
  .obtain⟨o,_,_,_,e,ex,_⟩:=I.hok p _ hk;refine⟨⟨o,e,ex.1⟩,λa e2=>?_⟩;cases e2;exact⟨o,e,ex.2.1⟩
 |_=>exact False.elim ty
def tBM(K:xE)(T:String)(r:V->List V->Hp->VK->Prop)(to:TE)(t:TA):TE:=λσ H Q=>to σ H λx H1=>tyV K T x H1/\t σ H1 λxs H2=>r x xs H2 Q
variable {o e:GI}{es:List GI}{to:TE}{t:TA}{name:y8}{apos cpos:GV}{T id:String}{r:V->List V->Hp->VK->Prop}
def cQ(pa:PlainAttrs T)(slot:Slot T name id)(Ce:typeOf (.builtin id)=pure (.type "method_descriptor"))(hm:MtR X id r)(ho:PE X o to)(ha:PA X (e::es) t)
  (b7:GQ o name X.env (GS o X.env)=GS o X.env:=by rfl)
  (d6:((Ha cpos (GO (e::es) X.env)).all (λx=>!x.1) && (Hr cpos (G' [] X.env)).all (λx=>x.1.isSome)
   && decide ((e::es).length+([]:List Ht).length+(if([]:List Ht).isEmpty then 0 else 1)<30))=true:=by rfl)
  (b_:(apos.endLine==cpos.line)=true:=by rfl) (hs:zSE X e es:=by rfl) (f8:zPL X cpos es:=by rfl):
  PE X (.Call (.Attribute o name apos) (e::es) [] cpos) (tBM X.K T r to t):=by
 intro pins s σ H Q I h;refine wpAny_Call_method_late b7 d6 b_ rfl (thn (ho pins s σ H _ I h) λv s1 d7=>?_);obtain⟨x,H1,I1,r1,ty,q1⟩:=d7;obtain⟨h1,h2⟩:=pE I1 r1 ty;refine⟨T,id,pa,slot,Ce,h1,h2,?_⟩;have hA:=ha cpos pins s1 σ H1 _ I1 q1;rw[hs] at hA ⊢;refine Calls.callWith_builtin (by show(false||(Ha cpos (GO es X.env)).any (·.1))=false;rw[f8]<;>rfl) (Calls.evalArgs_plain ?_);exact thn hA λus s2 ⟨vs,H2,I2,r2,q2⟩=>hm pins s2 σ H2 x vs v us Q I2 r1 r2 q2
end
def MtM(X:Cx)(id:String)(r:V->List V->Hp->VK->Prop):Prop:=
 ∀ (pins:List (GD × GZ)) (s:GE) (σ:St) (H:Hp) (x:V) (xs:List V) (v:Da) (us:List Da) (Q:VK),Inv X pins σ H s->RelV x v->Vals xs us->r x xs H Q->
  GL (GJ X.prog X.w) X.A (call (.builtin id) (v::us)) (EP X pins σ Q) X.xe s
def Vals.one:∀ {x:V} {us:List Da},Vals [x] us->∃ u,us=[u]/\RelV x u:=by
 intro x us h;cases h with
 |cons r h=>cases h;exact⟨_,rfl,r⟩
def Vals.two:∀ {x y:V} {us:List Da},Vals [x,y] us->∃ u v,us=[u,v]/\RelV x u/\RelV y v:=by
 intro x y us h;cases h with
 |cons r h=>
  obtain⟨u,rfl,q⟩:=Vals.one h;exact⟨_,_,rfl,r,q⟩
def Vals.zero:∀ {us:List Da},Vals [] us->us=[]
 |_,.nil=>rfl
def Vals.dropLast{xs:List V}{us:List Da}(h:Vals xs us):Vals xs.dropLast us.dropLast:=by
 induction h with
 |nil=>exact .nil
 |cons r t ih=>
  cases t with
  |nil=>exact .nil
  |cons q t'=>exact .cons r ih
def Vals.rep{xs:List V}{us:List Da}(h:Vals xs us):∀ k:Nat,Vals (yi k xs).flatten (yi k us).flatten
 |0=> .nil
 |k+1=>by
  rw[yX,yX,yY,yY];exact Vals.append h (Vals.rep h k)
section
variable {X:Cx}{pins:List (GD × GZ)}{σ:St}{H:Hp}{s:GE}{l b:GD}{xs ys zs:List V}
def Inv.lset{a_ its':List Da}{n:Nat}{f:Array Da->Array Da}{t':Nat}(I:Inv X pins σ H s)(hH:H l=be (.lst xs))
  (e:s.heap.get? l=be {cls:= .type "list",data:= .seq a_.toArray n}) (hf:f a_.toArray=its'.toArray) (hv:Vals ys its') (hz:ys.length<=sizeLine):
  Inv X pins σ (upd H l (.lst ys)) {s with heap:=s.heap.update l (Obj.mapSeq f),toks:=t'}:=by
 have q:=PySem.IsL.update e f;rw[hf] at q;refine I.write (x:=l) (e:=l) (by rw[hH];exact trivial) (.inl rfl) (λb' u hb hu=>(Heap.get?_update_other s.heap (Obj.mapSeq f) (Ne.symm hb)).trans hu) ⟨_,q⟩ ?_;exact⟨hz,its',_,hv,q⟩
def Inv.lnew{a_:List Da}{t':Nat}(I:Inv X pins σ H s)(hv:Vals ys a_)(hz:ys.length<=sizeLine):
  Inv X pins σ (upd H s.heap.objs.size (.lst ys)) {s with heap:=s.heap.push {cls:= .type "list",data:= .seq a_.toArray},toks:=t'}:=
 I.laid (λ_ _ q=>Heap.get?_push_of_some _ q) (xH _) ⟨hz,a_,0,hv,Heap.get?_push_size _ rfl⟩
def Inv.fresh(I:Inv X pins σ H s):H s.heap.objs.size=none:=I.hok.fresh (xH _)
def Inv.lstM(I:Inv X pins σ H s)(hH:H l=be (.lst xs)):xs.length<=sizeLine/\∃ (a_:List Da) (n:Nat),Vals xs a_/\xs.length=a_.length/\s.heap.get? l=be {cls:= .type "list",data:= .seq a_.toArray n}:=by
 obtain⟨z,a_,n,r,e⟩:=I.hok l _ hH;exact⟨z,a_,n,r,r.length,e⟩
def pF{n:Nat}(h:n<=sizeLine):Builtin.List.listTooLong n=false:=by
 unfold Builtin.List.listTooLong;exact decide_eq_false (by lia)
end
section
variable {X:Cx}
def pG:V->List V->Hp->VK->Prop:=λx vs H Q=>∃ l xs y,x= .ref l/\vs=[y]/\H l=be (.lst xs)/\xs.length<sizeLine/\Q .non (upd H l (.lst (xs++[y])))
def kC:MtM X "list.append" pG:=by
 intro pins s σ H x vs v us Q I rx rv h;obtain⟨l,xs,y,rfl,rfl,hH,hz,q⟩:=h;cases rx;obtain⟨u,rfl,ru⟩:=rv.one;obtain⟨z,a_,n,r,hl,e⟩:=I.lstM hH;refine Ic F.slot_list_append ⟨_,e,rfl⟩ F.entry_list_append (F.args_list_append_2 _ _) (PySem.list_append l a_.toArray n u (by rw[xW];lia)) ⟨e,?_⟩;refine⟨.non,_,I.lset (its':=a_++[u]) hH e (by simp) (r.append (.cons ru .nil)) ?_,rfl,q⟩;rw[xP,List.length_singleton];lia
def pH:V->List V->Hp->VK->Prop:=λx vs H Q=>∃ l b xs zs,x= .ref l/\vs=[.ref b]/\H l=be (.lst xs)/\H b=be (.lst zs)/\xs.length+zs.length<=sizeLine/\Q .non (upd H l (.lst (xs++zs)))
def xz:MtM X "list.extend" pH:=by
 intro pins s σ H x vs v us Q I rx rv h;obtain⟨l,b,xs,zs,rfl,rfl,hH,hB,hz,q⟩:=h;cases rx;obtain⟨u,rfl,ru⟩:=rv.one;cases ru;obtain⟨z,a_,n,r,hl,e⟩:=I.lstM hH;obtain⟨z2,i6,n2,r2,v_,e2⟩:=I.lstM hB;have j4:a_.toArray.size+i6.toArray.size<=sizeLine:=by rw[xW,xW];lia
 have AX:¬ (!a_.toArray.isEmpty && Builtin.List.listTooLong (a_.toArray.size+i6.toArray.size))=true:=by
  rw[pF j4,Bool.and_false];exact xK
 refine Ic F.slot_list_extend ⟨_,e,rfl⟩ F.entry_list_extend (F.args_list_extend_2 _ _)
  (AutoSeq1.list_extend_list_list_0 l a_.toArray n b i6.toArray n2 AX (by rw[xW];lia) (by lia)) ⟨e,e2,?_⟩
 refine⟨.non,_,I.lset (its':=a_++i6) hH e (by simp) (r.append r2) ?_,rfl,q⟩;rw[xP];lia
def rCat:R2:=λx y H Q=>∃ l b xs zs,x= .ref l/\y= .ref b/\H l=be (.lst xs)/\H b=be (.lst zs)/\xs.length+zs.length<=sizeLine/\∀ p,H p=t8->Q (.ref p) (upd H p (.lst (xs++zs)))
def pI:OpR X (G6 .Add) rCat:=by
 intro pins s σ H x y v u Q I rx ry h;obtain⟨l,b,xs,zs,rfl,rfl,hH,hB,hz,q⟩:=h;cases rx;cases ry;obtain⟨z,a_,n,r,hl,e⟩:=I.lstM hH;obtain⟨z2,i6,n2,r2,v_,e2⟩:=I.lstM hB;refine PySem.P.add_list e e2 ?_ (by rw[xW,xW];lia);have ea:a_.toArray++i6.toArray=(a_++i6).toArray:=by simp
 rw[ea];exact⟨.ref _,_,I.lnew (t':=s.toks) (r.append r2) (by rw[xP];lia),rfl,q _ I.fresh⟩
end
end L2
namespace D6
open PySem PySem.W PySem.Calls PyProof.Rows
def pJ{P:Params}{h:Heap}:∀ (ns:List Int) (vs:List Da),WellAll P h vs (ns.map WData.int)->HW vs ns:=by
 intro ns;induction ns with
 |nil=>
  intro vs w;rw[zp] at w;cases w;exact .nil
 |cons n ns ih=>
  intro vs w;rw[xN] at w;cases w with
  |cons a b=>
   cases a;exact .cons _ _ (ih _ b)
def pK{l:OpenLaw}{n:Nat}(hn:l.most=be n){P:Params}{h:Heap}{args:List WData}{y':List Da}
  (t9:l.row.toRowW.claim.pre args=true) (Cf:WellAll P h y' args):
  ∃ a vs ns,y'=[Value.ref a]/\args=[WData.list (ns.map WData.int)]/\h.get? a=be {cls:= .type "list",data:= .seq vs.toArray}/\HW vs ns/\ns.length<=n:=by
 have EZ:WShape.hasAll [] args [.list .int]=true:=(pre_splitW t9).1;have hc:l.pre.holds [] {args:=args}=true:=(pre_splitW t9).2;obtain⟨d,r,rfl,h1,h2⟩:=hasAllW_cons EZ;obtain rfl:=hasAllW_nil h2;obtain⟨xs,rfl,h3⟩:=hasW_list h1;obtain⟨ns,rfl⟩:=items_int h3;have b9:ns.length<=n:=by
  unfold OpenLaw.pre at hc;have h4:(WTm.not (.lt (.lit (.int (n:Int))) (.len (.arg 0)))).holds [] {args:=[.list (ns.map .int)]}=true:=by
   have h4:=(holds_andW hc).1;rw[hn] at h4;exact h4
  have h5:=condW_of h4 (w_not (w_lt w_lit (w_len_list (w_arg rfl))));rw[xU] at h5;refine zO λq=>?_;have q':(n:Int)<((ns.length:Nat):Int):=by lia
  first
   |(rw[decide_eq_true q'] at h5;exact absurd h5 (by decide))
   |(simp at h5;lia)
 cases Cf with
 |cons w1 w2=>
  cases w2;cases w1 with
  |list ho Cg=>exact⟨_,_,ns,rfl,rfl,ho,pJ ns _ Cg,b9⟩
def pL(l:OpenLaw)(args:List WData):l.row.toRowW.claim.post args (.bool true) args=true:=
 postW_of (r:=l.row.toRowW) (X:=(true==true))
  (show WShape.has [] (.bool true) .bool=true by first|rfl|decide|simp[WShape.has,WShape.arms,WShape.armsAll])
  (show(WTm.eq .res (.lit (.bool true))).value [] {args:=args,res:=be (.bool true),after:=args}=be (.bool (true==true)) from w_eq_bool (w_res rfl) w_lit) rfl
def attach_call{l:OpenLaw}{n:Nat}{q:GH}{g6:List y8}{XP:(y8->Option Da)->Heap->Prop}{YP:GM->Heap->Prop}{d:DefRec}
  (hn:l.most=be n) (AY:d.params.defaults=[])
  (call:∀ (w:GM) (s₀ s₁:GE) (mg mb:y8->Option Da) (fa:GD) (o:GZ) (pm cd doc:Da) (a:GD) (vs:List Da) (ns:List Int),
   Ground q g6 [] XP w s₀ mg mb s₁.heap->YP w s₁.heap->
   s₁.heap.get? fa=be o->o.data= .func (docDef d.name d.params d.body d.scope pm cd doc)->s₁.heap.CodeRec cd d.name->mg d.name=be (.ref fa)->
   s₁.heap.get? a=be {cls:= .type "list",data:= .seq vs.toArray}->HW vs ns->ns.length<=n->s₁.gens=#[]->
   HF (GJ l.prog w) Hv (.call (.ref fa) ⟨[.ref a],[]⟩) (λr s'=>r= .ok (.ret (.bool true))/\OldK s₁.heap s'.heap/\s'.os=s₁.os/\Hi s'.gens) s₁):
  WalkO q g6 XP YP l.row.toRowW d [] (λf vs=>PySem.call f vs):=by
 intro w s₀ s₁ mg mb G Y fa o pm cd doc dV kV ho hd e_ hD i7 hg args y' as t9 E1 Gd Cf Ge;obtain rfl:dV= .none:=Dflts.none hD AY;obtain rfl:kV= .none:=Dflts.noKw hD;obtain⟨a,vs,ns,rfl,rfl,y_,o9,b9⟩:=pK hn t9 Cf;refine enter_call (Hc (call w s₀ s₁ mg mb fa o pm cd doc a vs ns G Y ho (fd_plain hd) e_ i7 y_ o9 b9 hg) λr s' hq=>?_);obtain⟨rfl,h2,h3,h4⟩:=hq;exact⟨.inl ⟨.bool true,.bool true,[],rfl,λ_=>rfl,.bool true,pL l _,λ_=>⟨List.Pairwise.nil,λ_ hm=>(nomatch hm)⟩⟩,h2,h3,h4⟩
end D6
namespace L2
open PySem PySem.Spec PyProof.Rows
def kD:∀ {vs:List Da} {ns:List Int},HW vs ns->Vals (ns.map V.int) vs
 |_,_,.nil=> .nil
 |_,_,.cons n t h=> .cons ⟨t,rfl⟩ (kD h)
def Only(H:Hp):Prop:=∀ b,H b=t8\/∃ o xs,H b=be (.frz o (.lst xs))
def pM{P:GH}{w:GM}{K:xE}{mg mb:y8->Option Da}{CX:CXT}{k:Nat}{fa a:GD}{fd:GR}{x:y8}{sp:Sp}{s₁:GE}{vs:List Da}{ns:List Int}
  (KX:K.In s₁.heap) (f9:s₁.heap.Ns GF mg) (hb:s₁.heap.Ns Ie mb) (E2:∀ x:y8,x≠"__name__"->mb x=GY x) (Ch:s₁.heap.NoLimit) (hg:s₁.gens=#[])
  (ha:s₁.heap.get? a=be {cls:= .type "list",data:= .seq vs.toArray}) (hi:HW vs ns) (hl:ns.length<=sizeLine) (hr:Room k Hv)
  (F:∀ base:Heap,K.In base->base.Ns GF mg->FnOk P w K mg base CX k fa fd [x] sp) (AZ:∀ (s:GE) (u:Da),Hw s fd ⟨[u],[]⟩ [(x,u)])
  (l9:∀ H:Hp,Only H->SqL K H a (ns.map V.int)->sp [.ref a] H (λv _=>v= .bl true) λ_ _ _=>False)
  (Ci:∀ H e s',CX [] H s₁ (λ_ _ _=>False) e s'->False):
  HF (GJ P w) Hv (.call (.ref fa) ⟨[.ref a],[]⟩) (λr s'=>r= .ok (.ret (.bool true))/\OldK s₁.heap s'.heap/\s'.os=s₁.os/\Hi s'.gens) s₁:=by
 have rv:=kD hi;have Cj:=hi.length;have A2:∀ H:Hp,Only H->SqL K H a (ns.map V.int)->HOk P w H s₁.heap->(∀ b,H b≠t8->b=a)->(H a≠t8->K.lookup a=t8)->
   HF (GJ P w) Hv (.call (.ref fa) ⟨[.ref a],[]⟩) (λr s'=>r= .ok (.ret (.bool true))/\OldK s₁.heap s'.heap/\s'.os=s₁.os/\Hi s'.gens) s₁:=by
  intro H hO hS hok hA hK;have k6:∀ {b:GD} {o:GZ},s₁.heap.get? b=be o->H b=t8->(hidT s₁.heap H).get? b=be o:=λe n=>nK e n;have AV:∀ {b:GD} {o:GZ} {es:Array DictEntry} {ep:Nat},s₁.heap.get? b=be o->o.data= .dict es ep->H b=none:=λ{b o es ep} e d=>by
   cases q:H b with
   |none=>rfl
   |some u=>
    have e':b=a:=hA b (by rw[q];simp);subst e';rw[ha] at e;cases e;have d':Data.seq vs.toArray _=Data.dict es ep:=d;cases d'
  have BK:∀ {b:GD} {m:y8->Option Da},s₁.heap.Ns b m->(hidT s₁.heap H).Ns b m:=λ{b m} ⟨o,es,ep,e,d,r⟩=>⟨o,es,ep,k6 e (AV e d),d,r⟩;have D8:K.In (hidT s₁.heap H):=λb o e=>k6 (KX b o e) (by
   cases q:H b with
   |none=>rfl
   |some u=>
    have e':b=a:=hA b (by rw[q];simp);subst e';rw[hK (by rw[q];simp)] at e;cases e)
  have hM:Mod K mg (hidT s₁.heap H):=⟨D8,BK f9,⟨mb,BK hb,E2⟩,let ⟨mc,h1,h2⟩:=Ch;⟨mc,BK h1,h2⟩⟩;have e0:Env0 P w K mg (hidT s₁.heap H) Hv [] s₁ H:=⟨rfl,hM,λb o e=>nM e,yV (nJ _ _),trivial,λb hb=>absurd (show b∈([]:List GD) from hb) (by simp),hok,.of_eq hg⟩;refine Hc ((F _ D8 (BK f9)).run Hv [] s₁ H ⟨[.ref a],[]⟩ [.ref a] [.ref a] _ _ hr e0 (AZ s₁ (.ref a)) (.cons rfl .nil) (l9 H hO hS)) λr s' h=>?_;cases r with
  |error e=>exact(Ci H e s' h).elim
  |ok fl=>
   cases fl with
   |next=>exact False.elim h
   |brk=>exact False.elim h
   |cont=>exact False.elim h
   |ret u=>
    obtain⟨v,H',os,bare,un,Ck,r',q⟩:=h;have q':v= .bl true:=q;subst q';obtain rfl:u=Value.bool true:=r';refine⟨rfl,OldK.of_keep λb o e=>?_,os,bare⟩;cases q:H b with
    |none=>exact un.keep b o e q (by intro z;exact absurd (show b∈([]:List GD) from z) (by simp)) (by simp)
    |some u=>
     rcases hO b with z|⟨ob,xs,z⟩
     .rw[q] at z;cases z
     .have z2:=un.frzs b ob _ z;obtain⟨e1,_⟩:=hok b _ z;obtain⟨e2,_⟩:=Ck b _ z2;rw[e] at e1;cases e1;exact e2
 cases hk:K.lookup a with
 |some o=>
  have e:=KX a o hk;rw[ha] at e;cases e;refine A2 (λ_=>t8) (λ_=> .inl rfl) (.inr ⟨_,vs.toArray,_,hk,rfl,rfl,rfl,by rw[xW,Cj];exact hl,by simpa using rv⟩) (λb u z=>by have z':(t8:Option HO)=be u:=z;cases z') (λb z=>absurd rfl z) λz=>absurd rfl z
 |none=>
  refine A2 (λb=>if b=a then be (.frz {cls:= .type "list",data:= .seq vs.toArray} (.lst (ns.map V.int))) else t8) (λb=>?_) (.inl (.inr ⟨{cls:= .type "list",data:= .seq vs.toArray},if_pos rfl⟩)) (λb u z=>?_) (λb z=>?_) λ_=>hk
  .by_cases hb:b=a
   .exact .inr ⟨_,_,if_pos hb⟩
   .exact .inl (if_neg hb)
  .by_cases hb:b=a
   .have z':=(if_pos hb).symm.trans z;cases z';subst hb;exact⟨ha,by rw[xU];exact hl,vs,_,rv,ha⟩
   .have z':=(if_neg hb).symm.trans z;cases z'
  .by_cases hb:b=a
   .exact hb
   .exact absurd (if_neg hb) z
def walk_of{l:zq}{n k:Nat}{q:GH}{g6:List y8}{XP:(y8->Option Da)->Heap->Prop}{YP:GM->Heap->Prop}{d:DefRec}{K:Params->xE}{CX:GM->CXT}{sp:GM->Sp}{x:y8}
  (hn:l.most=be n) (t5:n<=sizeLine) (AY:d.params.defaults=[]) (hr:Room k Hv)
  (hY:∀ (w:GM) (h:Heap),YP w h->(K w.params).In h)
  (F:∀ (w:GM) (mg:y8->Option Da) (fa:GD) (h:Heap),(K w.params).In h->h.Ns GF mg->mg d.name=be (.ref fa)->
   ∃ fd:GR,(∀ (s:GE) (u:Da),Hw s fd ⟨[u],[]⟩ [(x,u)])/\
    ∀ base:Heap,(K w.params).In base->base.Ns GF mg->FnOk l.prog w (K w.params) mg base (CX w) k fa fd [x] (sp w))
  (l9:∀ (w:GM) (H:Hp) (a:GD) (ns:List Int),ns.length<=n->Only H->SqL (K w.params) H a (ns.map V.int)->sp w [.ref a] H (λv _=>v= .bl true) λ_ _ _=>False)
  (Ci:∀ (w:GM) (H:Hp) (s:GE) (e:Da) (s':GE),CX w [] H s (λ_ _ _=>False) e s'->False):
  zP q g6 XP YP l.row.toRowW d [] (λf vs=>PySem.call f vs):=by
 refine D6.attach_call hn AY λw s₀ s₁ mg mb fa o pm cd doc a vs ns G Y ho hd e_ i7 y_ o9 b9 hg=>?_;have KX:=hY w _ Y;obtain⟨fd,hb,hF⟩:=F w mg fa _ KX G.T.g i7;exact pM KX G.T.g G.T.b G.T.builtins G.T.nolimit hg y_ o9 (xR b9 t5) hr hF hb (λH hO hS=>l9 w H a ns b9 hO hS) λH e s'=>Ci w H s₁ e s'
def aW(s:GK)(j:Nat):GK:=match s with
 | .ClassDef _ _ _ body _ _ _ _ _ _ _=>body.getD j (.Pass ⟨0,0,0,0⟩)
 |_=> .Pass ⟨0,0,0,0⟩
def bb(s:GK):Arguments:=match s with
 | .FunctionDef _ a _ _ _ _ _ _ _ _=>a
 |_=>{posonlyargs:=[],args:=[],vararg:=t8,kwonlyargs:=[],kw_defaults:=[],kwarg:=t8,defaults:=[]}
def aF(s:GK):List GK:=match s with
 | .FunctionDef _ _ b _ _ _ _ _ _ _=>b
 |_=>[]
def ae(s:GK):Hm:=match s with
 | .FunctionDef _ _ _ _ _ _ sc _ _ _=>sc
 |_=>{kind:= .function,names:=[],isGenerator:=false,isCoroutine:=false}
abbrev CX0:CXT:=λ_ _ _ _ _ _=>False
abbrev E0:XK:=λ_ _ _=>False
structure Fun(K:xE)(x qual:Str)(st:GK)(f:GD)(fd:GR):Prop where
 ex:∃ (oc:Da) (od:Option GD) (kV doc pm:Da) (an:Option GD) (cdv ct:Da) (osl:Array (Option Da)),
  fd=fnOf x qual (bb st) (aF st) (ae st) .none kV doc pm an cdv ct/\K.lookup f=be ⟨oc,od,.func fd,osl⟩/\codeIn K cdv qual=true
 kp:keepIn K (.ref f)=true
section
variable {P:GH}{w:GM}{K:xE}{mg:y8->Option Da}{base:Heap}
def Fun.ok{x qual:y8}{st:GK}{f:GD}{fd:GR}{N ps:List y8}{k:Nat}{sp:Sp}(F:Fun K x qual st f fd)(S:FnScope N ps (ae st))(len:∀ vs H Q E,sp vs H Q E->vs.length=ps.length)
  (a9:∀ (cdv:Da) (A:GN) (outer:List Hl) (s:GE) (H:Hp) (vs:List V) (Q:VK) (E:XK),Room k (A.deeper (GX qual (ae st) s.heap.objs.size f cdv))->sp vs H Q E->
   ∃ t,PSs (cxOf CX0 P w K mg base N qual (ae st) f cdv A outer s H E).nox (aF st) t/\t {nx:=λ_ H'=>Q .non H',rt:=Q} (start N vs) H):FnOk P w K mg base CX0 (k+1) f fd ps sp:=by
 obtain⟨oc,od,kV,doc,pm,an,cdv,ct,osl,rfl,lk,e_⟩:=F.ex;refine ky lk e_ S len λA outer s H vs Q E hr l9=>?_;obtain⟨t,h,q⟩:=a9 cdv A outer s H vs Q E hr l9;exact⟨t,h.nox,q⟩
def Fun.binds{x qual:y8}{st:GK}{f:GD}{fd:GR}{ps:List y8}(F:Fun K x qual st f fd)
  (h:∀ (kV doc pm:Da) (an:Option GD) (cdv ct:Da) (us:List Da),us.length=ps.length->Hf (fnOf x qual (bb st) (aF st) (ae st) .none kV doc pm an cdv ct) ⟨us,[]⟩=pure (ps.zip us)):Binds K fd ps []:=by
 obtain⟨oc,od,kV,doc,pm,an,cdv,ct,osl,rfl,lk,e_⟩:=F.ex;exact .all (h kV doc pm an cdv ct)
def dR{x qual:y8}{st:GK}{f:GD}{oc:Da}{od an:Option GD}{osl:Array (Option Da)}{kV doc pm cdv ct:Da}(l:K.lookup f=be ⟨oc,od,.func (fnOf x qual (bb st) (aF st) (ae st) .none kV doc pm an cdv ct),osl⟩)
  (c:codeIn K cdv qual=true) (k:keepIn K (.ref f)=true):Fun K x qual st f (fnOf x qual (bb st) (aF st) (ae st) .none kV doc pm an cdv ct):=⟨⟨oc,od,kV,doc,pm,an,cdv,ct,osl,rfl,l,c⟩,k⟩
end
def pN{A:GN}{k:Nat}(hr:Room k A):A.units+1<cLine:=zQ (Nat.add_le_add_left (by decide:1<=64) _) hr.units
def pO{n:Nat}(h:n<=1000):n<sizeLine:=zQ h (by decide)
def ite2{c A B:Prop}[Decidable c](h1:c->A)(h2:¬ c->B):if c then A else B:=by
 by_cases h:c
 .rw[if_pos h];exact h1 h
 .rw[if_neg h];exact h2 h
def Same(H H':Hp):Prop:=∀ b o,H b=be o->H' b=be o
def Same.refl(H:Hp):Same H H:=λ_ _ h=>h
def Same.trans{H H1 H2:Hp}(a:Same H H1)(b:Same H1 H2):Same H H2:=λc o h=>b c o (a c o h)
def Same.free{H H':Hp}(e:Same H H'){l:GD}(h:H' l=Option.none):H l=Option.none:=by
 cases q:H l with
 |none=>rfl
 |some o=>
  rw[e l o q] at h;cases h
def Same.seq{K:xE}{H H':Hp}{a:GD}{xs:List V}(e:Same H H')(h:SqL K H a xs):SqL K H' a xs:=by
 rcases h with(h|⟨o,h⟩)|h
 .exact .inl (.inl (e _ _ h))
 .exact .inl (.inr ⟨o,e _ _ h⟩)
 .exact .inr h
section
variable {κ:Type}[DecidableEq κ]
def valV(a8:List (κ × V))(k:κ):Option V:=(a8.find? λkv=>decide (kv.1=k)).map (·.2)
def putK(a8:List (κ × V))(k:κ)(v:V):List (κ × V):=
 if(a8.any λkv=>decide (kv.1=k))=true then a8.map (λkv=>if kv.1=k then(kv.1,v) else kv) else a8++[(k,v)]
def kE(a8:List (κ × V))(k:κ):List (κ × V):=a8.filter λkv=>decide (kv.1≠k)
def gj{p:κ × V}{r:List (κ × V)}{k:κ}(e:p.1=k):valV (p::r) k=be p.2:=by simp[valV,yw,e]
def gk{p:κ × V}{r:List (κ × V)}{k:κ}(e:¬ p.1=k):valV (p::r) k=valV r k:=by simp[valV,yw,e]
def RelO.getD{o:Option V}{u:Option Da}{d:V}{d':Da}(r:RelO o u)(rd:RelV d d'):RelV (o.getD d) (u.getD d'):=by
 cases o with
 |none=>cases u with
  |none=>exact rd
  |some _=>exact(show False from r).elim
 |some _=>cases u with
  |none=>exact(show False from r).elim
  |some _=>exact r
def KV.val{a8:List (κ × V)}{vs:List (κ × Da)}(r:KV a8 vs)(k:κ):RelO (valV a8 k) (HE vs k):=by
 unfold KV at r;induction r with
 |nil=>exact True.intro
 |@cons p q ps qs h t ih=>
  obtain⟨h1,h2⟩:=h;by_cases e:p.1=k
  .have e':q.1=k:=h1.symm.trans e;have b:HE (q::qs) k=be q.2:=by simp[HE,yw,e']
   rw[gj e,b];exact h2
  .have e':¬ q.1=k:=λz=>e (h1.trans z);have b:HE (q::qs) k=HE qs k:=by simp[HE,yw,e']
   rw[gk e,b];exact ih
def KV.any{a8:List (κ × V)}{vs:List (κ × Da)}(r:KV a8 vs)(k:κ):(a8.any λkv=>decide (kv.1=k))=vs.any λkv=>decide (kv.1=k):=by
 unfold KV at r;induction r with
 |nil=>rfl
 |cons h t ih=>rw[yr,yr,ih,h.1]
def KV.drop{a8:List (κ × V)}{vs:List (κ × Da)}(r:KV a8 vs)(k:κ):KV (kE a8 k) (without vs k):=by
 unfold KV at r ⊢;unfold kE without;induction r with
 |nil=>exact .nil
 |@cons p q ps qs h t ih=>
  obtain⟨h1,h2⟩:=h;rw[zR,zR];by_cases e:p.1=k
  .have a:¬ decide (p.1≠k)=true:=by simp[e]
   have b:¬ decide (q.1≠k)=true:=by simp[h1.symm.trans e]
   rw[if_neg a,if_neg b];exact ih
  .have e':¬ q.1=k:=λz=>e (h1.trans z);have a:decide (p.1≠k)=true:=by simp[e]
   have b:decide (q.1≠k)=true:=by simp[e']
   rw[if_pos a,if_pos b];exact .cons ⟨h1,h2⟩ ih
def KV.keys{a8:List (κ × V)}{vs:List (κ × Da)}(r:KV a8 vs):a8.map (·.1)=vs.map (·.1):=by
 unfold KV at r;induction r with
 |nil=>rfl
 |cons h t ih=>rw[xN,xN,ih,h.1]
def KV.length{a8:List (κ × V)}{vs:List (κ × Da)}(r:KV a8 vs):a8.length=vs.length:=Paired.length r
end
def pP{P:GH}{w:GM}{k:Key}{u:Da}(r:RelV (kV k) u):(bx P w).is k u=true:=by
 cases k with
 |inl i=>obtain⟨t,e⟩:=(show ∃ t,u=Value.int i t from r);subst e;exact mixKind_int P w i t
 |inr x=>obtain⟨t,e⟩:=(show ∃ t,u=Value.str x t from r);subst e;exact nH P w x t
def kF{P:GH}{w:GM}:∀ {ks:List Key} {us:List Da},Vals (ks.map kV) us->ItemsAre (bx P w) ks us
 |[],_,r=>by rw[zp] at r;cases r;exact .nil
 |k::ks,_,r=>by
  rw[xN] at r;cases r with
  |cons h t=>exact .cons (pP h) (kF t)
abbrev KT(H:Hp):List (List Key × V)->List (List Key × GD × Da)->Prop:=Paired λp q=>p.1=q.1/\H q.2.1=be (.tup (p.1.map kV))/\RelV p.2 q.2.2
def KT.val{H:Hp}{a8:List (List Key × V)}{xs:List (List Key × GD × Da)}(r:KT H a8 xs)(k:List Key):RelO (valV a8 k) ((HB xs k).map (·.2)):=by
 induction r with
 |nil=>exact True.intro
 |@cons p q ps qs h t ih=>
  obtain⟨h1,_,h2⟩:=h;by_cases e:p.1=k
  .have e':q.1=k:=h1.symm.trans e;have b:HB (q::qs) k=be q.2:=by simp[HB,yw,e']
   rw[gj e,b];exact h2
  .have e':¬ q.1=k:=λz=>e (h1.trans z);have b:HB (q::qs) k=HB qs k:=by simp[HB,yw,e']
   rw[gk e,b];exact ih
def KT.keeps{H H':Hp}{a8:List (List Key × V)}{xs:List (List Key × GD × Da)}(r:KT H a8 xs)(ht:∀ b ys,H b=be (.tup ys)->H' b=be (.tup ys)):KT H' a8 xs:=
 Paired.mapP r λ_ _ z=>⟨z.1,ht _ _ z.2.1,z.2.2⟩
section
variable {P:GH}{w:GM}{H:Hp}{h:Heap}{a:GD}
def pQ{u:HO}(ok:HOk P w H h)(e:Rd H a u):ObjOk P w H h a u:=e.ok ok
def key_of{ks:List Key}(ok:HOk P w H h)(e:H a=be (.tup (ks.map kV))):(Hs (bx P w)).is h ks a:=by
 obtain⟨_,a_,r,o,h1,h2,n,h3⟩:=(show ObjOk P w H h a (.tup (ks.map kV)) from ok a _ e);exact⟨o,a_.toArray,n,h1,h2,h3,by simpa using kF r⟩
def pR{a8:List (List Key × V)}(ok:HOk P w H h)(e:Rd H a (.dT a8)):a8.length<=sizeLine/\(a==G9)=false/\
  ∃ xs,KT H a8 xs/\h.DictOfH (Hs (bx P w)) a xs:=by
 obtain⟨z,y,xs,r,o,es,ep,h1,h2,h3,h4,h5⟩:=(show ObjOk P w H h a (.dT a8) from pQ ok e);refine⟨z,y,xs,r,o,es,ep,h1,h2,h3,h4,λx hx=>?_,h5⟩;have all:∀ {l:List (List Key × V)} {m:List (List Key × GD × Da)},KT H l m->∀ x∈m,(Hs (bx P w)).is h x.1 x.2.1:=by
  intro l m q;induction q with
  |nil=>intro x hx;exact nomatch hx
  |@cons p q ps qs hq t ih=>
   intro x hx;rcases xJ.mp hx with e|hx
   .subst e;exact key_of ok (by rw[<- hq.1];exact hq.2.1)
   .exact ih x hx
 exact all r x hx
def pS{a8:List (List Key × V)}(ok:HOk P w H h)(e:H a=be (.dT a8)):a8.length<=sizeLine/\(a==G9)=false/\
  ∃ xs,KT H a8 xs/\h.DictOfH (Hs (bx P w)) a xs:=pR ok (.inl e)
end
def DGet(H:Hp)(a:GD)(y:V)(r:Option V):Prop:=
 (∃ a8 k,Rd H a (.dK a8)/\y=kV k/\r=valV a8 k)\/∃ a8 k b,Rd H a (.dT a8)/\y= .ref b/\H b=be (.tup (k.map kV))/\r=valV a8 k
def DPut(H:Hp)(a:GD)(y v:V)(H':Hp):Prop:=
 (∃ a8 k,H a=be (.dK a8)/\y=kV k/\a8.length<sizeLine/\H'=upd H a (.dK (putK a8 k v)))\/
 ∃ a8 k b,H a=be (.dT a8)/\y= .ref b/\H b=be (.tup (k.map kV))/\a8.length<sizeLine/\H'=upd H a (.dT (putK a8 k v))
def DGet.k{H:Hp}{a:GD}{a8:List (Key × V)}{k:Key}(e:H a=be (.dK a8)):DGet H a (kV k) (valV a8 k):= .inl ⟨a8,k,.inl e,rfl,rfl⟩
def DGet.t{H:Hp}{a b:GD}{a8:List (List Key × V)}{k:List Key}(e:H a=be (.dT a8))(eb:H b=be (.tup (k.map kV))):DGet H a (.ref b) (valV a8 k):= .inr ⟨a8,k,b,.inl e,rfl,eb,rfl⟩
def DPut.k{H:Hp}{a:GD}{a8:List (Key × V)}{k:Key}{v:V}(e:H a=be (.dK a8))(hl:a8.length<sizeLine):DPut H a (kV k) v (upd H a (.dK (putK a8 k v))):= .inl ⟨a8,k,e,rfl,hl,rfl⟩
def DPut.t{H:Hp}{a b:GD}{a8:List (List Key × V)}{k:List Key}{v:V}(e:H a=be (.dT a8))(eb:H b=be (.tup (k.map kV)))(hl:a8.length<sizeLine):
  DPut H a (.ref b) v (upd H a (.dT (putK a8 k v))):= .inr ⟨a8,k,b,e,rfl,eb,hl,rfl⟩
section
variable {X:Cx}{pins:List (GD × GZ)}{σ:St}{H:Hp}{s:GE}{a:GD}{y v:V}{u r:Da}{o:Option V}{A:GN}{E:Da->GE->Prop}
def Inv.big(I:Inv X pins σ H s):G9<s.heap.objs.size:=by
 have h:GF<s.heap.objs.size:=(I.mod.glob.keeps I.bk).lt;exact zS (by decide) h
def pT{h':Heap}{t':Nat}{ob:HO}(I:Inv X pins σ H s)(mu:Mut (H a))(hs:Heap.SameBut a s.heap h')(he:∃ q,h'.get? a=be q)(new:ObjOk X.prog X.w (upd H a ob) h' a ob):
  Inv X pins σ (upd H a ob) {s with heap:=h',toks:=t'}:=
 I.write (x:=a) (e:=a) mu (.inl rfl) (λb q hb z=>(hs.2 b hb).trans z) he new
end
def pU{P:GH}{w:GM}{H:Hp}(h:Heap)(hb:G9<h.objs.size):ObjOk P w H (h.push {cls:= .type "dict",data:= .dict #[]}) h.objs.size (.dT []):=
 ⟨yg _,beq_eq_false_iff_ne.mpr (Ne.symm (xM hb)),[],.nil,_,#[],0,Heap.get?_push_size _ rfl,⟨rfl,rfl,rfl⟩,rfl,rfl,zT⟩
def pV:TE:=λ_ H Q=>∀ p,H p=t8->Q (.ref p) (upd H p (.dT []))
section
variable {X:Cx}{pos:GV}
def pe_dnewT:PE X (.Dict [] [] pos) pV:=λpins s σ H Q I h=>
 wpAny_Dict_empty ⟨.ref s.heap.objs.size,_,I.laid (a:=s.heap.objs.size) (o:= .dT []) (t':=s.toks) (λ_ _ q=>Heap.get?_push_of_some _ q) (xH _) (pU s.heap I.big),rfl,h _ (I.hok.fresh (xH _))⟩
end
structure M1(X:Cx)(o:GI)(m:Str)(apos:GV)(e:GI)(cpos:GV):Prop where
 base:GQ o m X.env (GS o X.env)=GS o X.env
 few:((Ha cpos (GO [e] X.env)).all (λx=>!x.1) && (Hr cpos (G' [] X.env)).all (λx=>x.1.isSome)
  && decide (([e]:List GI).length+([]:List Ht).length+(if([]:List Ht).isEmpty then 0 else 1)<30))=true
 line:(apos.endLine==cpos.line)=true
 trees:Ha cpos (GO [e] X.env)=[(false,GS e X.env)]
structure M2(X:Cx)(o:GI)(m:Str)(apos:GV)(e f:GI)(cpos:GV):Prop where
 base:GQ o m X.env (GS o X.env)=GS o X.env
 few:((Ha cpos (GO [e,f] X.env)).all (λx=>!x.1) && (Hr cpos (G' [] X.env)).all (λx=>x.1.isSome)
  && decide (([e,f]:List GI).length+([]:List Ht).length+(if([]:List Ht).isEmpty then 0 else 1)<30))=true
 line:(apos.endLine==cpos.line)=true
 trees:Ha cpos (GO [e,f] X.env)=[(false,GS e X.env),(false,GS f X.env)]
end L2
end
section
open PySem PySem.Spec PyProof.Rows L2
namespace Exc
open PySem PySem.Spec PyProof.Rows PySem.W L2
def aD:List Da->Bool
 | .ref _::r=>aD r
 |l=>l==[.type "ValueError",.type "Exception",.type "BaseException",.type "object"]
def kG(self:Da):∀ {l:List Da},aD l=true->refuseLoop self "__setattr__" l=pure ()
 | .ref c::r,e=>by rw[refuseLoop_ref];exact kG self (by unfold aD at e;exact e)
 |[],e=>by simp[aD] at e
 | .type n::r,e=>by
  have e':(Value.type n::r)=[.type "ValueError",.type "Exception",.type "BaseException",.type "object"]:=by simpa[aD] using e
  rw[e'];exact PySem.F.store_ValueError.passes self
 | .none::r,e=>by simp[aD] at e
 | .bool _::r,e=>by simp[aD] at e
 | .int _ _::r,e=>by simp[aD] at e
 | .float _ _::r,e=>by simp[aD] at e
 | .str _ _::r,e=>by simp[aD] at e
 | .bytes _ _::r,e=>by simp[aD] at e
 | .builtin _::r,e=>by simp[aD] at e
def du{T:String}(hT:[Value.type "ValueError",.type "Exception",.type "BaseException",.type "object"].contains (.type T)=true):∀ {l:List Da},aD l=true->l.contains (.type T)=true
 | .ref c::r,e=>by rw[zr,du hT (l:=r) (by unfold aD at e;exact e),yZ]
 |[],e=>by simp[aD] at e
 | .type n::r,e=>by
  have e':(Value.type n::r)=[.type "ValueError",.type "Exception",.type "BaseException",.type "object"]:=by simpa[aD] using e
  rw[e'];exact hT
 | .none::r,e=>by simp[aD] at e
 | .bool _::r,e=>by simp[aD] at e
 | .int _ _::r,e=>by simp[aD] at e
 | .float _ _::r,e=>by simp[aD] at e
 | .str _ _::r,e=>by simp[aD] at e
 | .bytes _ _::r,e=>by simp[aD] at e
 | .builtin _::r,e=>by simp[aD] at e
section
variable {prog:GH}{w:GM}{A:GN}{E:Da->GE->Prop}{s:GE}{K:xE}{x C:GD}{ox:GZ}{cd:ClassData}{name:y8}{v:Da}{vs:Array Da}
def pW{Q:Unit->GE->Prop}(X:K.In s.heap)(hx:s.heap.get? x=be ox)(m8:ox.cls= .ref C)(z7:ox.data= .fields vs)(hd:ox.dict=t8)(hc:clsIn K C=be cd)(hm:aD cd.mro=true)(hh:cd.hasDict=true)
  (hs:findIn K (.ref C) "__setattr__"=be (be (.builtin "object.__setattr__"))) (hf:findIn K (.ref C) name=be t8)
  (h:∀ h',h'.get? x=be {ox with dict:=be s.heap.objs.size}->h'.Ns1 s.heap.objs.size (λy=>if y=name then be v else t8)->(∀ b o,b≠x->s.heap.get? b=be o->h'.get? b=be o)->∀ tk,Q () {s with heap:=h',toks:=tk}):
  GL (GJ prog w) A (setAttr (.ref x) name v) Q E s:=by
 have hn:notCls ox=true:=by unfold notCls;rw[z7]
 have I:InstAt s.heap x ox C none:=⟨hx,m8,hn,by rw[hd];trivial⟩;refine set_plain X I hs ?_;have SF:=PySem.F.store_object;have ne:cd.mro.isEmpty=false:=by cases q:cd.mro with|nil=>rw[q] at hm;simp[aD] at hm|cons _ _=>rfl
 have sub:Looks (GJ prog w) s.heap (HH (.ref x) (.type "object")) true:=I.type.andThen (looks_mroIn X (by unfold mroIn;rw[hc,za,if_neg (by rw[ne];decide),du (by decide+kernel) hm]));refine Hq SF.slot.plain SF.entry (@check_slot (GJ prog w) _ _ _ "object.__setattr__" "object" "__setattr__" (.ref x) [.str name s.toks,v] [] _ SF.kind SF.split sub (SF.args (.ref x) (.str name s.toks) v) ?_);have Cm:Looks (GJ prog w) s.heap (mroOf (.ref C)) cd.mro:=(looks_clsIn X hc).andThen .now;rw[osa_eq,refuse_eq];refine GG (GG (I.type.here (s:={s with toks:=s.toks+1}) (GG (Cm.here (s:={s with toks:=s.toks+1}) ?_))));rw[kG _ hm];refine GP (GG (I.type.here (s:={s with toks:=s.toks+1}) (GG ((looks_findIn X hf).here (s:={s with toks:=s.toks+1}) (GG (Looks.now.here (s:={s with toks:=s.toks+1}) ?_))))));obtain⟨oc,E3,E4,osl⟩:=ox;dsimp only at m8 hd z7;subst m8 hd z7;refine GG (GP (GG (GG (wpAny_loadPart hx (GG ((looks_clsIn X hc).here (s:={s with toks:=s.toks+1}) ?_))))));rw[hh];rw[if_neg (by decide)];have hx₁:(s.heap.push {cls:= .type "dict",data:= .dict #[]}).get? x=be ⟨.ref C,t8,.fields vs,osl⟩:=Heap.get?_push_of_some _ hx;have D9:x≠s.heap.objs.size:=xM (Heap.lt_size hx);show GL _ _ (do
  let d <- alloc {cls:=Value.type "dict",data:=Data.dict #[]}
  update x λo=>{cls:=o.cls,dict:=be d,data:=o.data,slots:=o.slots}
  dictMade (.ref C) x d) _ _ _
 refine GG (wpAny_alloc' ?_);refine GG (wpAny_update' hx₁ ?_);refine GP ?_;have E5:((s.heap.push {cls:= .type "dict",data:= .dict #[]}).update x λo=>{cls:=o.cls,dict:=be s.heap.objs.size,data:=o.data,slots:=o.slots}).get? s.heap.objs.size
   =be {cls:= .type "dict",data:= .dict #[]}:=
  (Heap.get?_update_ne _ _ _ _ D9.symm).trans (Heap.get?_push_at rfl rfl)
 have E6:((s.heap.push {cls:= .type "dict",data:= .dict #[]}).update x λo=>{cls:=o.cls,dict:=be s.heap.objs.size,data:=o.data,slots:=o.slots}).Ns s.heap.objs.size (λ_=>t8):=
  ⟨_,#[],_,E5,rfl,λe he=>absurd he (by simp),λ_=>rfl⟩
 show GL _ _ (Builtin.ObjectAttr.storeInDict s.heap.objs.size (.str name s.toks) name v) _ _ _;unfold Builtin.ObjectAttr.storeInDict Builtin.ObjectAttr.newKeyGuard;refine GG (GP (GG (wpAny_nsSet1 (Heap.Ns1.of_empty E6) λh' g5 hs=>?_)));obtain⟨oD,ES,ET,B_,Ca,Cb⟩:=g5.count (Within.cons name v Within.nil);refine GG (wpAny_lookBehind B_ (by rw[Ca];exact pastItsLine_dict (xR Cb (by rw[xG,yJ,Ho];lia))) ?_);refine GP (h h' ?_ g5 (λb o hb q=>?_) _)
 .exact(hs.2 x D9).trans (Heap.get?_update_self _ hx₁ rfl)
 .exact(hs.2 b (xM (Heap.lt_size q))).trans ((Heap.get?_update_ne _ _ _ _ hb).trans (Heap.get?_push_of_some _ q))
def pX{Q:Da->GE->Prop}{od:GZ}{o8:Bool}(X:K.In s.heap)(I:InstAt s.heap x ox C (be od))(hc:clsIn K C=be cd)(hm:aD cd.mro=true)
  (E7:findIn K (.ref C) "__getattribute__"=be (be (.builtin "BaseException.__getattribute__"))) (E8:findIn K (.ref C) "__getattr__"=be t8)
  (hf:findObj K C (be od) name=be (.value v)) (hh:handedIn v=true) (h:∀ tk,Q v {s with toks:=tk}):GL (GJ prog w) A (HV (.ref x) name o8) Q E s:=by
 have FB:=PySem.F.attr_ValueError;obtain⟨hp,g,d,t,os⟩:=s;have L0:=I.type (M:=GJ prog w);have L1:=looks_findIn (M:=GJ prog w) X E7;have L2:=looks_findIn (M:=GJ prog w) X E8;have L3:=looks_find (M:=GJ prog w) X I hf;have f3:=FB.ga.bind (.ref x);have ne:cd.mro.isEmpty=false:=by cases q:cd.mro with|nil=>rw[q] at hm;simp[aD] at hm|cons _ _=>rfl
 have sub:Looks (GJ prog w) hp (HH (.ref x) (.type "BaseException")) true:=I.type.andThen (looks_mroIn X (by unfold mroIn;rw[hc,za,if_neg (by rw[ne];decide),du (by decide+kernel) hm]));unfold HV getAttrBy;refine GG (wpAny_mkText (Hj (GG (L0.at (GG (L1.at ?_))))));dsimp only;have BL:(onTheHeap (Value.ref C) && Value.builtin "BaseException.__getattribute__"==Value.builtin "object.__getattribute__")=false:=by
  have m9:(Value.builtin "BaseException.__getattribute__"==Value.builtin "object.__getattribute__")=false:=by decide+kernel
  rw[m9];rfl
 have E9:(o8 && onTheHeap (Value.builtin "BaseException.__getattribute__"))=false:=by cases o8<;>rfl
 rw[BL,if_neg xK];unfold getAttrByItsOwn hookBefore;rw[show onTheHeap (Value.ref C)=true from rfl,if_pos rfl];refine GG (L2.at ?_);unfold callGetattribute;rw[E9,if_neg xK];unfold boundAndCalled;refine GG (wpAny_attempt (Hj (GG (HY f3 ?_))));refine Hd (Hq FB.ga.plain PySem.F.entry_bexc_ga (@check_slot (GJ prog w) _ _ _ "BaseException.__getattribute__" "BaseException" "__getattribute__" (.ref x) [.str name t] [] _ (by decide+kernel) (by decide+kernel) sub (PySem.F.args_bexc_ga _ _) ?_));unfold Builtin.«object.__getattribute__»;refine GG (HY (a:=(Value.ref x,[Value.str name t])) rfl ?_);refine GG (HY (a:=name) rfl ?_);refine GG (L0.at (GG (L3.at ?_)));refine GP ?_;show GL _ _ (handedOut v) _ _ _;rw[handedOut_of hh];exact GP (h _)
def pY{Q:Da->GE->Prop}{rest:List Da}{t0:GD}{a1 a2 a3 a4 a5:Da}(X:K.In s.heap)(hx:s.heap.get? x=be ox)(m8:ox.cls= .ref C)(z7:ox.data= .fields #[.ref t0,a1,a2,a3,a4,a5])(hc:clsIn K C=be cd)(hm:aD cd.mro=true)(hl:rest.length<=sizeLine)
  (h:∀ h',h'.get? x=be {ox with data:= .fields #[.ref s.heap.objs.size,a1,a2,a3,a4,a5]}->(∀ b o,b≠x->s.heap.get? b=be o->h'.get? b=be o)->Q .none {s with heap:=h'}):
  GL (GJ prog w) A (call (.builtin "ValueError.__init__") (.ref x::rest)) Q E s:=by
 have F:=PySem.F.excBase_ValueError;have hn:notCls ox=true:=by unfold notCls;rw[z7]
 have ht:Looks (GJ prog w) s.heap (typeOf (.ref x)) (.ref C):=m8 ▸ (Looks.ld hx).andThen .now;have ne:cd.mro.isEmpty=false:=by cases q:cd.mro with|nil=>rw[q] at hm;simp[aD] at hm|cons _ _=>rfl
 have sub:Looks (GJ prog w) s.heap (HH (.ref x) (.type "ValueError")) true:=ht.andThen (looks_mroIn X (by unfold mroIn;rw[hc,za,if_neg (by rw[ne];decide),du (by decide+kernel) hm]));have E_:∀ {Q:Unit->GE->Prop} {E:Da->GE->Prop} {A:GN},Q () s->GL (GJ prog w) A (checkBuiltinCall "ValueError.__init__" ⟨.ref x::rest,[]⟩) Q E s:=λ{Q E A} hq=>by
  have Cn:=F.noStar;simp only[checkBuiltinCall,F.initKind,F.initSplit,F.initRow];refine GG (sub.here ?_);obtain⟨hp,g,d,t,os⟩:=s;have Lc:=looks_clsIn (M:=GJ prog w) X hc
  repeat(first|(with_reducible refine GW hx ?_;rw[m8])|(with_reducible refine Lc.here ?_)|wp_step)
  refine wpAny_onRaise ?_;rw[show ∀ (a b:String) (n:Nat),Bind.check ⟨.positional,"*","ValueError",.self,[⟨"args",.varPos,false⟩]⟩ a b n (zt (λx=>x.fst) ({pos:=Value.ref x::rest}:Args).kw)=pure () from
   λa b n=>check_star_args _ _ _ _ _ _]
  exact GP hq
 refine Hd (Hq F.init.plain F.initEntry (E_ ?_));obtain⟨hp,g,d,t,os⟩:=s;obtain⟨oc,E3,E4,osl⟩:=ox;dsimp only at m8 z7 hx h;subst m8 z7
 wp_walk
 have hx₁:=Heap.get?_push_of_some {cls:=Value.type "tuple",data:=Data.seq rest.toArray} hx;refine h _ ?_ (λb o hb q=>?_)
 .rw[Heap.get?_update_self _ hx₁ rfl];rfl
 .rw[Heap.get?_update_other _ _ (Ne.symm hb)];exact Heap.get?_push_of_some _ q
end
abbrev veLine:List Da:=[.type "ValueError",.type "Exception",.type "BaseException",.type "object"]
section
variable {prog:GH}{w:GM}{A:GN}{E:Da->GE->Prop}{h:Heap}{g:Array H4}{d:Drawn}{t:Nat}{os:OsState}{K:xE}
variable {nm q:y8}{C N fI:GD}{bs bm:List Da}{hdct:Bool}{sn:List y8}{sub:List Da}{ab:Bool}{col:Option Bool}{dd:Option GD}{k0 k1 k2 k3 k5:Option Da}{rest:List Da}
def pZ{Q:Fin->GE->Prop}(X:K.In h)(T:OwnTail h veLine bm)(hC:h.get? C=be (G0 nm q C N bs bm hdct sn sub ab col dd k0 k1 k2 k3 k5 "ValueError.__new__"))
  (hi:findIn K (.ref C) "__init__"=be (be (.ref fI))) (hf:typeIn K (.ref fI)=be (.type "function"))
  (hq:∀ h' e,Heap.MadeExcOf h h' e (.ref C) rest->GL (GJ prog w) A (call (.ref fI) (.ref e::rest)) (λr s'=>r= .none/\Q (.done (.ret (.ref e))) s') E ⟨h',g,d,t,os⟩) (hl:rest.length<=sizeLine):
  GL (GJ prog w) A (Builtin.«type.__call__» ⟨.ref C::rest,[]⟩) Q E ⟨h,g,d,t,os⟩:=by
 have F:=PySem.F.excBase_ValueError
 repeat(first|(with_reducible refine GW hC ?_)|(with_reducible refine wpAny_madeBy_exc hC ?_)|wp_step)
 refine codeAny_call_builtin_code (Code.quiet_builtin _ F.quiet) (wpAny_check_new_subT F T hC (codeAny_exc_new_subT F T hC ?_ hl));have kp:∀ b o,h.get? b=be o->((h.push {cls:= .type "tuple",data:= .seq rest.toArray}).push {cls:= .ref C,data:= .fields #[.ref h.objs.size,.none,.none,.none,.bool false,.none]}).get? b=be o:=λb o e=>Heap.get?_push_of_some _ (Heap.get?_push_of_some _ e);have Fb:=kp _ _ hC;have X1:K.In _:=X.keeps kp;have he:((h.push {cls:= .type "tuple",data:= .seq rest.toArray}).push {cls:= .ref C,data:= .fields #[.ref h.objs.size,.none,.none,.none,.bool false,.none]}).get? (h.objs.size+1)=be {cls:= .ref C,data:= .fields #[.ref h.objs.size,.none,.none,.none,.bool false,.none]}:=by heap_get
 have Fc:(Value.ref C::bm).contains (.ref C)=true:=by simp
 have L1:=looks_findIn (M:=GJ prog w) X1 hi;have L2:=bind_fn (M:=GJ prog w) X1 (.ref (h.objs.size+1)) hf;show GL _ _ _ _ _ _;unfold HH
 repeat(first|(with_reducible refine GW he ?_)|(with_reducible refine Hb Fb ?_;rw[Fc])|wp_step)
 refine L1.at ?_;refine Hj (GG (L2.at ?_));refine GG (G4 (hq _ (h.objs.size+1) ⟨kp,Heap.get?_none_of_le (yv _),h.objs.size,he,Heap.get?_none_of_le (xH _),Heap.get?_push_of_some _ (Heap.get?_push_at rfl rfl)⟩) (λr s' hr=>?_) λ_ _ x=>x);obtain⟨rfl,hQ⟩:=hr;refine GP ?_;exact GP hQ
def qa{Q:Da->GE->Prop}(X:K.In h)(T:OwnTail h veLine bm)(hC:h.get? C=be (G0 nm q C N bs bm hdct sn sub ab col dd k0 k1 k2 k3 k5 "ValueError.__new__"))
  (hi:findIn K (.ref C) "__init__"=be (be (.ref fI))) (hf:typeIn K (.ref fI)=be (.type "function"))
  (hq:∀ h' e,Heap.MadeExcOf h h' e (.ref C) rest->GL (GJ prog w) (A.under (.builtin "type.__call__" ⟨.ref C::rest,[]⟩)) (call (.ref fI) (.ref e::rest)) (λr s'=>r= .none/\Q (.ref e) s') E ⟨h',g,d,t,os⟩) (hl:rest.length<=sizeLine):
  GL (GJ prog w) A (call (.ref C) rest) Q E ⟨h,g,d,t,os⟩:=by
 have f1:=tc_lookup;have f2:=tc_bind (.ref C);have hT:(⟨h,g,d,t,os⟩:GE).TypeIs (.ref C) "type":=⟨_,hC,rfl⟩;refine Hd (codeAny_of_tree ?_);show GL _ _ (callAny (.ref C) _) _ _ _
 repeat(any_goals (first|(with_reducible refine GW hC ?_)|assumption|wp_step))
 exact⟨rfl,codeAny_call_builtin_at (Code.quiet_builtin _ (by decide+kernel)) entry_typeCall (wpAny_check_type_call_sub hC (pZ X T hC hi hf (λh' e hm=>hq h' e hm) hl))⟩
end
section
variable {prog:GH}{w:GM}{A:GN}{E:Da->GE->Prop}{s:GE}{env:Hl}
variable {nm q:y8}{C N:GD}{bs bm:List Da}{hdct:Bool}{sn:List y8}{sub:List Da}{ab:Bool}{col:Option Bool}{dd:Option GD}{k0 k1 k2 k3 k5:Option Da}{newId:String}
def qb{x:Il Da}{Q:Flow->GE->Prop}(b7:bm.contains (.type "BaseException")=true)(hh:A.handled=t8)
  (h:GL (GJ prog w) A x (λv s₁=>∃ e t od sl,v= .ref e/\s₁.heap.get? C=be (G0 nm q C N bs bm hdct sn sub ab col dd k0 k1 k2 k3 k5 newId)/\
   s₁.heap.get? e=be ⟨.ref C,od,.fields #[.ref t,.none,.none,.none,.bool false,.none],sl⟩/\E (.ref e) s₁) E s):
  GL (GJ prog w) A (raiseStmt env (be x) t8) Q E s:=by
 have Co:(Value.ref C::bm).contains (.type "BaseException")=true:=by rw[zr,b7,yZ]
 unfold raiseStmt;refine GG (G4 h (λv s₁ h₁=>?_) λ_ _ x=>x);obtain⟨e,t,od,sl,rfl,hC,he,hE⟩:=h₁;obtain⟨hp,g,d,tk,os⟩:=s₁
 repeat(first|(with_reducible refine GW he ?_)|(with_reducible refine GW hC ?_)|(with_reducible refine Hb hC ?_;rw[Co])|wp_step)
 exact wpAny_raiseNew_none hh hE
def kH{x:GI}{pos:GV}{Q:Flow->GE->Prop}(b7:bm.contains (.type "BaseException")=true)(hh:A.handled=t8)
  (h:GL (GJ prog w) A (GS x env) (λv s₁=>∃ e t od sl,v= .ref e/\s₁.heap.get? C=be (G0 nm q C N bs bm hdct sn sub ab col dd k0 k1 k2 k3 k5 newId)/\
   s₁.heap.get? e=be ⟨.ref C,od,.fields #[.ref t,.none,.none,.none,.bool false,.none],sl⟩/\E (.ref e) s₁) E s):
  GL (GJ prog w) A (exec (.Raise (be x) t8 pos) env) Q E s:=by
 rw[arm_exec_Raise];show GL (GJ prog w) A (do Hu pos;raiseStmt env (be (do let v <- GS x env;Hu pos;pure v)) t8) Q E s;exact GG (HJ (qb b7 hh (GG (G4 h (λv s₁ h₁=>GG (HJ (GP h₁))) λ_ _ x=>x))))
end
def ExAt(h:Heap)(e C:GD)(od:Option GD)(T:GD)(fl:Da):Prop:=
 ∃ sl vs oT ts,h.get? e=be ⟨.ref C,od,.fields vs,sl⟩/\vs[1]?=be (.ref T)/\T≠e/\h.get? T=be oT/\oT.data= .fields ts/\ts[3]?=be fl
structure Stay(fs ex:List GD)(h h':Heap):Prop where
 keep:∀ b o,h.get? b=be o->b ∉ ex->b ∉ fs->h'.get? b=be o
 slot:∀ b o,h.get? b=be o->b ∉ ex->∃ sl,h'.get? b=be {o with slots:=sl}
 there:∀ b o,h.get? b=be o->∃ o',h'.get? b=be o'
def Stay.trans{fs ex B5:List GD}{h h1 h2:Heap}(a:Stay fs ex h h1)(b:Stay fs B5 h1 h2):Stay fs (ex++B5) h h2:=
  ⟨λc o e n m=>b.keep c o (a.keep c o e (λz=>n (yB _ z)) m) (λz=>n (ym _ z)) m,
   λc o e n=>by
    obtain⟨s1,e1⟩:=a.slot c o e (λz=>n (yB _ z));obtain⟨s2,e2⟩:=b.slot c _ e1 (λz=>n (ym _ z));exact⟨s2,e2⟩,
   λc o e=>by
    obtain⟨o1,e1⟩:=a.there c o e;exact b.there c o1 e1⟩
section
variable {M:H0}{A:GN}{E:Da->GE->Prop}{s:GE}{env:Hl}{outer:List Hl}{base:Heap}{L e C T:GD}{od:Option GD}
def kI{sl:Array (Option Da)}{vs:Array Da}{Q:Unit->GE->Prop}(hfr:A.frames=be (env::outer))(hl:s.heap.FunFrames base (env::outer))(hf:env.frame=be L)
  (he:s.heap.get? e=be ⟨.ref C,od,.fields vs,sl⟩) (h1:vs[1]?=be .none)
  (h:∀ h' T,ExAt h' e C od T (Hk L)->s.heap.objs.size<=T->Stay (frs (env::outer)) [e] s.heap h'->Q () {s with heap:=h'}):GL M A (Hy (.ref e) env) Q E s:=by
 have j4:1<vs.size:=(zb.mp h1).1;have z8:e ∉ (env::outer).filterMap (·.frame):=λhm=>by
  obtain⟨_,o,ho,hnf⟩:=hl.mem hm;rw[he] at ho;injection ho with ho;subst ho;exact hnf vs rfl
 unfold Hy;simp only[hf];refine GG (HA he rfl h1 ?_);rw[if_neg (by decide)];refine GG (Ij hfr hl hf λh₁ hs₁=>GG (H_ λpl c7=>?_));unfold EntryCells.newEntry newFields;refine GG (Ii ?_ (c7.sizeOk5 _ _ _ _ _));have he₁:h₁.get? e=be ⟨.ref C,od,.fields vs,sl⟩:=(hs₁.2.1 e z8).trans he;have fresh:h₁.get? h₁.objs.size=none:=Heap.get?_none_of_le (xH _);generalize A5:({cls:= .type "traceback",dict:=t8,data:= .fields ([Value.none,.ref L,.none,Hk L,.none]++(if pl.isEmpty then yi 6 Value.none else pl)).toArray}:GZ)=oT;have he₂:=Heap.get?_push_of_some (h:=h₁) oT he₁;have m_:h₁.objs.size≠e:=yC (Heap.lt_size he₁);refine Hn he₂ rfl j4 (h _ h₁.objs.size ?_ ?_ ?_)
 .refine⟨sl,vs.setIfInBounds 1 (.ref h₁.objs.size),oT,([Value.none,.ref L,.none,Hk L,.none]++(if pl.isEmpty then yi 6 Value.none else pl)).toArray,?_,by simp[j4],m_,?_,by rw[<- A5],by simp⟩
  .rw[Heap.get?_update_self _ he₂ rfl];rfl
  .rw[Heap.get?_update_other _ _ (Ne.symm m_)];exact Heap.get?_push_size h₁ (by rw[<- A5];rfl)
 .exact yV hs₁.1.symm
 .have kp:∀ b o,b≠e->h₁.get? b=be o->((h₁.push oT).update e (Obj.mapFields (·.setIfInBounds 1 (Value.ref h₁.objs.size)))).get? b=be o:=λb o hb z=>by
   rw[Heap.get?_update_other _ _ (Ne.symm hb)];exact Heap.get?_push_of_some _ z
  refine⟨λb o q n m=>kp b o (λz=>n (by simp[z])) ((hs₁.2.1 b m).trans q),λb o q n=>?_,λb o q=>?_⟩
  .obtain⟨j9,z⟩:=hs₁.2.2 b o q;exact⟨j9,kp b _ (λz=>n (by simp[z])) z⟩
  .by_cases hb:b=e
   .subst hb;exact⟨_,Heap.get?_update_self _ he₂ rfl⟩
   .obtain⟨j9,z⟩:=hs₁.2.2 b o q;exact⟨_,kp b _ hb z⟩
def kJ{Q:Unit->GE->Prop}(hfr:A.frames=be (env::outer))(hl:s.heap.FunFrames base (env::outer))(hf:env.frame=be L)(hx:ExAt s.heap e C od T .none)
  (h:∀ h' T',ExAt h' e C od T' (Hk L)->s.heap.objs.size<=T'->Stay (frs (env::outer)) [T,e] s.heap h'->Q () {s with heap:=h'}):GL M A (Hy (.ref e) env) Q E s:=by
 obtain⟨sl,vs,oT,ts,he,h1,m_,hT,g7,h3⟩:=hx;have j4:1<vs.size:=(zb.mp h1).1;have BM:3<ts.size:=(zb.mp h3).1;have z8:e ∉ (env::outer).filterMap (·.frame):=λhm=>by
  obtain⟨_,o,ho,hnf⟩:=hl.mem hm;rw[he] at ho;injection ho with ho;subst ho;exact hnf vs rfl
 unfold Hy;simp only[hf];refine GG (HA he rfl h1 ?_);rw[if_pos (show(Value.ref T !=Value.none)=true from by simp)];refine GG (HA hT g7 h3 ?_);rw[if_neg (show¬ ((Value.none==Hk L)=true) from by simp[Hk])];refine GG (Hn hT g7 BM ?_);have other:∀ b,b≠T->(s.heap.update T (Obj.mapFields (·.setIfInBounds 3 Value.none))).get? b=s.heap.get? b:=λb hb=>Heap.get?_update_other _ _ (Ne.symm hb);have nT:∀ b o,s.heap.get? b=be o->(∀ vs,o.data≠.fields vs)->b≠T:=λb o hb hnf q=>by
  rw[q,hT] at hb;injection hb with hb;subst hb;exact hnf ts g7
 have Fd:(s.heap.update T (Obj.mapFields (·.setIfInBounds 3 Value.none))).FunFrames base (env::outer):=hl.of_keeps λb o hb hnf=>⟨o,(other b (nT b o hb hnf)).trans hb,rfl⟩;have Fe:∃ o',(s.heap.update T (Obj.mapFields (·.setIfInBounds 3 Value.none))).get? T=be o':=⟨_,Heap.get?_update_self _ hT (Obj.isFreed_of_fields (Obj.data_mapFields g7 _))⟩;refine GG (Ij hfr Fd hf λh₁ hs₁=>GG (H_ λpl c7=>?_));unfold EntryCells.newEntry newFields;refine GG (Ii ?_ (c7.sizeOk5 _ _ _ _ _));have he₁:h₁.get? e=be ⟨.ref C,od,.fields vs,sl⟩:=(hs₁.2.1 e z8).trans ((other e (Ne.symm m_)).trans he);have fresh:h₁.get? h₁.objs.size=none:=Heap.get?_none_of_le (xH _);generalize A5:({cls:= .type "traceback",dict:=t8,data:= .fields ([Value.ref T,.ref L,.none,Hk L,.none]++(if pl.isEmpty then yi 6 Value.none else pl)).toArray}:GZ)=Cp;have he₂:=Heap.get?_push_of_some (h:=h₁) Cp he₁;have A6:h₁.objs.size≠e:=yC (Heap.lt_size he₁);refine Hn he₂ rfl j4 (h _ h₁.objs.size ?_ ?_ ?_)
 .refine⟨sl,vs.setIfInBounds 1 (.ref h₁.objs.size),Cp,([Value.ref T,.ref L,.none,Hk L,.none]++(if pl.isEmpty then yi 6 Value.none else pl)).toArray,?_,by simp[j4],A6,?_,by rw[<- A5],by simp⟩
  .rw[Heap.get?_update_self _ he₂ rfl];rfl
  .rw[Heap.get?_update_other _ _ (Ne.symm A6)];exact Heap.get?_push_size h₁ (by rw[<- A5];rfl)
 .exact yV (hs₁.1.trans (Heap.size_after_update _ _ _)).symm
 .have kp:∀ b o,b≠e->h₁.get? b=be o->((h₁.push Cp).update e (Obj.mapFields (·.setIfInBounds 1 (Value.ref h₁.objs.size)))).get? b=be o:=λb o hb z=>by
   rw[Heap.get?_update_other _ _ (Ne.symm hb)];exact Heap.get?_push_of_some _ z
  refine⟨λb o q n m=>kp b o (λz=>n (by simp[z])) ((hs₁.2.1 b m).trans ((other b (λz=>n (by simp[z]))).trans q)),λb o q n=>?_,λb o q=>?_⟩
  .obtain⟨j9,z⟩:=hs₁.2.2 b o ((other b (λz=>n (by simp[z]))).trans q);exact⟨j9,kp b _ (λz=>n (by simp[z])) z⟩
  .by_cases hb:b=e
   .subst hb;exact⟨_,Heap.get?_update_self _ he₂ rfl⟩
   .have:∃ o',(s.heap.update T (Obj.mapFields (·.setIfInBounds 3 Value.none))).get? b=be o':=by
     by_cases hb:b=T
     .rw[hb];exact Fe
     .exact⟨o,(other _ hb).trans q⟩
    obtain⟨o',q'⟩:=this;obtain⟨j9,z⟩:=hs₁.2.2 b o' q';exact⟨_,kp b _ hb z⟩
def flight_none{fl:Da}{Q:Unit->GE->Prop}(hx:ExAt s.heap e C od T fl)(h:∀ h',ExAt h' e C od T .none->Stay [] [T] s.heap h'->Q () {s with heap:=h'}):GL M A (HK (.ref e) t8) Q E s:=by
 obtain⟨sl,vs,oT,ts,he,h1,m_,hT,g7,h3⟩:=hx;have BM:3<ts.size:=(zb.mp h3).1;unfold HK;refine GG (HA he rfl h1 ?_);rw[if_pos (show(Value.ref T !=Value.none)=true from by simp)];refine Hn hT g7 BM (h _ ?_ ?_)
 .exact⟨sl,vs,_,_,(Heap.get?_update_other _ _ m_).trans he,h1,m_,Heap.get?_update_self _ hT (Obj.isFreed_of_fields (Obj.data_mapFields g7 _)),Obj.data_mapFields g7 _,by simp[BM]⟩
 .have other:∀ b o,b ∉ [T]->s.heap.get? b=be o->(s.heap.update T (Obj.mapFields (·.setIfInBounds 3 ((t8:Option GD).elim Value.none λf=>Hk f)))).get? b=be o:=λb o hb q=>(Heap.get?_update_other _ _ (λz=>hb (by simp[z]))).trans q;refine⟨λb o q n _=>other b o n q,λb o q n=>⟨o.slots,other b o n q⟩,λb o q=>?_⟩;by_cases hb:b=T
  .subst hb;exact⟨_,Heap.get?_update_self _ hT (Obj.isFreed_of_fields (Obj.data_mapFields g7 _))⟩
  .exact⟨o,other b o (by simp[hb]) q⟩
end
def CX1(P:GH)(w:GM):CXT:=λouter H s E ev s'=>∃ e C od T H',ev= .ref e/\s'.os=s.os/\Hi s'.gens/\Un (frs outer) [] H H' s.heap s'.heap/\HOk P w H' s'.heap/\ExAt s'.heap e C od T .none/\s.heap.get? e=t8/\s.heap.get? T=t8/\H' e=t8/\H' T=t8/\E (.ref C) od H'
def dv{P:GH}{w:GM}{H:Hp}{h h':Heap}{fs ex:List GD}(x:HOk P w H h)(st:Stay fs ex h h')(hf:∀ b∈fs,H b=t8)(he:∀ b∈ex,H b=t8):HOk P w H h':=λa o q=>
 (x a o q).stay (λb u hb r=>by
  have hn:H b≠none:=by
   rcases hb with rfl|hb
   .rw[q];exact λz=>nomatch z
   .rw[hb];exact λz=>nomatch z
  exact st.keep b u r (λz=>hn (he b z)) (λz=>hn (hf b z))) (λ_ q=>q) λ_ _ q=>q
def dS{fs h8 ex:List GD}{H H':Hp}{h h1 h2:Heap}(u:Un fs [] H H' h h1)(st:Stay h8 ex h1 h2)(hex:∀ b∈ex,h.get? b=t8)(BN:∀ b∈h8,b∈fs\/h.get? b=t8):Un fs [] H H' h h2 where
 keep:=λb o q n hb hx=>st.keep b o (u.keep b o q n hb hx) (λz=>by rw[hex b z] at q;cases q) (λz=>(BN b z).elim hb λy=>by rw[y] at q;cases q)
 slot:=λb o q n hb hx=>by
  obtain⟨sl,e1⟩:=u.slot b o q n hb hx;obtain⟨j9,e2⟩:=st.slot b _ e1 (λz=>by rw[hex b z] at q;cases q);exact⟨j9,e2⟩
 free:=u.free
 there:=λb o q hx=>by
  obtain⟨o1,e1⟩:=u.there b o q hx;exact st.there b o1 e1
 tups:=u.tups
 frzs:=u.frzs
 tbls:=u.tbls
section
variable {P:GH}{w:GM}{K:xE}{mg:y8->Option Da}{base:Heap}{N:List y8}{qual:y8}{scope:Hm}{f:GD}{cd:Da}{A:GN}{outer:List Hl}{s:GE}{H:Hp}{E E':XK}
def kK{b:GD}(hb:b∈frs (GX qual scope s.heap.objs.size f cd::outer)):b∈frs outer\/s.heap.get? b=none:=by
 unfold frs at hb;rw[yT] at hb;rcases xJ.mp (show b∈s.heap.objs.size::outer.filterMap (·.frame) from hb) with e|e
 .rw[e];exact .inr (Heap.get?_none_of_le (xH _))
 .exact .inl e
def qc{pins:List (GD × GZ)}{σ:L2.St}{H1:Hp}{s1:GE}{e C:GD}{od:Option GD}{sl:Array (Option Da)}{vs:Array Da}(I:Inv (cxOf (CX1 P w) P w K mg base N qual scope f cd A outer s H E') pins σ H1 s1)
  (he:s1.heap.get? e=be ⟨.ref C,od,.fields vs,sl⟩) (h1:vs[1]?=be .none) (He:H1 e=t8) (ne:s.heap.get? e=t8) (hE:E' (.ref C) od H1):(cxOf (CX1 P w) P w K mg base N qual scope f cd A outer s H E').xe (.ref e) s1:=by
 show GL _ _ (HS _ _) _ _ _;unfold HS;refine GG (kI I.ok.frames I.stack rfl he h1 λh2 T2 m9 o_ l0=>flight_none (s:={s1 with heap:=h2}) m9 λh3 A7 td=>?_);have t_:s1.heap.get? T2=none:=Heap.get?_none_of_le o_;have f1:∀ b,s1.heap.get? b=t8->s.heap.get? b=none:=λb q=>by
  cases z:s.heap.get? b with
  |none=>rfl
  |some o=>
   obtain⟨o',z'⟩:=I.base.there b o z (by exact λy=>absurd (show b∈([]:List GD) from y) (by simp));rw[q] at z';cases z'
 have hok:HOk P w H1 s1.heap:=I.hok;have w6:H1 T2=none:=hok.fresh o_;have u2:Un (frs outer) [] H H1 s.heap h2:=dS (show Un (frs outer) [] H H1 s.heap s1.heap from I.base) l0 (λb hb=>by rw[xF.mp hb];exact ne) λb hb=>kK hb;have u3:Un (frs outer) [] H H1 s.heap h3:=dS u2 td (λb hb=>by rw[xF.mp hb];exact f1 T2 t_) λb hb=>by cases hb
 have k2:=dv hok l0 (λb hb=>I.stkFree b hb) (λb hb=>by rw[xF.mp hb];exact He);have k3:=dv k2 td (λb hb=>by cases hb) (λb hb=>by rw[xF.mp hb];exact w6);exact⟨e,C,od,T2,H1,rfl,I.os,I.bare,u3,k3,A7,ne,f1 T2 t_,He,w6,hE⟩
end
end Exc
namespace L2
def Same.tup{K:xE}{H H':Hp}{a:GD}{xs:List V}(e:Same H H')(h:SqT K H a xs):SqT K H' a xs:=by
 rcases h with(h|⟨o,h⟩)|h
 .exact .inl (.inl (e _ _ h))
 .exact .inl (.inr ⟨o,e _ _ h⟩)
 .exact .inr h
end L2
namespace My
def dw{X:Cx}:dm (Exc.CX1 X.prog X.w) X E0:=λ_ _ _ _ _ _ _ h=>by
 obtain⟨e,C,od,T,H',_,_,_,_,_,_,_,_,_,_,h⟩:=h;exact h.elim
def Fun.okC{P:GH}{w:GM}{K:xE}{mg:y8->Option Da}{base:Heap}{CX:CXT}{x qual:y8}{st:GK}{f:GD}{fd:GR}{N ps:List y8}{k:Nat}{sp:Sp}(F:Fun K x qual st f fd)(S:FnScope N ps (ae st))(len:∀ vs H Q E,sp vs H Q E->vs.length=ps.length)
  (a9:∀ (cdv:Da) (A:GN) (outer:List Hl) (s:GE) (H:Hp) (vs:List V) (Q:VK) (E:XK),Room k (A.deeper (GX qual (ae st) s.heap.objs.size f cdv))->sp vs H Q E->
   ∃ t,PSs (cxOf CX P w K mg base N qual (ae st) f cdv A outer s H E) (aF st) t/\t {nx:=λ_ H'=>Q .non H',rt:=Q} (start N vs) H):FnOk P w K mg base CX (k+1) f fd ps sp:=by
 obtain⟨oc,od,kV,doc,pm,an,cdv,ct,osl,rfl,lk,e_⟩:=F.ex;refine ky lk e_ S len λA outer s H vs Q E hr l9=>?_;exact a9 cdv A outer s H vs Q E hr l9
def Cal(P:GH)(w:GM)(K:xE)(mg:y8->Option Da)(base:Heap)(n:Nat)(x:y8)(ps:List y8)(sp:Sp):Prop:=
 ∃ f fd,FnOk P w K mg base (Exc.CX1 P w) n f fd ps sp/\Binds K fd ps []/\keepIn K (.ref f)=true/\mg x=be (.ref f)
def Tx(K:xE)(mg:y8->Option Da)(x:y8)(st:GK)(ps:List y8):Prop:=
 ∃ f fd,Fun K x x st f fd/\Binds K fd ps []/\mg x=be (.ref f)
section
variable {X:Cx}{n m:Nat}{ps:List y8}{sp:Sp}{x:y8}{p pos:GV}{e:GI}{es:List GI}{t:TA}
def qd(C:Cal X.prog X.w X.K X.mg X.base n x ps sp)(hr:Room m X.A)(ha:PA X (e::es) t)(hg:Gl X x:=by rfl)(hn:n<=m:=by decide)(d4:zND x:=by decide)
  (he:zSE X e es:=by rfl) (c7:zPL X pos es:=by rfl):
  PE X (.Call (.Name x p) (e::es) [] pos) (kr sp [] E0 t):=by
 obtain⟨f,fd,F,hb,hk,hm⟩:=C;exact pu F (hr.mono hn) hg hm hk hb .nil dw ha d4 he c7
end
section
variable {P:GH}{w:GM}{K:xE}{mg:y8->Option Da}{base:Heap}
def Tx.ok{x:y8}{st:GK}{N ps:List y8}{k:Nat}{sp:Sp}(T:Tx K mg x st ps)(S:FnScope N ps (ae st))(len:∀ vs H Q E,sp vs H Q E->vs.length=ps.length)
  (a9:∀ (f:GD) (cdv:Da) (A:GN) (outer:List Hl) (s:GE) (H:Hp) (vs:List V) (Q:VK) (E:XK),Room k (A.deeper (GX x (ae st) s.heap.objs.size f cdv))->sp vs H Q E->
   ∃ t,PSs (cxOf (Exc.CX1 P w) P w K mg base N x (ae st) f cdv A outer s H E).nox (aF st) t/\t {nx:=λ_ H'=>Q .non H',rt:=Q} (start N vs) H):Cal P w K mg base (k+1) x ps sp:=by
 obtain⟨f,fd,F,hb,hm⟩:=T;refine⟨f,fd,Fun.okC F S len (λcdv A outer s H vs Q E hr h=>?_),hb,F.kp,hm⟩;obtain⟨t,h1,h2⟩:=a9 f cdv A outer s H vs Q E hr h;exact⟨t,h1.nox,h2⟩
end
def aU{H:Hp}{p:GD}(h:H p=t8)(o:HO):Same H (upd H p o):=λb u q=>by rw[aj (bo q h)];exact q
def sz{n:Nat}(h:n<=1000):n<=sizeLine:=yS (pO h)
end My
namespace L2
section
variable {X:Cx}
def PE.anti{e:GI}{t t':TE}(h:PE X e t)(a:∀ s H Q,t' s H Q->t s H Q):PE X e t':=λpins s σ H Q I q=>h pins s σ H Q I (a _ _ _ q)
def PT.anti{e:GI}{t t':TT}(h:PT X e t)(a:∀ s H Q,t' s H Q->t s H Q):PT X e t':=λpins s σ H Q I q=>h pins s σ H Q I (a _ _ _ q)
def PW.anti{e:GI}{t t':TT}(h:PW X e t)(a:∀ s H Q,t' s H Q->t s H Q):PW X e t':=λwh pins s σ H Q I q=>h wh pins s σ H Q I (a _ _ _ q)
def PA.anti{e:List GI}{t t':TA}(h:PA X e t)(a:∀ s H Q,t' s H Q->t s H Q):PA X e t':=λp pins s σ H Q I q=>h p pins s σ H Q I (a _ _ _ q)
def PS.anti{e:GK}{t t':TS}(h:PS X e t)(a:∀ E s H,t' E s H->t E s H):PS X e t':=λpins s σ H Q I q=>h pins s σ H Q I (a _ _ _ q)
def PSs.anti{e:List GK}{t t':TS}(h:PSs X e t)(a:∀ E s H,t' E s H->t E s H):PSs X e t':=λpins s σ H Q I q=>h pins s σ H Q I (a _ _ _ q)
end
end L2
namespace My
inductive D where
 |non|bl (b:Bool)|int (i:Int)|str (x:Str)|tup (xs:List D)|lst (xs:List D)
  |rol (xs:List D)
  |obj (x:y8) (fs:List (y8 × D))
  |exc (x:y8) (fs:List (y8 × D))
  |own (xs:List D)
  |ptr (a:GD)
  |dti (a8:List ((Int × Int) × Int))
def dtiV(a8:List ((Int × Int) × Int)):List (List Key × V):=a8.map λe=>([.inl e.1.1,.inl e.1.2],.int e.2)
def XO(e C:GD)(od:Option GD):HO:= .ext λh=>∃ vs sl,h.get? e=be ⟨.ref C,od,.fields vs,sl⟩
mutual
def Rep(K:xE)(H:Hp):D->V->Prop
 | .non,v=>v= .non
 | .bl b,v=>v= .bl b
 | .int i,v=>v= .int i
 | .str x,v=>v= .str x
 | .tup ds,v=>∃ a vs,v= .ref a/\H a=be (.tup vs)/\Reps K H ds vs
 | .lst ds,v=>∃ a vs,v= .ref a/\H a=be (.lst vs)/\Reps K H ds vs
 | .rol ds,v=>∃ a vs,v= .ref a/\SqL K H a vs/\Reps K H ds vs
 | .obj x fs,v=>∃ a C dx vs,v= .ref a/\nsIn K GF x=be (be (.ref C))/\H a=be (.ins C dx vs)/\RepF K H fs vs
 | .exc x fs,v=>∃ a C od vs,v= .ref a/\nsIn K GF x=be (be (.ref C))/\H a=be (XO a C od)/\RepF K H fs vs/\((od=t8/\vs=[])\/∃ b,od=be b/\H b=be (.xd vs))
 | .own _,_=>False
 | .ptr a,v=>v= .ref a
 | .dti a8,v=>∃ a,v= .ref a/\H a=be (.dT (dtiV a8))
def RepF(K:xE)(H:Hp):List (y8 × D)->List (y8 × V)->Prop
 |[],vs=>vs=[]
 |(f,d)::ds,vs=>∃ v r,vs=(f,v)::r/\Rep K H d v/\RepF K H ds r
def Reps(K:xE)(H:Hp):List D->List V->Prop
 |[],vs=>vs=[]
 |d::ds,vs=>∃ v r,vs=v::r/\Rep K H d v/\Reps K H ds r
end
mutual
def Rep.mono{K:xE}{H H':Hp}(g:Same H H'):∀ (d:D) (v:V),Rep K H d v->Rep K H' d v
 | .non,v,h=>by unfold Rep at h ⊢;exact h
 | .bl b,v,h=>by unfold Rep at h ⊢;exact h
 | .int b,v,h=>by unfold Rep at h ⊢;exact h
 | .str b,v,h=>by unfold Rep at h ⊢;exact h
 | .tup ds,v,h=>by
  unfold Rep at h ⊢;obtain⟨a,vs,e,q,r⟩:=h;exact⟨a,vs,e,g _ _ q,Reps.mono g ds vs r⟩
 | .lst ds,v,h=>by
  unfold Rep at h ⊢;obtain⟨a,vs,e,q,r⟩:=h;exact⟨a,vs,e,g _ _ q,Reps.mono g ds vs r⟩
 | .rol ds,v,h=>by
  unfold Rep at h ⊢;obtain⟨a,vs,e,q,r⟩:=h;exact⟨a,vs,e,g.seq q,Reps.mono g ds vs r⟩
 | .obj C fs,v,h=>by
  unfold Rep at h ⊢;obtain⟨a,C,dx,vs,e,n,q,r⟩:=h;exact⟨a,C,dx,vs,e,n,g _ _ q,RepF.mono g fs vs r⟩
 | .exc C fs,v,h=>by
  unfold Rep at h ⊢;obtain⟨a,C,od,vs,e,n,q,r,d⟩:=h;exact⟨a,C,od,vs,e,n,g _ _ q,RepF.mono g fs vs r,d.imp id λ⟨b,h1,h2⟩=>⟨b,h1,g _ _ h2⟩⟩
 | .own ds,v,h=>by
  unfold Rep at h ⊢;exact h
 | .ptr a,v,h=>by unfold Rep at h ⊢;exact h
 | .dti a8,v,h=>by
  unfold Rep at h ⊢;obtain⟨a,e,q⟩:=h;exact⟨a,e,g _ _ q⟩
def RepF.mono{K:xE}{H H':Hp}(g:Same H H'):∀ (ds:List (y8 × D)) (vs:List (y8 × V)),RepF K H ds vs->RepF K H' ds vs
 |[],vs,h=>by unfold RepF at h ⊢;exact h
 |(f,d)::ds,vs,h=>by
  unfold RepF at h ⊢;obtain⟨v,r,e,q1,q2⟩:=h;exact⟨v,r,e,Rep.mono g d v q1,RepF.mono g ds r q2⟩
def Reps.mono{K:xE}{H H':Hp}(g:Same H H'):∀ (ds:List D) (vs:List V),Reps K H ds vs->Reps K H' ds vs
 |[],vs,h=>by unfold Reps at h ⊢;exact h
 |d::ds,vs,h=>by
  unfold Reps at h ⊢;obtain⟨v,r,e,q1,q2⟩:=h;exact⟨v,r,e,Rep.mono g d v q1,Reps.mono g ds r q2⟩
end
section
variable {K:xE}{H:Hp}
def rep_non{v:V}:Rep K H .non v↔v= .non:=by unfold Rep;exact Iff.rfl
def rep_bl{b:Bool}{v:V}:Rep K H (.bl b) v↔v= .bl b:=by unfold Rep;exact Iff.rfl
def rep_int{i:Int}{v:V}:Rep K H (.int i) v↔v= .int i:=by unfold Rep;exact Iff.rfl
def rep_str{x:y8}{v:V}:Rep K H (.str x) v↔v= .str x:=by unfold Rep;exact Iff.rfl
def rep_tupS{ds:List D}{v:V}:Rep K H (.tup ds) v↔∃ a vs,v= .ref a/\H a=be (.tup vs)/\Reps K H ds vs:=by
 constructor
 .intro h;unfold Rep at h;exact h
 .intro h;unfold Rep;exact h
def rep_tup_mp{ds:List D}{v:V}(h:Rep K H (.tup ds) v):∃ a vs,v= .ref a/\SqT K H a vs/\Reps K H ds vs:=by
 obtain⟨a,vs,e,q,r⟩:=rep_tupS.mp h;exact⟨a,vs,e,SqT.of q,r⟩
def rep_ptr{a:GD}{v:V}:Rep K H (.ptr a) v↔v= .ref a:=by unfold Rep;exact Iff.rfl
def rep_dti{a8:List ((Int × Int) × Int)}{v:V}:Rep K H (.dti a8) v↔∃ a,v= .ref a/\H a=be (.dT (dtiV a8)):=by
 constructor
 .intro h;unfold Rep at h;exact h
 .intro h;unfold Rep;exact h
def rep_lst{ds:List D}{v:V}:Rep K H (.lst ds) v↔∃ a vs,v= .ref a/\H a=be (.lst vs)/\Reps K H ds vs:=by
 constructor
 .intro h;unfold Rep at h;exact h
 .intro h;unfold Rep;exact h
def rep_rol{ds:List D}{v:V}:Rep K H (.rol ds) v↔∃ a vs,v= .ref a/\SqL K H a vs/\Reps K H ds vs:=by
 constructor
 .intro h;unfold Rep at h;exact h
 .intro h;unfold Rep;exact h
def rep_obj{x:y8}{fs:List (y8 × D)}{v:V}:Rep K H (.obj x fs) v↔∃ a C dx vs,v= .ref a/\nsIn K GF x=be (be (.ref C))/\H a=be (.ins C dx vs)/\RepF K H fs vs:=by
 constructor
 .intro h;unfold Rep at h;exact h
 .intro h;unfold Rep;exact h
def rep_exc{x:y8}{fs:List (y8 × D)}{v:V}:Rep K H (.exc x fs) v↔∃ a C od vs,v= .ref a/\nsIn K GF x=be (be (.ref C))/\H a=be (XO a C od)/\RepF K H fs vs/\((od=t8/\vs=[])\/∃ b,od=be b/\H b=be (.xd vs)):=by
 constructor
 .intro h;unfold Rep at h;exact h
 .intro h;unfold Rep;exact h
def rep_own{ds:List D}{v:V}:¬ Rep K H (.own ds) v:=by intro h;unfold Rep at h;exact h
def repf_nil{vs:List (y8 × V)}:RepF K H [] vs↔vs=[]:=by unfold RepF;exact Iff.rfl
def repf_cons{f:y8}{d:D}{ds:List (y8 × D)}{vs:List (y8 × V)}:RepF K H ((f,d)::ds) vs↔∃ v r,vs=(f,v)::r/\Rep K H d v/\RepF K H ds r:=by
 constructor
 .intro h;unfold RepF at h;exact h
 .intro h;unfold RepF;exact h
def RepF.look{f:y8}{d:D}:∀ {fs:List (y8 × D)} {vs:List (y8 × V)},RepF K H fs vs->fs.lookup f=be d->∃ v,vs.lookup f=be v/\Rep K H d v
 |[],_,_,e=>by cases e
 |(g,x)::fs,vs,h,e=>by
  obtain⟨v,r,rfl,h1,h2⟩:=repf_cons.mp h;rw[xZ] at e ⊢;split at e
  .cases e;exact⟨v,rfl,h1⟩
  .exact RepF.look h2 e
def RepF.none{f:y8}:∀ {fs:List (y8 × D)} {vs:List (y8 × V)},RepF K H fs vs->fs.lookup f=Option.none->vs.lookup f=Option.none
 |[],vs,h,_=>by rw[repf_nil.mp h];rfl
 |(g,x)::fs,vs,h,e=>by
  obtain⟨v,r,rfl,h1,h2⟩:=repf_cons.mp h;rw[xZ] at e ⊢;split at e
  .cases e
  .exact RepF.none h2 e
def reps_nil{vs:List V}:Reps K H [] vs↔vs=[]:=by unfold Reps;exact Iff.rfl
def reps_cons{d:D}{ds:List D}{vs:List V}:Reps K H (d::ds) vs↔∃ v r,vs=v::r/\Rep K H d v/\Reps K H ds r:=by
 constructor
 .intro h;unfold Reps at h;exact h
 .intro h;unfold Reps;exact h
def Reps.length:∀ {ds:List D} {vs:List V},Reps K H ds vs->vs.length=ds.length
 |[],vs,h=>by rw[reps_nil.mp h];rfl
 |d::ds,vs,h=>by
  obtain⟨v,r,rfl,_,h2⟩:=reps_cons.mp h;rw[xG,xG,Reps.length h2]
def Reps.get:∀ {ds:List D} {vs:List V} {i:Nat} {d:D},Reps K H ds vs->ds[i]?=be d->∃ v,vs[i]?=be v/\Rep K H d v
 |[],_,_,_,_,e=>by simp at e
 |x::ds,vs,0,d,h,e=>by
  obtain⟨v,r,rfl,h1,_⟩:=reps_cons.mp h;simp at e;subst e;exact⟨v,rfl,h1⟩
 |x::ds,vs,i+1,d,h,e=>by
  obtain⟨v,r,rfl,_,h2⟩:=reps_cons.mp h;obtain⟨u,q1,q2⟩:=Reps.get (i:=i) h2 (by simpa using e);exact⟨u,by simpa using q1,q2⟩
def Reps.ints:∀ {ns:List Int} {vs:List V},Reps K H (ns.map D.int) vs↔vs=ns.map V.int
 |[],vs=>reps_nil
 |n::ns,vs=>by
  rw[xN,reps_cons,xN];constructor
  .rintro⟨v,r,rfl,h1,h2⟩;rw[rep_int.mp h1,Reps.ints.mp h2]
  .rintro rfl;exact⟨_,_,rfl,rep_int.mpr rfl,Reps.ints.mpr rfl⟩
end
abbrev SD:=List (Option D)
def dU:D->Bool| .own _=>true|_=>false
structure RepS(K:xE)(B F H:Hp)(t:SD)(s:L2.St):Prop where
 len:s.length=t.length
 val:∀ (i:Nat) d,t[i]?=be (be d)->dU d=false->∃ v,s[i]?=be (be v)/\Rep K F d v
 own:∀ (i:Nat) ds,t[i]?=be (be (.own ds))->∃ a vs,s[i]?=be (be (.ref a))/\H a=be (.lst vs)/\B a=t8/\F a=t8/\Reps K F ds vs
 apart:∀ (i j:Nat) di dj a,t[i]?=be (be (.own di))->t[j]?=be (be (.own dj))->s[i]?=be (be (.ref a))->s[j]?=be (be (.ref a))->i=j
structure Grow(F H F' H':Hp):Prop where
 ff:Same F F'
 fh:Same F' H'
 hh:Same H H'
 out:∀ b,F b=t8->H b≠t8->F' b=t8
def Grow.refl{F H:Hp}(h:Same F H):Grow F H F H:=⟨Same.refl F,h,Same.refl H,λ_ h _=>h⟩
def Grow.trans{F H F1 H1 F2 H2:Hp}(g:Grow F H F1 H1)(k:Grow F1 H1 F2 H2):Grow F H F2 H2:=
 ⟨g.ff.trans k.ff,k.fh,g.hh.trans k.hh,λb h1 h2=>k.out b (g.out b h1 h2) (by
  cases e:H b with
  |none=>exact absurd e h2
  |some o=>rw[g.hh b o e];exact λz=>nomatch z)⟩
def Grow.new{F H:Hp}{p:GD}(h:Same F H)(hp:H p=t8)(o:HO):Grow F H (upd F p o) (upd H p o):=by
 have fp:F p=none:=h.free hp;refine⟨aU fp o,λb u e=>?_,aU hp o,λb h1 h2=>?_⟩
 .by_cases hb:b=p
  .subst hb;rw[az] at e ⊢;exact e
  .rw[aj hb] at e ⊢;exact h b u e
 .by_cases hb:b=p
  .subst hb;exact absurd hp h2
  .rw[aj hb];exact h1
class Jx where
 B:Hp
 F0:Hp
 RX:SD->y8->List (y8 × D)->Prop
structure Kept[J:Jx](B F0 F H:Hp):Prop where
 bh:Same B H
 fh:Same F H
 f0:Same F0 F
 out:∀ b,F0 b=t8->B b≠t8->F b=t8
 eb:B=J.B
 jf:Same J.F0 F0
 jo:∀ b,J.F0 b=t8->B b≠t8->F0 b=t8
def Kept.kf[J:Jx]{B F0 F H:Hp}(k:Kept B F0 F H):Kept B J.F0 F H:=⟨k.bh,k.fh,k.jf.trans k.f0,λb h1 h2=>k.out b (k.jo b h1 h2) h2,k.eb,Same.refl _,λ_ h _=>h⟩
def Kept.grow[Jx]{B F0 F H F' H':Hp}(k:Kept B F0 F H)(g:Grow F H F' H'):Kept B F0 F' H':=
 ⟨k.bh.trans g.hh,g.fh,k.f0.trans g.ff,λb h1 h2=>g.out b (k.out b h1 h2) (by
  cases e:B b with
  |none=>exact absurd e h2
  |some o=>rw[k.bh b o e];exact λz=>nomatch z),k.eb,k.jf,k.jo⟩
section
variable {K:xE}{B F H F' H':Hp}{t:SD}{s:L2.St}
def RepS.grow(g:Grow F H F' H')(h:RepS K B F H t s):RepS K B F' H' t s where
 len:=h.len
 val:=λi d e no=>let ⟨v,q1,q2⟩:=h.val i d e no;⟨v,q1,q2.mono g.ff⟩
 own:=λi ds e=>by
  obtain⟨a,vs,q1,q2,q3,q4,q5⟩:=h.own i ds e;exact⟨a,vs,q1,g.hh a _ q2,q3,g.out a q4 (by rw[q2];exact λz=>nomatch z),q5.mono g.ff⟩
 apart:=h.apart
def RepS.set{i:Nat}{d:D}{v:V}(h:RepS K B F H t s)(r:Rep K F d v):RepS K B F H (t.set i (be d)) (s.set i (be v)):=by
 have no:dU d=false:=by
  cases d with
  |own ds=>exact absurd r rep_own
  |_=>rfl
 have get:∀ {j:Nat} {x:D},(t.set i (be d))[j]?=be (be x)->(j=i/\x=d/\i<t.length)\/(j≠i/\t[j]?=be (be x)):=λ{j x} e=>by
  by_cases hj:i=j
  .subst hj;rw[yD] at e;simp at e;exact .inl ⟨rfl,e.2.symm,e.1⟩
  .rw[xL hj] at e;exact .inr ⟨λz=>hj z.symm,e⟩
 refine⟨by rw[yx,yx];exact h.len,λj x e nx=>?_,λj ds e=>?_,λj k dj dk a e1 e2 e3 e4=>?_⟩
 .rcases get e with⟨rfl,rfl,hl⟩|⟨hj,e⟩
  .exact⟨v,by rw[yf (by rw[h.len];exact hl)],r⟩
  .obtain⟨u,q1,q2⟩:=h.val j x e nx;exact⟨u,by rw[xL (λz=>hj z.symm)];exact q1,q2⟩
 .rcases get e with⟨rfl,rfl,hl⟩|⟨hj,e⟩
  .cases no
  .obtain⟨a,vs,q1,q⟩:=h.own j ds e;exact⟨a,vs,by rw[xL (λz=>hj z.symm)];exact q1,q⟩
 .rcases get e1 with⟨rfl,rfl,hl⟩|⟨hj,e1⟩
  .cases no
  .rcases get e2 with⟨rfl,rfl,hl⟩|⟨hk,e2⟩
   .cases no
   .rw[xL (λz=>hj z.symm)] at e3;rw[xL (λz=>hk z.symm)] at e4;exact h.apart j k dj dk a e1 e2 e3 e4
def RepS.setOwn{i:Nat}{a:GD}{vs:List V}{ds:List D}(h:RepS K B F H t s)(hB:B a=t8)(hF:F a=t8)(r:Reps K F ds vs)
  (free:∀ (j:Nat) dj,j≠i->t[j]?=be (be (.own dj))->s[j]?≠be (be (.ref a))):RepS K B F (upd H a (.lst vs)) (t.set i (be (.own ds))) (s.set i (be (.ref a))):=by
 have get:∀ {j:Nat} {x:D},(t.set i (be (.own ds)))[j]?=be (be x)->(j=i/\x= .own ds/\i<t.length)\/(j≠i/\t[j]?=be (be x)):=λ{j x} e=>by
  by_cases hj:i=j
  .subst hj;rw[yD] at e;simp at e;exact .inl ⟨rfl,e.2.symm,e.1⟩
  .rw[xL hj] at e;exact .inr ⟨λz=>hj z.symm,e⟩
 refine⟨by rw[yx,yx];exact h.len,λj x e nx=>?_,λj dj e=>?_,λj k dj dk b e1 e2 e3 e4=>?_⟩
 .rcases get e with⟨rfl,rfl,hl⟩|⟨hj,e⟩
  .cases nx
  .obtain⟨u,q1,q2⟩:=h.val j x e nx;exact⟨u,by rw[xL (λz=>hj z.symm)];exact q1,q2⟩
 .rcases get e with⟨rfl,e,hl⟩|⟨hj,e⟩
  .cases e;exact⟨a,vs,by rw[yf (by rw[h.len];exact hl)],az,hB,hF,r⟩
  .obtain⟨b,us,q1,q2,q⟩:=h.own j dj e;have ne:b≠a:=λz=>free j dj hj e (z ▸ q1);exact⟨b,us,by rw[xL (λz=>hj z.symm)];exact q1,by rw[aj ne];exact q2,q⟩
 .rcases get e1 with⟨hj,c1,hl⟩|⟨hj,f1⟩
  .rcases get e2 with⟨hk,c2,v_⟩|⟨hk,f2⟩
   .rw[hj,hk]
   .rw[hj,yf (by rw[h.len];exact hl)] at e3;rw[xL (λz=>hk z.symm)] at e4;cases e3;exact absurd e4 (free k dk hk f2)
  .rcases get e2 with⟨hk,c2,v_⟩|⟨hk,f2⟩
   .rw[hk,yf (by rw[h.len];exact v_)] at e4;rw[xL (λz=>hj z.symm)] at e3;cases e4;exact absurd e3 (free j dj hj f1)
   .rw[xL (λz=>hj z.symm)] at e3;rw[xL (λz=>hk z.symm)] at e4;exact h.apart j k dj dk b f1 f2 e3 e4
def RepS.freeze[Jx]{F0:Hp}{i:Nat}{ds:List D}(h:RepS K B F H t s)(k:Kept B F0 F H)(e:t[i]?=be (be (.own ds))):∃ F',Kept B F0 F' H/\RepS K B F' H (t.set i (be (.lst ds))) s:=by
 obtain⟨a,vs,q1,q2,q3,q4,q5⟩:=h.own i ds e;have hl:i<t.length:=(xO.mp e).1;have g:Same F (upd F a (.lst vs)):=aU q4 _;have get:∀ {j:Nat} {x:D},(t.set i (be (.lst ds)))[j]?=be (be x)->(j=i/\x= .lst ds)\/(j≠i/\t[j]?=be (be x)):=λ{j x} e=>by
  by_cases hj:i=j
  .subst hj;rw[yD] at e;simp at e;exact .inl ⟨rfl,e.2.symm⟩
  .rw[xL hj] at e;exact .inr ⟨λz=>hj z.symm,e⟩
 refine⟨upd F a (.lst vs),⟨k.bh,λb o z=>?_,k.f0.trans g,λb h1 h2=>?_,k.eb,k.jf,k.jo⟩,⟨by rw[yx];exact h.len,λj x e' nx=>?_,λj dj e'=>?_,λj l dj dl b e1 e2 e3 e4=>?_⟩⟩
 .by_cases hb:b=a
  .subst hb;rw[az] at z;cases z;exact q2
  .rw[aj hb] at z;exact k.fh b o z
 .by_cases hb:b=a
  .subst hb;exact absurd q3 h2
  .rw[aj hb];exact k.out b h1 h2
 .rcases get e' with⟨rfl,rfl⟩|⟨hj,e'⟩
  .exact⟨.ref a,q1,rep_lst.mpr ⟨a,vs,rfl,az,q5.mono g⟩⟩
  .obtain⟨u,p1,p2⟩:=h.val j x e' nx;exact⟨u,p1,p2.mono g⟩
 .rcases get e' with⟨rfl,c⟩|⟨hj,e'⟩
  .cases c
  .obtain⟨b,us,p1,p2,p3,p4,p5⟩:=h.own j dj e';have ne:b≠a:=λz=>hj (h.apart j i dj ds a e' e (z ▸ p1) q1);exact⟨b,us,p1,p2,p3,by rw[aj ne];exact p4,p5.mono g⟩
 .rcases get e1 with⟨rfl,c⟩|⟨hj,e1⟩
  .cases c
  .rcases get e2 with⟨rfl,c⟩|⟨hk,e2⟩
   .cases c
   .exact h.apart j l dj dl b e1 e2 e3 e4
end
def startD(N:List y8)(ds:List D):SD:=ds.map be++yi (N.length - ds.length) t8
def Rep.noown{K:xE}{F:Hp}{d:D}{v:V}(r:Rep K F d v):dU d=false:=by
 cases d with
 |own ds=>exact absurd r rep_own
 |_=>rfl
def dz{K:xE}{B F H:Hp}{N:List y8}{ds:List D}{vs:List V}(h:Reps K F ds vs):RepS K B F H (startD N ds) (L2.start N vs):=by
 have hl:=h.length;have get:∀ (i:Nat) d,(startD N ds)[i]?=be (be d)->∃ v,(L2.start N vs)[i]?=be (be v)/\Rep K F d v:=λi d e=>by
  unfold startD at e;unfold L2.start;by_cases hi:i<ds.length
  .rw[yW (by simpa using hi),yj] at e;cases q:ds[i]? with
   |none=>rw[q] at e;cases e
   |some x=>
    rw[q] at e;cases e;obtain⟨v,q1,q2⟩:=h.get q;exact⟨v,by rw[yW (by simpa[hl] using hi),yj,q1];rfl,q2⟩
  .rw[zm (by simpa using hi),zn] at e;split at e<;>cases e
 refine⟨by unfold startD L2.start;simp[hl],λi d e _=>get i d e,λi d e=>?_,λi j di dj a e=>?_⟩
 .obtain⟨v,_,r⟩:=get i _ e;exact absurd r rep_own
 .obtain⟨v,_,r⟩:=get i _ e;exact absurd r rep_own
abbrev TD:=SD->(D->Prop)->Prop
abbrev TDT:=SD->(Bool->Prop)->Prop
abbrev TDA:=SD->(List D->Prop)->Prop
structure EndsD where
 nx:SD->Prop
 rt:D->Prop
 bk:SD->Prop:=λ_=>False
 ct:SD->Prop:=λ_=>False
abbrev TSD:=EndsD->SD->Prop
def lE(K:xE)[J:Jx](t:TD):TE:=λs H Q=>∃ B F z,Kept B J.F0 F H/\RepS K B F H z s/\∃ R:D->Prop,t z R/\∀ d v F' H',Grow F H F' H'->R d->Rep K F' d v->Q v H'
def lT(K:xE)[J:Jx](t:TDT):TT:=λs H Q=>∃ B F z,Kept B J.F0 F H/\RepS K B F H z s/\∃ R:Bool->Prop,t z R/\∀ b F' H',Grow F H F' H'->R b->Q b H'
def lA(K:xE)[J:Jx](t:TDA):TA:=λs H Q=>∃ B F z,Kept B J.F0 F H/\RepS K B F H z s/\∃ R:List D->Prop,t z R/\∀ ds vs F' H',Grow F H F' H'->R ds->Reps K F' ds vs->Q vs H'
structure EndsOk[Jx](K:xE)(B F0:Hp)(ED:EndsD)(E:Ends):Prop where
 nx:∀ z' s' F' H',Kept B F0 F' H'->ED.nx z'->RepS K B F' H' z' s'->E.nx s' H'
 rt:∀ d v F' H',Kept B F0 F' H'->ED.rt d->Rep K F' d v->E.rt v H'
 bk:∀ z' s' F' H',Kept B F0 F' H'->ED.bk z'->RepS K B F' H' z' s'->E.bk s' H'
 ct:∀ z' s' F' H',Kept B F0 F' H'->ED.ct z'->RepS K B F' H' z' s'->E.ct s' H'
def lS(K:xE)[Jx](t:TSD):TS:=λE s H=>∃ B F0 F z,Kept B F0 F H/\RepS K B F H z s/\∃ ED:EndsD,t ED z/\EndsOk K B F0 ED E
abbrev DE(X:Cx)[Jx](e:GI)(t:TD):Prop:=PE X e (lE X.K t)
abbrev DT(X:Cx)[Jx](e:GI)(t:TDT):Prop:=PT X e (lT X.K t)
abbrev DW(X:Cx)[Jx](e:GI)(t:TDT):Prop:=PW X e (lT X.K t)
abbrev DA(X:Cx)[Jx](es:List GI)(t:TDA):Prop:=PA X es (lA X.K t)
abbrev DS(X:Cx)[Jx](st:GK)(t:TSD):Prop:=PS X st (lS X.K t)
abbrev DSs(X:Cx)[Jx](st:List GK)(t:TSD):Prop:=PSs X st (lS X.K t)
structure WDE(X:Cx)[Jx](e:GI)(t:TD):Prop where
 out:DE X e t
structure WDT(X:Cx)[Jx](e:GI)(t:TDT):Prop where
 out:DT X e t
structure WDW(X:Cx)[Jx](e:GI)(t:TDT):Prop where
 out:DW X e t
structure WDA(X:Cx)[Jx](es:List GI)(t:TDA):Prop where
 out:DA X es t
structure WDS(X:Cx)[Jx](st:GK)(t:TSD):Prop where
 out:DS X st t
structure WDSs(X:Cx)[Jx](st:List GK)(t:TSD):Prop where
 out:DSs X st t
section
variable {X:Cx}
def okR(R:D->Prop):D->Prop| .own _=>False|d=>R d
def dVar(i:Nat):TD:=λz R=>match z[i]? with|some (be d)=>okR R d|_=>False
def dC(d:D):TD:=λ_ R=>R d
def aa[Jx](i:Nat){x:y8}{pos:GV}(hN:X.N[i]?=be x:=by rfl)(hv:Vis X.env.scope x:=by first|exact Or.inl rfl|exact Or.inr (Or.inl rfl)|exact Or.inr (Or.inr rfl))(hd:zND x:=by decide)
  (e_:zNC x:=by decide):WDE X (.Name x pos) (dVar i):=⟨(cN hN hv hd e_).anti λs H Q h=>by
 obtain⟨B,F,z,kf,r,R,h1,h2⟩:=h;have fh:=kf.fh;unfold dVar at h1;split at h1
 .rename_i d e;have no:dU d=false:=by
   cases d with
   |own ds=>exact False.elim h1
   |_=>rfl
  have Ff:R d:=by
   cases d with
   |own ds=>exact False.elim h1
   |_=>exact h1
  obtain⟨v,q1,q2⟩:=r.val i d e no;exact⟨v,q1,h2 d v F H (Grow.refl fh) Ff q2⟩
 .exact h1.elim⟩
def de_c[Jx]{e:GI}{d:D}{v:V}(h:PE X e (tC v))(r:∀ H,Rep X.K H d v):DE X e (dC d):=h.anti λs H Q q=>by
 obtain⟨B,F,z,kf,_,R,h1,h2⟩:=q;have fh:=kf.fh;exact h2 d v F H (Grow.refl fh) h1 (r F)
def ac[Jx]{i j pos}:WDE X (.Constant (.int i) j pos) (dC (.int i)):=⟨de_c nO λ_=>rep_int.mpr rfl⟩
def dA[Jx]{b j pos}:WDE X (.Constant (.bool b) j pos) (dC (.bl b)):=⟨de_c nP λ_=>rep_bl.mpr rfl⟩
def gl[Jx]{j pos}:WDE X (.Constant .none j pos) (dC .non):=⟨de_c nQ λ_=>rep_non.mpr rfl⟩
def ao[Jx]{x j pos}:WDE X (.Constant (.str x) j pos) (dC (.str x)):=⟨de_c jJ λ_=>rep_str.mpr rfl⟩
abbrev RD2:=D->D->(D->Prop)->Prop
def dOp(r:RD2)(ta tb:TD):TD:=λz R=>ta z λx=>tb z λy=>r x y R
def aR(K:xE)(r:R2)(rd:RD2):Prop:=∀ x y u v F H R Q,Same F H->rd x y R->Rep K F x u->Rep K F y v->(∀ d w F' H',Grow F H F' H'->R d->Rep K F' d w->Q w H')->r u v H Q
def gm[Jx]{e:GI}{r:R2}{rd:RD2}{ta tb:TD}(L:aR X.K r rd)(h:PE X e (tOp r (lE X.K ta) (lE X.K tb))):DE X e (dOp rd ta tb):=h.anti λs H Q q=>by
 obtain⟨B,F,z,kf,rs,R,h1,h2⟩:=q;have fh:=kf.fh;refine⟨B,F,z,kf,rs,_,h1,λx u F1 H1 g1 hx rx=>?_⟩;refine⟨B,F1,z,kf.grow g1,rs.grow g1,_,hx,λy v F2 H2 g2 hy ry=>?_⟩;exact L x y u v F2 H2 R Q g2.fh hy (rx.mono g2.ff) ry λd w F' H' g3=>h2 d w F' H' (g1.trans (g2.trans g3))
variable {a b c:GI}{ta tb tc:TD}{pos:GV}
def cR[Jx]{op:Operator}{r:R2}{rd:RD2}(ho:OpR X (G6 op) r)(L:aR X.K r rd)(ha:DE X a ta)(hb:DE X b tb):DE X (.BinOp a op b pos) (dOp rd ta tb):=gm L (jU ho ha hb)
def qe[Jx]{op:Im}{r:R2}{rd:RD2}(ho:OpR X (G3 op) r)(L:aR X.K r rd)(ha:DE X a ta)(hb:DE X b tb)(hm:G1 op b=false):DE X (.Compare a [op] [b] pos) (dOp rd ta tb):=gm L (oN ho ha hb hm)
def qf[Jx]{r:R2}{rd:RD2}(hr:IxR X r)(L:aR X.K r rd)(ha:DE X a ta)(hb:DE X b tb)(hs:cP b:=by exact λ_ _=>rfl):DE X (.Subscript a b pos) (dOp rd ta tb):=gm L (pe_ix hr ha hb hs)
def rdAdd:RD2:=λx y R=>match x,y with
 | .int i,.int j=>R (.int (i+j))
 | .str i,.str j=>i.length+j.length<=1000000/\R (.str (i++j))
 | .lst xs,.lst ys=>xs.length+ys.length<=1000000/\R (.lst (xs++ys))
 | .tup xs,.tup ys=>(xs≠[]/\ys≠[]/\xs.length+ys.length<=1000000)/\R (.tup (xs++ys))
 |_,_=>False
def kL(K:xE):R2:=λx y H Q=>rI0 (λi j=> .int (i+j)) x y H Q\/((λx y H Q=>∃ i j,x= .str i/\y= .str j/\i.length+j.length<=sizeLine/\Q (.str (i++j)) H) x y H Q\/(rCat x y H Q\/kA K x y H Q))
def kM:OpR X (G6 .Add) (kL X.K):=OpR.or oE (OpR.or oS (OpR.or pI pz))
def Reps.append{K:xE}{F:Hp}:∀ {xs ys:List D} {us vs:List V},Reps K F xs us->Reps K F ys vs->Reps K F (xs++ys) (us++vs)
 |[],ys,us,vs,r1,r2=>by rw[reps_nil.mp r1];exact r2
 |x::xs,ys,us,vs,r1,r2=>by
  obtain⟨u,ur,rfl,a1,a2⟩:=reps_cons.mp r1;exact reps_cons.mpr ⟨u,ur++vs,rfl,a1,Reps.append a2 r2⟩
def Reps.ne_nil{K:xE}{F:Hp}{xs:List D}{us:List V}(r:Reps K F xs us)(h:xs≠[]):us≠[]:=by
 cases xs with
 |nil=>exact absurd rfl h
 |cons x xs=>obtain⟨u,ur,rfl,_⟩:=reps_cons.mp r;exact λz=>nomatch z
def kN{K:xE}:aR K (kL K) rdAdd:=by
 intro x y u v F H R Q fh h rx ry q;unfold rdAdd at h;split at h
 .exact .inl ⟨_,_,rep_int.mp rx,rep_int.mp ry,q _ _ F H (Grow.refl fh) h (rep_int.mpr rfl)⟩
 .exact .inr (.inl ⟨_,_,rep_str.mp rx,rep_str.mp ry,xR h.1 (by decide),q _ _ F H (Grow.refl fh) h.2 (rep_str.mpr rfl)⟩)
 .obtain⟨a,us,rfl,hq,rr⟩:=rep_lst.mp rx;obtain⟨b,vs,rfl,l8,n4⟩:=rep_lst.mp ry;refine .inr (.inr (.inl ⟨a,b,us,vs,rfl,rfl,fh _ _ hq,fh _ _ l8,by rw[rr.length,n4.length];exact xR h.1 (by decide),λp hp=>?_⟩));exact q _ _ _ _ (Grow.new fh hp _) h.2 (rep_lst.mpr ⟨p,_,rfl,az,(rr.append n4).mono (aU (fh.free hp) _)⟩)
 .obtain⟨a,us,rfl,hq,rr⟩:=rep_tup_mp rx;obtain⟨b,vs,rfl,l8,n4⟩:=rep_tup_mp ry;obtain⟨⟨n1,n2,hz⟩,h⟩:=h;refine .inr (.inr (.inr ⟨a,b,us,vs,rfl,rfl,fh.tup hq,fh.tup l8,rr.ne_nil n1,by rw[rr.length,n4.length];exact xR hz (by decide),λz=>absurd z (n4.ne_nil n2),λ_ p hp=>?_⟩));exact q _ _ _ _ (Grow.new fh hp _) h (rep_tupS.mpr ⟨p,_,rfl,az,(rr.append n4).mono (aU (fh.free hp) _)⟩)
 .exact h.elim
def aq[Jx](ha:WDE X a ta)(hb:WDE X b tb):WDE X (.BinOp a .Add b pos) (dOp rdAdd ta tb):=⟨have ha:=ha.out;have hb:=hb.out;cR kM kN ha hb⟩
def rdSub:RD2:=λx y R=>match x,y with| .int i,.int j=>R (.int (i - j))|_,_=>False
def kO{K:xE}:aR K (rI0 λi j=> .int (i - j)) rdSub:=by
 intro x y u v F H R Q fh h rx ry q;unfold rdSub at h;split at h
 .exact⟨_,_,rep_int.mp rx,rep_int.mp ry,q _ _ F H (Grow.refl fh) h (rep_int.mpr rfl)⟩
 .exact h.elim
def bp[Jx](ha:WDE X a ta)(hb:WDE X b tb):WDE X (.BinOp a .Sub b pos) (dOp rdSub ta tb):=⟨have ha:=ha.out;have hb:=hb.out;cR jV kO ha hb⟩
def rdMul:RD2:=λx y R=>match x,y with| .int i,.int j=>CMul i j/\R (.int (i*j))|_,_=>False
def qg{K:xE}:aR K (rI CMul λi j=> .int (i*j)) rdMul:=by
 intro x y u v F H R Q fh h rx ry q;unfold rdMul at h;split at h
 .exact⟨_,_,rep_int.mp rx,rep_int.mp ry,h.1,q _ _ F H (Grow.refl fh) h.2 (rep_int.mpr rfl)⟩
 .exact h.elim
def aI[Jx](ha:WDE X a ta)(hb:WDE X b tb):WDE X (.BinOp a .Mult b pos) (dOp rdMul ta tb):=⟨have ha:=ha.out;have hb:=hb.out;cR oF qg ha hb⟩
def rdFdiv:RD2:=λx y R=>match x,y with| .int i,.int j=>(0<j/\j<1073741824)/\R (.int (i / j))|_,_=>False
def qh{K:xE}:aR K (rI CDiv λi j=> .int (i / j)) rdFdiv:=by
 intro x y u v F H R Q fh h rx ry q;unfold rdFdiv at h;split at h
 .exact⟨_,_,rep_int.mp rx,rep_int.mp ry,h.1,q _ _ F H (Grow.refl fh) h.2 (rep_int.mpr rfl)⟩
 .exact h.elim
def bt[Jx](ha:WDE X a ta)(hb:WDE X b tb):WDE X (.BinOp a .FloorDiv b pos) (dOp rdFdiv ta tb):=⟨have ha:=ha.out;have hb:=hb.out;cR oG qh ha hb⟩
def kP(i j:Int):Prop:=j≠0/\j.natAbs<4611686018427387904
def qi:OpR X (G6 .FloorDiv) (rI kP λi j=> .int (i.fdiv j)):=opI λ_ j _ _ _ _ _ hc q=>floordiv_int hc.1 q (.inl (PyProof.noPylong_of_log2 (zS ((zU (λz=>hc.1 (Int.natAbs_eq_zero.mp z))).mpr (show j.natAbs<2 ^ 62 from hc.2)) (by decide))))
def rdFdivN:RD2:=λx y R=>match x,y with| .int i,.int j=>(j≠0/\j.natAbs<4611686018427387904)/\R (.int (i.fdiv j))|_,_=>False
def qj{K:xE}:aR K (rI kP λi j=> .int (i.fdiv j)) rdFdivN:=by
 intro x y u v F H R Q fh h rx ry q;unfold rdFdivN at h;split at h
 .exact⟨_,_,rep_int.mp rx,rep_int.mp ry,h.1,q _ _ F H (Grow.refl fh) h.2 (rep_int.mpr rfl)⟩
 .exact h.elim
def qk[Jx](ha:WDE X a ta)(hb:WDE X b tb):WDE X (.BinOp a .FloorDiv b pos) (dOp rdFdivN ta tb):=⟨have ha:=ha.out;have hb:=hb.out;cR qi qj ha hb⟩
def rdMod:RD2:=λx y R=>match x,y with| .int i,.int j=>0<j/\R (.int (i % j))|_,_=>False
def ql{K:xE}:aR K (rI (λ_ j=>0<j) λi j=> .int (i % j)) rdMod:=by
 intro x y u v F H R Q fh h rx ry q;unfold rdMod at h;split at h
 .exact⟨_,_,rep_int.mp rx,rep_int.mp ry,h.1,q _ _ F H (Grow.refl fh) h.2 (rep_int.mpr rfl)⟩
 .exact h.elim
def au[Jx](ha:WDE X a ta)(hb:WDE X b tb):WDE X (.BinOp a .Mod b pos) (dOp rdMod ta tb):=⟨have ha:=ha.out;have hb:=hb.out;cR oH ql ha hb⟩
def rdLt:RD2:=λx y R=>match x,y with| .int i,.int j=>R (.bl (decide (i<j)))|_,_=>False
def kQ{K:xE}:aR K (rI0 λi j=> .bl (decide (i<j))) rdLt:=by
 intro x y u v F H R Q fh h rx ry q;unfold rdLt at h;split at h
 .exact⟨_,_,rep_int.mp rx,rep_int.mp ry,q _ _ F H (Grow.refl fh) h (rep_bl.mpr rfl)⟩
 .exact h.elim
def rdGt:RD2:=λx y R=>match x,y with| .int i,.int j=>R (.bl (decide (j<i)))|_,_=>False
def qm{K:xE}:aR K (rI0 λi j=> .bl (decide (j<i))) rdGt:=by
 intro x y u v F H R Q fh h rx ry q;unfold rdGt at h;split at h
 .exact⟨_,_,rep_int.mp rx,rep_int.mp ry,q _ _ F H (Grow.refl fh) h (rep_bl.mpr rfl)⟩
 .exact h.elim
def rdEq:RD2:=λx y R=>match x,y with
 | .int i,.int j=>R (.bl (decide (i=j)))
 | .bl i,.bl j=>R (.bl (decide (i=j)))
 | .str i,.str j=>R (.bl (decide (i=j)))
 | .non,.non=>R (.bl true)
 |_,_=>False
def rdNe:RD2:=λx y R=>match x,y with
 | .int i,.int j=>R (.bl (!decide (i=j)))
 | .bl i,.bl j=>R (.bl (!decide (i=j)))
 | .str i,.str j=>R (.bl (!decide (i=j)))
 | .non,.non=>R (.bl false)
 |_,_=>False
def gp{K:xE}:aR K rEq rdEq:=by
 intro x y u v F H R Q fh h rx ry q;unfold rdEq at h;split at h
 .rw[rep_int.mp rx,rep_int.mp ry];refine⟨rfl,q _ _ F H (Grow.refl fh) h (rep_bl.mpr ?_)⟩;simp
 .rw[rep_bl.mp rx,rep_bl.mp ry];refine⟨rfl,q _ _ F H (Grow.refl fh) h (rep_bl.mpr ?_)⟩;simp
 .rw[rep_str.mp rx,rep_str.mp ry];refine⟨rfl,q _ _ F H (Grow.refl fh) h (rep_bl.mpr ?_)⟩;simp
 .rw[rep_non.mp rx,rep_non.mp ry];refine⟨rfl,q _ _ F H (Grow.refl fh) h (rep_bl.mpr ?_)⟩;simp
 .exact h.elim
def qo{K:xE}:aR K rNe rdNe:=by
 intro x y u v F H R Q fh h rx ry q;unfold rdNe at h;split at h
 .rw[rep_int.mp rx,rep_int.mp ry];refine⟨rfl,q _ _ F H (Grow.refl fh) h (rep_bl.mpr ?_)⟩;simp
 .rw[rep_bl.mp rx,rep_bl.mp ry];refine⟨rfl,q _ _ F H (Grow.refl fh) h (rep_bl.mpr ?_)⟩;simp
 .rw[rep_str.mp rx,rep_str.mp ry];refine⟨rfl,q _ _ F H (Grow.refl fh) h (rep_bl.mpr ?_)⟩;simp
 .rw[rep_non.mp rx,rep_non.mp ry];refine⟨rfl,q _ _ F H (Grow.refl fh) h (rep_bl.mpr ?_)⟩;simp
 .exact h.elim
def dW[Jx](ha:WDE X a ta)(hb:WDE X b tb):WDE X (.Compare a [.Eq] [b] pos) (dOp rdEq ta tb):=⟨have ha:=ha.out;have hb:=hb.out;qe fX gp ha hb (nomark _)⟩
def kR:D->Bool| .non=>true|_=>false
def rdIs(f:Bool->Bool):RD2:=λx y R=>match y with| .non=>R (.bl (f (kR x)))|_=>False
def qp{K:xE}{H:Hp}{x:D}{u:V}(r:Rep K H x u):decide (u= .non)=kR x:=by
 cases x with
 |non=>rw[rep_non.mp r];rfl
 |bl b=>rw[rep_bl.mp r];rfl
 |int b=>rw[rep_int.mp r];rfl
 |str b=>rw[rep_str.mp r];rfl
 |tup b=>obtain⟨a,vs,rfl,_⟩:=rep_tup_mp r;rfl
 |lst b=>obtain⟨a,vs,rfl,_⟩:=rep_lst.mp r;rfl
 |rol b=>obtain⟨a,vs,rfl,_⟩:=rep_rol.mp r;rfl
 |obj C b=>obtain⟨a,C,dx,vs,rfl,_⟩:=rep_obj.mp r;rfl
 |exc C b=>obtain⟨a,C,od,vs,rfl,_⟩:=rep_exc.mp r;rfl
 |own b=>exact absurd r rep_own
 |ptr b=>rw[rep_ptr.mp r];rfl
 |dti b=>obtain⟨a,rfl,_⟩:=rep_dti.mp r;rfl
def qq{K:xE}:aR K (λx y H Q=>y= .non/\Q (.bl (decide (x= .non))) H) (rdIs id):=by
 intro x y u v F H R Q fh h rx ry q;unfold rdIs at h;split at h
 .exact⟨rep_non.mp ry,q _ _ F H (Grow.refl fh) h (rep_bl.mpr (by rw[qp rx];rfl))⟩
 .exact h.elim
def rdIx:RD2:=λx y R=>match x,y with
 | .tup ds,.int i=>∃ d,atI ds i=be d/\R d
 | .lst ds,.int i=>∃ d,atI ds i=be d/\R d
 | .rol ds,.int i=>∃ d,atI ds i=be d/\R d
 | .str x,.int i=>∃ c,(x.length<=1000000/\atI x.cps.toList i=be c)/\R (.str ⟨#[c]⟩)
 |_,_=>False
def Reps.at{K:xE}{H:Hp}{ds:List D}{vs:List V}{i:Int}{d:D}(r:Reps K H ds vs)(e:atI ds i=be d):∃ v,atI vs i=be v/\Rep K H d v:=by
 unfold atI at e ⊢;rw[r.length];cases q:ixN ds.length i with
 |none=>rw[q] at e;cases e
 |some j=>
  rw[q] at e;exact r.get e
def kS{K:xE}:aR K (rIx K) rdIx:=by
 intro x y u v F H R Q fh h rx ry q;unfold rdIx at h;split at h
 .obtain⟨d,e,h⟩:=h;obtain⟨a,vs,e1,hq,rs⟩:=rep_tup_mp rx;obtain⟨w,e2,j6⟩:=rs.at e;exact .inr (.inl ⟨a,vs,_,w,e1,rep_int.mp ry,fh.tup hq,e2,q d w F H (Grow.refl fh) h j6⟩)
 .obtain⟨d,e,h⟩:=h;obtain⟨a,vs,e1,hq,rs⟩:=rep_lst.mp rx;obtain⟨w,e2,j6⟩:=rs.at e;exact .inl ⟨a,vs,_,w,e1,rep_int.mp ry,fh.seq (SqL.of hq),e2,q d w F H (Grow.refl fh) h j6⟩
 .obtain⟨d,e,h⟩:=h;obtain⟨a,vs,e1,hq,rs⟩:=rep_rol.mp rx;obtain⟨w,e2,j6⟩:=rs.at e;exact .inl ⟨a,vs,_,w,e1,rep_int.mp ry,fh.seq hq,e2,q d w F H (Grow.refl fh) h j6⟩
 .obtain⟨c,⟨hz,e⟩,h⟩:=h;exact .inr (.inr ⟨_,_,c,rep_str.mp rx,rep_int.mp ry,xR hz (by decide),e,q _ _ F H (Grow.refl fh) h (rep_str.mpr rfl)⟩)
 .exact h.elim
def ag[Jx](ha:WDE X a ta)(hb:WDE X b tb)(hs:cP b:=by exact λ_ _=>rfl):WDE X (.Subscript a b pos) (dOp rdIx ta tb):=⟨have ha:=ha.out;have hb:=hb.out;qf kB kS ha hb hs⟩
def dUn(r:D->(D->Prop)->Prop)(ta:TD):TD:=λz R=>ta z λx=>r x R
def kT:D->(D->Prop)->Prop:=λx R=>match x with| .int i=>R (.int (-i))|_=>False
def bU[Jx](ha:WDE X a ta):WDE X (.UnaryOp .USub a pos) (dUn kT ta):=⟨have ha:=ha.out;(oC oI ha).anti λs H Q h=>by
 obtain⟨B,F,z,kf,rs,R,h1,h2⟩:=h;have fh:=kf.fh;refine⟨B,F,z,kf,rs,_,h1,λx u F1 H1 g1 hx rx=>?_⟩;unfold kT at hx;split at hx
 .exact⟨_,rep_int.mp rx,h2 _ _ F1 H1 g1 hx (rep_int.mpr rfl)⟩
 .exact hx.elim⟩
def dNil:TDA:=λ_ R=>R []
def qr(ta:TD)(tr:TDA):TDA:=λz R=>ta z λx=>tr z λxs=>R (x::xs)
def af[Jx]:WDA X [] dNil:=⟨pa_nil.anti λs H Q h=>by
 obtain⟨B,F,z,kf,rs,R,h1,h2⟩:=h;have fh:=kf.fh;exact h2 [] [] F H (Grow.refl fh) h1 (reps_nil.mpr rfl)⟩
def ad[Jx]{e:GI}{es:List GI}{te:TD}{t:TDA}(ha:WDE X e te)(hr:WDA X es t)(hs:zSE X e es:=by rfl):WDA X (e::es) (qr te t):=⟨have ha:=ha.out;have hr:=hr.out;(aT ha hr hs).anti λs H Q h=>by
 obtain⟨B,F,z,kf,rs,R,h1,h2⟩:=h;have fh:=kf.fh;refine⟨B,F,z,kf,rs,_,h1,λx u F1 H1 g1 hx rx=>?_⟩;refine⟨B,F1,z,kf.grow g1,rs.grow g1,_,hx,λxs us F2 H2 g2 hy ry=>?_⟩;exact h2 _ _ F2 H2 (g1.trans g2) hy (reps_cons.mpr ⟨_,_,rfl,rx.mono g2.ff,ry⟩)⟩
def dTup(t:TDA):TD:=λz R=>t z λxs=>xs.length<=1000/\R (.tup xs)
def dLst(t:TDA):TD:=λz R=>t z λxs=>xs.length<=1000/\R (.lst xs)
def aM[Jx]{es:List GI}{t:TDA}{x1}(h:WDA X es t):WDE X (.Tuple es x1 pos) (dTup t):=⟨have h:=h.out;(kq h).anti λs H Q q=>by
 obtain⟨B,F,z,kf,rs,R,h1,h2⟩:=q;have fh:=kf.fh;refine⟨B,F,z,kf,rs,_,h1,λds vs F1 H1 g1 hx rx=>?_⟩;have hl:=rx.length;refine⟨sz (by rw[hl];exact hx.1),λp hp=>?_⟩;exact h2 _ _ _ _ (g1.trans (Grow.new g1.fh hp _)) hx.2 (rep_tupS.mpr ⟨p,vs,rfl,az,rx.mono (aU (g1.fh.free hp) _)⟩)⟩
def bA[Jx]{es:List GI}{t:TDA}(h:WDA X es t):WDE X (.List es pos) (dLst t):=⟨have h:=h.out;(gc h).anti λs H Q q=>by
 obtain⟨B,F,z,kf,rs,R,h1,h2⟩:=q;have fh:=kf.fh;refine⟨B,F,z,kf,rs,_,h1,λds vs F1 H1 g1 hx rx=>?_⟩;have hl:=rx.length;refine⟨sz (by rw[hl];exact hx.1),λp hp=>?_⟩;exact h2 _ _ _ _ (g1.trans (Grow.new g1.fh hp _)) hx.2 (rep_lst.mpr ⟨p,vs,rfl,az,rx.mono (aU (g1.fh.free hp) _)⟩)⟩
abbrev SpD:=List D->(D->Prop)->Prop
def lSp(K:xE)(S:SpD):Sp:=λvs H Q _=>∃ F ds,Same F H/\Reps K F ds vs/\∃ R:D->Prop,S ds R/\∀ d v F' H',Grow F H F' H'->R d->Rep K F' d v->Q v H'
def qt(S:SpD)(t:TDA):TD:=λz R=>t z λds=>S ds R
abbrev CalD(P:GH)(w:GM)(K:xE)(mg:y8->Option Da)(base:Heap)(n:Nat)(x:y8)(ps:List y8)(S:SpD):Prop:=Cal P w K mg base n x ps (lSp K S)
def aS[Jx]{n m:Nat}{ps:List y8}{S:SpD}{x:y8}{p:GV}{e:GI}{es:List GI}{t:TDA}(C:CalD X.prog X.w X.K X.mg X.base n x ps S)(hr:Room m X.A)(ha:WDA X (e::es) t)(hg:Gl X x:=by rfl)(hn:n<=m:=by decide)(d4:zND x:=by decide)
  (he:zSE X e es:=by rfl) (c7:zPL X pos es:=by rfl):WDE X (.Call (.Name x p) (e::es) [] pos) (qt S t):=⟨have ha:=ha.out;(qd C hr ha hg hn d4 he c7).anti λs H Q h=>by
 obtain⟨B,F,z,kf,rs,R,h1,h2⟩:=h;have fh:=kf.fh;refine⟨B,F,z,kf,rs,_,h1,λds vs F1 H1 g1 hx rx=>?_⟩;exact⟨F1,ds,g1.fh,by rw[yd];exact rx,R,hx,λd v F' H' g=>h2 d v F' H' (g1.trans g)⟩⟩
abbrev RDn:=List D->(D->Prop)->Prop
def cf(K:xE)(r:List V->Hp->VK->Prop)(rd:RDn):Prop:=∀ ds vs F H R Q,Same F H->rd ds R->Reps K F ds vs->(∀ d w F' H',Grow F H F' H'->R d->Rep K F' d w->Q w H')->r vs H Q
def dCB(r:RDn)(t:TDA):TD:=λz R=>t z λds=>r ds R
def kU[Jx]{x:y8}{p:GV}{e:GI}{es:List GI}{t:TDA}{id:String}{r:List V->Hp->VK->Prop}{rd:RDn}(hc:bz X (.builtin id) r)(L:cf X.K r rd)(hm:X.mg x=t8)(hv:GY x=be (.builtin id))(ha:DA X (e::es) t)(hg:Gl X x:=by rfl)(hn:x≠"__name__":=by decide)(d4:zND x:=by decide)
  (he:zSE X e es:=by rfl) (c7:zPL X pos es:=by rfl):DE X (.Call (.Name x p) (e::es) [] pos) (dCB rd t):=(dQ hc hg hm hv ha hn d4 he c7).anti λs H Q h=>by
 obtain⟨B,F,z,kf,rs,R,h1,h2⟩:=h;have fh:=kf.fh;refine⟨B,F,z,kf,rs,_,h1,λds vs F1 H1 g1 hx rx=>?_⟩;exact L ds vs F1 H1 R Q g1.fh hx rx λd w F' H' g=>h2 d w F' H' (g1.trans g)
def rdLen:RDn:=λds R=>match ds with
 |[.tup xs]=>R (.int xs.length)
 |[.lst xs]=>R (.int xs.length)
 |[.rol xs]=>R (.int xs.length)
 |[.str x]=>x.length<=1000000/\R (.int x.length)
 |_=>False
def kW{K:xE}:cf K (λxs H Q=>∃ x n,xs=[x]/\LenV K x H n/\Q (.int n) H) rdLen:=by
 intro ds vs F H R Q fh h rx q;unfold rdLen at h;split at h
 .obtain⟨v,r,rfl,h1,h2⟩:=reps_cons.mp rx;rw[reps_nil.mp h2];obtain⟨a,us,rfl,hq,rs⟩:=rep_tup_mp h1;exact⟨.ref a,us.length,rfl,.inr ⟨us,fh.tup hq,rfl⟩,q _ _ F H (Grow.refl fh) h (rep_int.mpr (by rw[rs.length]))⟩
 .obtain⟨v,r,rfl,h1,h2⟩:=reps_cons.mp rx;rw[reps_nil.mp h2];obtain⟨a,us,rfl,hq,rs⟩:=rep_lst.mp h1;exact⟨.ref a,us.length,rfl,.inl ⟨us,fh.seq (SqL.of hq),rfl⟩,q _ _ F H (Grow.refl fh) h (rep_int.mpr (by rw[rs.length]))⟩
 .obtain⟨v,r,rfl,h1,h2⟩:=reps_cons.mp rx;rw[reps_nil.mp h2];obtain⟨a,us,rfl,hq,rs⟩:=rep_rol.mp h1;exact⟨.ref a,us.length,rfl,.inl ⟨us,fh.seq hq,rfl⟩,q _ _ F H (Grow.refl fh) h (rep_int.mpr (by rw[rs.length]))⟩
 .obtain⟨v,r,rfl,h1,h2⟩:=reps_cons.mp rx;rw[reps_nil.mp h2,rep_str.mp h1];exact⟨.str _,_,rfl,⟨xR h.1 (by decide),rfl⟩,q _ _ F H (Grow.refl fh) h.2 (rep_int.mpr rfl)⟩
 .exact h.elim
def gq[Jx]{p:GV}{e:GI}{t:TDA}(hm:X.mg "len"=t8)(ha:WDA X [e] t)(hg:Gl X "len":=by rfl)(he:zSE X e []:=by rfl):WDE X (.Call (.Name "len" p) [e] [] pos) (dCB rdLen t):=⟨have ha:=ha.out;kU fY kW hm PySem.boot_len ha hg (by decide) (by decide) he⟩
def rdAbs:RDn:=λds R=>match ds with
 |[.int i]=>R (.int (if i<0 then -i else i))
 |_=>False
def qu{K:xE}:cf K (λxs H Q=>∃ i,xs=[.int i]/\Q (.int (if i<0 then -i else i)) H) rdAbs:=by
 intro ds vs F H R Q fh h rx q;unfold rdAbs at h;split at h
 .obtain⟨v,r,rfl,h1,h2⟩:=reps_cons.mp rx;rw[reps_nil.mp h2,rep_int.mp h1];exact⟨_,rfl,q _ _ F H (Grow.refl fh) h (rep_int.mpr rfl)⟩
 .exact h.elim
def qv[Jx]{p:GV}{e:GI}{t:TDA}(hm:X.mg "abs"=t8)(ha:WDA X [e] t)(hg:Gl X "abs":=by rfl)(he:zSE X e []:=by rfl):WDE X (.Call (.Name "abs" p) [e] [] pos) (dCB rdAbs t):=⟨have ha:=ha.out;kU oU qu hm PyProof.Rows.boot_abs ha hg (by decide) (by decide) he⟩
end
section
variable {X:Cx}{a b c e:GI}{ta tb tc te:TD}{pos:GV}
def dTst(t:TD):TDT:=λz R=>t z λx=>match x with| .bl k=>R k|_=>False
def dB[Jx]{op:Im}{r:R2}{rd:RD2}(ho:OpR X (G3 op) r)(L:aR X.K r rd)(ha:DE X a ta)(hb:DE X b tb)(hm:G1 op b=false):DT X (.Compare a [op] [b] pos) (dTst (dOp rd ta tb)):=(ke ho ha hb hm).anti λs H Q q=>by
 obtain⟨B,F,z,kf,rs,R,h1,h2⟩:=q;have fh:=kf.fh;refine⟨B,F,z,kf,rs,_,h1,λx u F1 H1 g1 hx rx=>?_⟩;refine⟨B,F1,z,kf.grow g1,rs.grow g1,_,hx,λy v F2 H2 g2 hy ry=>?_⟩;refine L x y u v F2 H2 _ _ g2.fh hy (rx.mono g2.ff) ry λd w F' H' g3 hd rd=>?_;split at hd
 .exact⟨_,rep_bl.mp rd,h2 _ F' H' (g1.trans (g2.trans g3)) hd⟩
 .exact hd.elim
def dX[Jx](ha:WDE X a ta)(hb:WDE X b tb):WDT X (.Compare a [.Lt] [b] pos) (dTst (dOp rdLt ta tb)):=⟨have ha:=ha.out;have hb:=hb.out;dB kd kQ ha hb (nomark _)⟩
def qw[Jx](ha:WDE X a ta)(hb:WDE X b tb):WDT X (.Compare a [.Gt] [b] pos) (dTst (dOp rdGt ta tb)):=⟨have ha:=ha.out;have hb:=hb.out;dB oK qm ha hb (nomark _)⟩
def aZ[Jx](ha:WDE X a ta)(hb:WDE X b tb):WDT X (.Compare a [.Eq] [b] pos) (dTst (dOp rdEq ta tb)):=⟨have ha:=ha.out;have hb:=hb.out;dB fX gp ha hb (nomark _)⟩
def kX[Jx](ha:WDE X a ta)(hb:WDE X b tb):WDT X (.Compare a [.NotEq] [b] pos) (dTst (dOp rdNe ta tb)):=⟨have ha:=ha.out;have hb:=hb.out;dB oJ qo ha hb (nomark _)⟩
def dTru(t:TD):TDT:=λz R=>t z λx=>match x with
 | .non=>R false
 | .bl k=>R k
 | .int i=>R (i !=0)
 | .str y=>y.length<=1000/\R ((y.length:Int) !=0)
 | .tup xs=>R (!xs.isEmpty)
 | .lst xs=>R (!xs.isEmpty)
 | .rol xs=>R (!xs.isEmpty)
 |_=>False
def Reps.isEmpty{K:xE}{H:Hp}{ds:List D}{vs:List V}(r:Reps K H ds vs):vs.isEmpty=ds.isEmpty:=by
 cases ds with
 |nil=>rw[reps_nil.mp r];rfl
 |cons d ds=>obtain⟨v,r',rfl,_⟩:=reps_cons.mp r;rfl
def qy[Jx](ha:WDE X a ta)(he:∀ f7,isTrue a X.env f7=(do let v <- f7;Hu a.pos;HU [v] (truthy v)):=by exact λ_=>rfl):WDT X a (dTru ta):=⟨have ha:=ha.out;(oR ha he).anti λs H Q q=>by
 obtain⟨B,F,z,kf,rs,R,h1,h2⟩:=q;have fh:=kf.fh;refine⟨B,F,z,kf,rs,_,h1,λx u F1 H1 g1 hx rx=>?_⟩;split at hx
 .rw[rep_non.mp rx];exact⟨false,rfl,h2 _ F1 H1 g1 hx⟩
 .rw[rep_bl.mp rx];exact⟨_,rfl,h2 _ F1 H1 g1 hx⟩
 .rw[rep_int.mp rx];exact⟨_,rfl,h2 _ F1 H1 g1 hx⟩
 .rw[rep_str.mp rx];exact⟨_,⟨sz hx.1,rfl⟩,h2 _ F1 H1 g1 hx.2⟩
 .obtain⟨p,vs,rfl,hq,rr⟩:=rep_tup_mp rx;exact⟨_,.inr (.inl ⟨vs,g1.fh.tup hq,by rw[rr.isEmpty]⟩),h2 _ F1 H1 g1 hx⟩
 .obtain⟨p,vs,rfl,hq,rr⟩:=rep_lst.mp rx;exact⟨_,.inl ⟨vs,g1.fh.seq (SqL.of hq),by rw[rr.isEmpty]⟩,h2 _ F1 H1 g1 hx⟩
 .obtain⟨p,vs,rfl,hq,rr⟩:=rep_rol.mp rx;exact⟨_,.inl ⟨vs,g1.fh.seq hq,by rw[rr.isEmpty]⟩,h2 _ F1 H1 g1 hx⟩
 .exact hx.elim⟩
variable {tA AT:TDT}{rest:List GI}
def qz(ta tb:TD):TD:=λz R=>ta z λx=>match x with| .bl k=>if k=true then tb z R else R (.bl false)|_=>False
def qA(ta:TD):TD:=λz R=>ta z λx=>match x with| .bl k=>R (.bl (!k))|_=>False
def gu[Jx]{op}(h:WDE X a ta):WDE X (.BoolOp op [a] pos) ta:=⟨have h:=h.out;oa h⟩
def dY[Jx](ha:WDE X a ta)(hb:WDE X (.BoolOp .And (b::rest) pos) tb):WDE X (.BoolOp .And (a::b::rest) pos) (qz ta tb):=⟨have ha:=ha.out;have hb:=hb.out;(og ha hb).anti λs H Q q=>by
 obtain⟨B,F,z,kf,rs,R,h1,h2⟩:=q;have fh:=kf.fh;refine⟨B,F,z,kf,rs,_,h1,λx u F1 H1 g1 hx rx=>?_⟩;split at hx
 .rename_i k;refine⟨k,rep_bl.mp rx,?_⟩;cases k with
  |true=>exact⟨B,F1,z,kf.grow g1,rs.grow g1,R,hx,λd v F' H' g=>h2 d v F' H' (g1.trans g)⟩
  |false=>exact h2 _ _ F1 H1 g1 hx (rep_bl.mpr rfl)
 .exact hx.elim⟩
def kY[Jx](ha:WDE X a ta):WDE X (.UnaryOp .Not a pos) (qA ta):=⟨have ha:=ha.out;(oh ha).anti λs H Q q=>by
 obtain⟨B,F,z,kf,rs,R,h1,h2⟩:=q;have fh:=kf.fh;refine⟨B,F,z,kf,rs,_,h1,λx u F1 H1 g1 hx rx=>?_⟩;split at hx
 .exact⟨_,rep_bl.mp rx,h2 _ _ F1 H1 g1 hx (rep_bl.mpr rfl)⟩
 .exact hx.elim⟩
def tyD:D->String
 | .non=>"NoneType"| .bl _=>"bool"| .int _=>"int"| .str _=>"str"| .tup _=>"tuple"| .lst _=>"list"| .rol _=>"list"| .obj _ _=>"object"| .exc _ _=>"object"| .own _=>"list"| .ptr _=>"object"| .dti _=>"dict"
def dD(t:String)(x:D):Bool:=tyD x==t||(tyD x=="bool" && t=="int")
def TyQ(K:xE)(H:Hp)(x:V)(t:String):Prop:=TyOf K H x (.type t)\/(t="tuple"/\∃ a xs,x= .ref a/\SqT K H a xs)\/(t="list"/\∃ a xs,x= .ref a/\SqL K H a xs)
def qB:bz X (.builtin "isinstance") (λxs H Q=>∃ x t c k,xs=[x,.ty c]/\TyQ X.K H x t/\kitOne X.K (.type t) (.type c)=be k/\Q (.bl k) H):=by
 intro pins s σ H xs us Q I r h;obtain⟨x,t,c,k,rfl,ty,e,q⟩:=h;obtain⟨u,u',rfl,rx,rc⟩:=kg r;cases(show u'=Value.type c from rc);rcases ty with ty|⟨rfl,a,ys,rfl,hq⟩|⟨rfl,a,ys,rfl,hq⟩
 .exact pi I rx ty e λtk=>⟨.bl k,H,I.tok _,rfl,q⟩
 .cases(show u=Value.ref a from rx);obtain⟨a_,_,⟨o,h1,h2,_⟩,_⟩:=I.tuple hq;exact kia_one kitx_tuple I.kIn ⟨o,h1,h2⟩ e (λz=>nomatch z) λtk=>⟨.bl k,H,I.tok _,rfl,q⟩
 .cases(show u=Value.ref a from rx);obtain⟨a_,_,pl,_⟩:=I.list hq;obtain⟨o,n,h1,h2,_⟩:=pl;exact kia_one kitx_list I.kIn ⟨o,h1,h2⟩ e (λz=>nomatch z) λtk=>⟨.bl k,H,I.tok _,rfl,q⟩
def dE:D->Bool| .obj _ _=>false| .exc _ _=>false| .ptr _=>false| .dti _=>false|_=>true
def qC{K:xE}{F H:Hp}{x:D}{u:V}(fh:Same F H)(r:Rep K F x u)(no:dE x=true):TyQ K H u (tyD x):=by
 cases x with
 |non=>rw[rep_non.mp r];exact .inl .non
 |bl b=>rw[rep_bl.mp r];exact .inl (.bl b)
 |int b=>rw[rep_int.mp r];exact .inl (.int b)
 |str b=>rw[rep_str.mp r];exact .inl (.str b)
 |tup b=>obtain⟨a,vs,rfl,hq,_⟩:=rep_tup_mp r;exact .inr (.inl ⟨rfl,a,vs,rfl,fh.tup hq⟩)
 |lst b=>obtain⟨a,vs,rfl,hq,_⟩:=rep_lst.mp r;exact .inr (.inr ⟨rfl,a,vs,rfl,fh.seq (SqL.of hq)⟩)
 |rol b=>obtain⟨a,vs,rfl,hq,_⟩:=rep_rol.mp r;exact .inr (.inr ⟨rfl,a,vs,rfl,fh.seq hq⟩)
 |obj C b=>cases no
 |exc C b=>cases no
 |ptr b=>cases no
 |dti b=>cases no
 |own b=>exact absurd r rep_own
def qD(t:String):D->(D->Prop)->Prop:=λx R=>match x with| .obj _ _=>False| .exc _ _=>False| .ptr _=>False| .dti _=>False|x=>R (.bl (dD t x))
def kZ[Jx]{p p2:GV}{y:y8}{t:String}(hm:X.mg "isinstance"=t8)(Fg:X.mg y=t8)(ha:WDE X a ta)(hv:GY y=be (.type t))
  (hk:∀ x:D,dE x=true->kitOne X.K (.type (tyD x)) (.type t)=be (dD t x)) (hg:Gl X "isinstance":=by rfl) (Fh:Gl X y:=by rfl) (hn:y≠"__name__":=by decide) (d4:zND y:=by decide)
  (l_:GO [a,.Name y p2] X.env=(false,GS a X.env)::GO [.Name y p2] X.env:=by rfl) (h_:GO [.Name y p2] X.env=(false,GS (.Name y p2) X.env)::GO [] X.env:=by rfl) (c7:(Ha pos (GO [.Name y p2] X.env)).any (·.1)=false:=by rfl):WDE X (.Call (.Name "isinstance" p) [a,.Name y p2] [] pos) (dUn (qD t) ta):=⟨have ha:=ha.out;(dQ qB hg hm PyProof.Rows.boot_isinstance (aT ha (aT (nS (v:= .ty t) Fh Fg hv rfl hn d4) pa_nil h_) l_) (by decide) (by decide) l_ c7).anti λs H Q q=>by
 obtain⟨B,F,z,kf,rs,R,h1,h2⟩:=q;have fh:=kf.fh;refine⟨B,F,z,kf,rs,_,h1,λx u F1 H1 g1 hx rx=>?_⟩;have no:dE x=true:=by
  cases x with
  |obj C b=>exact False.elim hx
  |exc C b=>exact False.elim hx
  |ptr b=>exact False.elim hx
  |dti b=>exact False.elim hx
  |_=>rfl
 have e9:R (.bl (dD t x)):=by
  cases x with
  |obj C b=>exact False.elim hx
  |exc C b=>exact False.elim hx
  |ptr b=>exact False.elim hx
  |dti b=>exact False.elim hx
  |_=>exact hx
 exact⟨u,tyD x,t,_,rfl,qC g1.fh rx no,hk x no,h2 _ _ F1 H1 g1 e9 (rep_bl.mpr rfl)⟩⟩
def qE{K:xE}:∀ x:D,dE x=true->kitOne K (.type (tyD x)) (.type "int")=be (dD "int" x):=by intro x no;cases x<;>first|rfl|cases no
def kit_bool{K:xE}:∀ x:D,dE x=true->kitOne K (.type (tyD x)) (.type "bool")=be (dD "bool" x):=by intro x no;cases x<;>first|rfl|cases no
def toV:D->Option V
 | .non=>be .non| .bl b=>be (.bl b)| .int i=>be (.int i)| .str x=>be (.str x)|_=>t8
def aL(d:D):Bool:=(toV d).isSome
def eqF:D->D->Bool
 | .non,.non=>true
 | .bl a,.bl b=>a==b
 | .bl a,.int b=>(if a then 1 else 0)==b
 | .int a,.bl b=>a==(if b then 1 else 0)
 | .int a,.int b=>a==b
 | .str a,.str b=>a==b
 |_,_=>false
def eqFs:List D->List D->Bool
 |[],[]=>true
 |x::xs,y::ys=>eqF x y && eqFs xs ys
 |_,_=>false
end
section
variable {X:Cx}{a b:GI}{ta tb:TD}{pos:GV}
def eqVs:List V->List V->Bool
 |[],[]=>true
 |x::xs,y::ys=>eqV x y && eqVs xs ys
 |_,_=>false
def Vals.getD{xs:List V}{us:List Da}{j:Nat}(r:Vals xs us)(h:j<us.length):RelV (xs.getD j .non) us[j]:=by
 have hl:=L2.Vals.length r;obtain⟨u,q1,q2⟩:=L2.Vals.get (i:=j) (x:=xs.getD j .non) r (by rw[ya (by lia)];simp[yK,ya (show j<xs.length by lia)]);rw[ya h] at q1;cases q1;exact q2
def eqV_of{K:xE}{H:Hp}{x y:D}{u v:V}(rx:Rep K H x u)(ry:Rep K H y v)(fx:aL x=true)(fy:aL y=true):eqV u v=eqF x y:=by
 cases x with
 |tup _=>cases fx
 |lst _=>cases fx
 |rol _=>cases fx
 |obj _ _=>cases fx
 |exc _ _=>cases fx
 |ptr _=>cases fx
 |dti _=>cases fx
 |own _=>cases fx
 |non=>rw[rep_non.mp rx];cases y with
  |tup _=>cases fy
  |lst _=>cases fy
  |rol _=>cases fy
  |obj _ _=>cases fy
  |exc _ _=>cases fy
  |ptr _=>cases fy
  |dti _=>cases fy
  |own _=>cases fy
  |non=>rw[rep_non.mp ry];rfl
  |bl _=>rw[rep_bl.mp ry];rfl
  |int _=>rw[rep_int.mp ry];rfl
  |str _=>rw[rep_str.mp ry];rfl
 |bl _=>rw[rep_bl.mp rx];cases y with
  |tup _=>cases fy
  |lst _=>cases fy
  |rol _=>cases fy
  |obj _ _=>cases fy
  |exc _ _=>cases fy
  |ptr _=>cases fy
  |dti _=>cases fy
  |own _=>cases fy
  |non=>rw[rep_non.mp ry];rfl
  |bl _=>rw[rep_bl.mp ry];rfl
  |int _=>rw[rep_int.mp ry];rfl
  |str _=>rw[rep_str.mp ry];rfl
 |int _=>rw[rep_int.mp rx];cases y with
  |tup _=>cases fy
  |lst _=>cases fy
  |rol _=>cases fy
  |obj _ _=>cases fy
  |exc _ _=>cases fy
  |ptr _=>cases fy
  |dti _=>cases fy
  |own _=>cases fy
  |non=>rw[rep_non.mp ry];rfl
  |bl _=>rw[rep_bl.mp ry];rfl
  |int _=>rw[rep_int.mp ry];rfl
  |str _=>rw[rep_str.mp ry];rfl
 |str _=>rw[rep_str.mp rx];cases y with
  |tup _=>cases fy
  |lst _=>cases fy
  |rol _=>cases fy
  |obj _ _=>cases fy
  |exc _ _=>cases fy
  |ptr _=>cases fy
  |dti _=>cases fy
  |own _=>cases fy
  |non=>rw[rep_non.mp ry];rfl
  |bl _=>rw[rep_bl.mp ry];rfl
  |int _=>rw[rep_int.mp ry];rfl
  |str _=>rw[rep_str.mp ry];rfl
def cv{K:xE}{H:Hp}{x:D}{u:V}(rx:Rep K H x u)(fx:aL x=true):aX u=true:=by
 cases x with
 |tup _=>cases fx
 |lst _=>cases fx
 |rol _=>cases fx
 |obj _ _=>cases fx
 |exc _ _=>cases fx
 |ptr _=>cases fx
 |dti _=>cases fx
 |own _=>cases fx
 |non=>rw[rep_non.mp rx];rfl
 |bl _=>rw[rep_bl.mp rx];rfl
 |int _=>rw[rep_int.mp rx];rfl
 |str _=>rw[rep_str.mp rx];rfl
def bV{K:xE}{H:Hp}:∀ {xs:List D} {us:List V},Reps K H xs us->xs.all aL=true->us.all aX=true
 |[],us,r,_=>by rw[reps_nil.mp r];rfl
 |x::xs,us,r,f=>by
  obtain⟨v,vr,rfl,r1,r2⟩:=reps_cons.mp r;rw[yq,yb] at f ⊢;exact⟨cv r1 f.1,bV r2 f.2⟩
def gv{K:xE}{H:Hp}:∀ {xs ys:List D} {us vs:List V},Reps K H xs us->Reps K H ys vs->xs.all aL=true->ys.all aL=true->eqVs us vs=eqFs xs ys
 |[],[],us,vs,r1,r2,_,_=>by rw[reps_nil.mp r1,reps_nil.mp r2];rfl
 |[],y::ys,us,vs,r1,r2,_,_=>by
  obtain⟨v,vr,rfl,_,_⟩:=reps_cons.mp r2;rw[reps_nil.mp r1];rfl
 |x::xs,[],us,vs,r1,r2,_,_=>by
  obtain⟨v,vr,rfl,_,_⟩:=reps_cons.mp r1;rw[reps_nil.mp r2];rfl
 |x::xs,y::ys,us,vs,r1,r2,f1,f2=>by
  obtain⟨u,ur,rfl,a1,a2⟩:=reps_cons.mp r1;obtain⟨v,vr,rfl,b1,b2⟩:=reps_cons.mp r2;rw[yq,yb] at f1 f2;rw[eqVs,eqFs,eqV_of a1 b1 f1.1 f2.1,gv a2 b2 f1.2 f2.2]
end
section
variable {X:Cx}{a b c e:GI}{ta tb tc te:TD}{pos:GV}{st:GK}{rest:List GK}{t u:TSD}
def qF:TSD:=λE z=>E.nx z
def dSeq(t u:TSD):TSD:=λE z=>t {E with nx:=u E} z
def bu[Jx]:WDSs X [] qF:=⟨pss_nil.anti λE s H q=>by
 obtain⟨B,F0,F,z,k,rs,ED,h,e⟩:=q;exact e.nx z s F H k h rs⟩
def ai[Jx](h1:WDS X st t)(h2:WDSs X rest u):WDSs X (st::rest) (dSeq t u):=⟨have h1:=h1.out;have h2:=h2.out;(dg h1 h2).anti λE s H q=>by
 obtain⟨B,F0,F,z,k,rs,ED,h,e⟩:=q;exact⟨B,F0,F,z,k,rs,{ED with nx:=u ED},h,⟨λz' s' F' H' k' hz r'=>⟨B,F0,F',z',k',r',ED,hz,e⟩,e.rt,e.bk,e.ct⟩⟩⟩
def av[Jx](h1:WDS X st t):WDSs X [st] t:=⟨have h1:=h1.out;jK h1⟩
def dFrz(i:Nat)(t:TSD):TSD:=λE z=>match z[i]? with|some (be (.own ds))=>t E (z.set i (be (.lst ds)))|_=>False
def dZ[Jx](i:Nat){A8:List GK}(h:WDSs X A8 t):WDSs X A8 (dFrz i t):=⟨have h:=h.out;PSs.anti h λE s H q=>by
 obtain⟨B,F0,F,z,k,rs,ED,h,e⟩:=q;unfold dFrz at h;split at h
 .rename_i ds ez;obtain⟨F',k',r'⟩:=rs.freeze k ez;exact⟨B,F0,F',_,k',r',ED,h,e⟩
 .exact h.elim⟩
def dRet(te:TD):TSD:=λE z=>te z E.rt
def aJ[Jx](he:WDE X e te):WDS X (.Return (be e) pos) (dRet te):=⟨have he:=he.out;(jL he).anti λE s H q=>by
 obtain⟨B,F0,F,z,k,rs,ED,h,e⟩:=q;exact⟨B,F,z,k.kf,rs,_,h,λd v F' H' g hd rd=>e.rt d v F' H' (k.grow g) hd rd⟩⟩
def qG(te:TD):TSD:=λE z=>te z λ_=>E.nx z
def qH[Jx](he:WDE X e te)(hs:G2 e t8 pos.line X.env=pure false:=by rfl):WDS X (.Expr e pos) (qG te):=⟨have he:=he.out;(fU he hs).anti λE s H q=>by
 obtain⟨B,F0,F,z,k,rs,ED,h,e⟩:=q;exact⟨B,F,z,k.kf,rs,_,h,λd v F' H' g hd rd=>e.nx z s F' H' (k.grow g) hd (rs.grow g)⟩⟩
def dIfS(c:TDT)(t u:TSD):TSD:=λE z=>c z λb=>if b=true then t E z else u E z
def lf[Jx]{c:GI}{l r:List GK}{tc:TDT}(hc:DT X c tc)(ha:DSs X l t)(hb:DSs X r u):DS X (.If c l r pos) (dIfS tc t u):=(jM hc ha hb).anti λE s H q=>by
 obtain⟨B,F0,F,z,k,rs,ED,h,e⟩:=q;refine⟨B,F,z,k.kf,rs,_,h,λb F1 H1 g hk=>?_⟩;cases b with
 |true=>exact⟨B,F0,F1,z,k.grow g,rs.grow g,ED,hk,e⟩
 |false=>exact⟨B,F0,F1,z,k.grow g,rs.grow g,ED,hk,e⟩
def dIfJ(c:TDT)(t u:TSD):TSD:=λE z=>∃ J:SD->Prop,(c z λb=>if b=true then t {E with nx:=J} z else u {E with nx:=J} z)/\∀ z',J z'->E.nx z'
def gw[Jx]{c:GI}{l r:List GK}{tc:TDT}(hc:WDT X c tc)(ha:WDSs X l t)(hb:WDSs X r u):WDS X (.If c l r pos) (dIfJ tc t u):=⟨have hc:=hc.out;have ha:=ha.out;have hb:=hb.out;(lf hc ha hb).anti λE s H q=>by
 obtain⟨B,F0,F,z,k,rs,ED,⟨J,h,j⟩,e⟩:=q;exact⟨B,F0,F,z,k,rs,{ED with nx:=J},h,⟨λz' s' F' H' k' hz r'=>e.nx z' s' F' H' k' (j z' hz) r',e.rt,e.bk,e.ct⟩⟩⟩
def dSet(i:Nat)(te:TD):TSD:=λE z=>∃ P:D->Prop,te z P/\∀ d,P d->E.nx (z.set i (be d))
def am[Jx](i:Nat){x:y8}{c8:GV}(hN:X.N.Nodup)(he:WDE X e te)(hi:X.N[i]?=be x:=by rfl)(hx:Loc X.env.scope x:=by first|exact Or.inl rfl|exact Or.inr rfl)(hs:G2 e (be (.Name x c8)) pos.line X.env=pure false:=by rfl)
  (hf:zFN X x:=by first|exact .inl rfl|exact .inr rfl|assumption):WDS X (.Assign [.Name x c8] e pos) (dSet i te):=⟨have he:=he.out;(fV hN hi hx he hs hf).anti λE s H q=>by
 obtain⟨B,F0,F,z,k,rs,ED,⟨P,h,j⟩,e⟩:=q;exact⟨B,F,z,k.kf,rs,P,h,λd v F' H' g hd rd=>e.nx _ _ F' H' (k.grow g) (j d hd) ((rs.grow g).set rd)⟩⟩
def dNew(i:Nat)(ta:TDA):TSD:=λE z=>ta z λds=>ds.length<=1000/\E.nx (z.set i (be (.own ds)))
def eg[Jx](i:Nat){x:y8}{c8 p2:GV}{es:List GI}{ta:TDA}(hN:X.N.Nodup)(he:WDA X es ta)(hi:X.N[i]?=be x:=by rfl)(hx:Loc X.env.scope x:=by first|exact Or.inl rfl|exact Or.inr rfl)(hs:G2 (.List es p2) (be (.Name x c8)) pos.line X.env=pure false:=by rfl)
  (hf:zFN X x:=by first|exact .inl rfl|exact .inr rfl|assumption):WDS X (.Assign [.Name x c8] (.List es p2) pos) (dNew i ta):=⟨have he:=he.out;(fV hN hi hx (gc he) hs hf).anti λE s H q=>by
 obtain⟨B,F0,F,z,k,rs,ED,h,e⟩:=q;refine⟨B,F,z,k.kf,rs,_,h,λds vs F1 H1 g hd rd=>?_⟩;have hl:=rd.length;refine⟨sz (by rw[hl];exact hd.1),λp hp=>?_⟩;have k1:=k.grow g;have r1:=rs.grow g;have hB:B p=none:=k1.bh.free hp;have hF:F1 p=none:=k1.fh.free hp;refine e.nx _ _ F1 _ ⟨k1.bh.trans (aU hp _),k1.fh.trans (aU hp _),k1.f0,k1.out,k1.eb,k1.jf,k1.jo⟩ hd.2 (r1.setOwn hB hF rd λj dj hj e1 e2=>?_);obtain⟨a,us,q1,q2,_⟩:=r1.own j dj e1;rw[e2] at q1;cases q1;rw[hp] at q2;cases q2⟩
def dApp(i:Nat)(te:TD):TSD:=λE z=>match z[i]? with|some (be (.own ds))=>(te z λd=>ds.length<=100000/\E.nx (z.set i (be (.own (ds++[d])))))|_=>False
def ei{K:xE}{F:Hp}{d:D}{v:V}(r:Rep K F d v):Reps K F [d] [v]:=reps_cons.mpr ⟨v,[],rfl,r,reps_nil.mpr rfl⟩
def dF[Jx](i:Nat){x:y8}{p1 apos cpos:GV}(he:WDE X e te)(hN:X.N[i]?=be x:=by rfl)(hv:Vis X.env.scope x:=by first|exact Or.inl rfl|exact Or.inr (Or.inl rfl)|exact Or.inr (Or.inr rfl))(hd:zND x:=by decide)
  (e_:zNC x:=by decide) (l_:zSE X e []:=by rfl)
  (b7:GQ (.Name x p1) "append" X.env (GS (.Name x p1) X.env)=GS (.Name x p1) X.env:=by rfl)
  (d6:zHF X cpos [e]:=by rfl)
  (b_:(apos.endLine==cpos.line)=true:=by rfl) (Cq:G2 (.Call (.Attribute (.Name x p1) "append" apos) [e] [] cpos) t8 pos.line X.env=pure false:=by rfl):WDS X (.Expr (.Call (.Attribute (.Name x p1) "append" apos) [e] [] cpos) pos) (dApp i te):=⟨have he:=he.out;(fU (cQ PySem.F.plainAttrs_list PySem.F.slot_list_append PySem.F.type_list_append kC (cN hN hv hd e_) (aT he pa_nil l_) b7 d6 b_ l_) Cq).anti λE s H q=>by
 obtain⟨B,F0,F,z,k,rs,ED,h,e⟩:=q;unfold dApp at h;split at h
 .rename_i ds ez;obtain⟨a,vs,q1,q2,q3,q4,q5⟩:=rs.own i ds ez;refine⟨.ref a,q1,.inl ⟨rfl,vs,SqL.of q2⟩,?_⟩;refine⟨B,F,z,k.kf,rs,_,h,λd v F1 H1 g hd rd=>?_⟩;have k1:=k.grow g;have r1:=rs.grow g;have a1:H1 a=be (.lst vs):=g.hh a _ q2;have f1:F1 a=none:=g.out a q4 (by rw[q2];exact λz=>nomatch z);have hl:vs.length=ds.length:=q5.length;have hz:vs.length<sizeLine:=by
   have h1:ds.length<=100000:=hd.1;have h2:(100000:Nat)<sizeLine:=by decide
   lia
  refine⟨a,vs,v,rfl,rfl,a1,hz,?_⟩;have HR:∀ {G:Hp},G a=t8->Same G H1->Same G (upd H1 a (.lst (vs++[v]))):=λ{G} ga gs b o eb=>by
   have ne:b≠a:=λz=>by rw[z,ga] at eb;cases eb
   rw[aj ne];exact gs b o eb
  have r2:=r1.setOwn (i:=i) (a:=a) (vs:=vs++[v]) (ds:=ds++[d]) q3 f1 ((q5.mono g.ff).append (ei rd)) (λj dj hj e1 e2=>hj (rs.apart j i dj ds a e1 ez e2 q1));have es:s.set i (be (.ref a))=s:=by
   apply zu;intro n;by_cases hn:i=n
   .subst hn;rw[yf (xO.mp q1).1,q1]
   .rw[xL hn]
  rw[es] at r2;exact e.nx _ s F1 _ ⟨HR q3 k1.bh,HR f1 k1.fh,k1.f0,k1.out,k1.eb,k1.jf,k1.jo⟩ hd.2 r2
 .exact h.elim⟩
def ci:List Nat->List D->SD->SD
 |i::is,d::ds,z=>ci is ds (z.set i (be d))
 |_,_,z=>z
def DGs(X:Cx)(ts:List GI)(is:List Nat):Prop:=∃ u:TGs,PGs X ts u/\∀ (ds:List D) (vs:List V) (z:SD) (s:L2.St) (B F H:Hp) (Q:L2.St->Hp->Prop),ds.length=is.length->Reps X.K F ds vs->RepS X.K B F H z s->(∀ s',RepS X.K B F H (ci is ds z) s'->Q s' H)->u vs s H Q
def el[Jx]:DGs X [] []:=⟨_,on,λds vs z s B F H Q hl r rs q=>by
 cases ds with
 |nil=>exact⟨reps_nil.mp r,q s rs⟩
 |cons _ _=>cases hl⟩
def dg_cons[Jx](i:Nat){x:y8}{p:GV}{es:List GI}{is:List Nat}(hN:X.N.Nodup)(h2:DGs X es is)(hi:X.N[i]?=be x:=by rfl)(hx:Loc X.env.scope x:=by first|exact Or.inl rfl|exact Or.inr rfl)(hf:zFN X x:=by first|exact .inl rfl|exact .inr rfl|assumption)
  (hs:(GT (.Name x p::es) X.env).map (·.2)=Ih (.Name x p) X.env::(GT es X.env).map (·.2):=by rfl):DGs X (.Name x p::es) (i::is):=by
 obtain⟨u,hu,k⟩:=h2;refine⟨_,oo (dh hN hi hx hf) hu hs,λds vs z s B F H Q hl r rs q=>?_⟩;cases ds with
 |nil=>cases hl
 |cons d ds=>
  obtain⟨v,vr,rfl,r1,r2⟩:=reps_cons.mp r;exact⟨v,vr,rfl,k ds vr _ _ B F H Q (Nat.succ.inj hl) r2 (rs.set r1) q⟩
def qI(c:TDT)(tb:TSD):TSD:=λE z=>∃ W:Nat->SD->Prop,(∃ m,W m z)/\∀ m z,W m z->
 c z λb=>if b=true then tb {E with nx:=λz'=>∃ m',m'<m/\W m' z',ct:=λz'=>∃ m',m'<m/\W m' z',bk:=E.nx} z else E.nx z
def qJ[Jx]{c:GI}{body:List GK}{tc:TDT}{tb:TSD}(hp:G7 (GJ X.prog X.w) X.A X.env X.xe)(hc:WDT X c tc)(hb:WDSs X body tb):WDS X (.While c body [] pos) (qI tc tb):=⟨have hc:=hc.out;have hb:=hb.out;(jP hp hc hb).anti λE s H q=>by
 obtain⟨B,F0,F,z,k,rs,ED,⟨W,⟨m0,w0⟩,d0⟩,e⟩:=q;refine⟨λm s' H'=>∃ F' z',Kept B F0 F' H'/\RepS X.K B F' H' z' s'/\W m z',⟨m0,F,z,k,rs,w0⟩,?_⟩;rintro m s1 H1 ⟨F1,z1,k1,r1,w1⟩;refine⟨B,F1,z1,k1.kf,r1,_,d0 m z1 w1,λb F2 H2 g2 hk=>?_⟩;cases b with
 |true=>
  refine⟨λs3 H3=>∃ F3 z3,Kept B F0 F3 H3/\RepS X.K B F3 H3 z3 s3/\∃ m',m'<m/\W m' z3,λs3 H3 ⟨F3,z3,k3,r3,m',l,w3⟩=>⟨m',l,F3,z3,k3,r3,w3⟩,?_⟩;exact⟨B,F0,F2,z1,k1.grow g2,r1.grow g2,_,hk,⟨λz3 s3 F3 H3 k3 h3 r3=>⟨F3,z3,k3,r3,h3⟩,e.rt,e.nx,λz3 s3 F3 H3 k3 h3 r3=>⟨F3,z3,k3,r3,h3⟩⟩⟩
 |false=>exact e.nx z1 s1 F2 H2 (k1.grow g2) hk (r1.grow g2)⟩
abbrev TDI:=SD->(List D->Prop)->Prop
def dItR(t:TD):TDI:=λz R=>t z λx=>match x with| .int n=>(0<=n/\n<2 ^ 62)/\R ((xY n.toNat).map λk=>D.int ((k:Nat):Int))|_=>False
def dFor(i:Nat)(ti:TDI)(tb:TSD):TSD:=λE z=>ti z λds=>∃ W:Nat->SD->Prop,W 0 z/\(∀ k x z,ds[k]?=be x->W k z->tb {E with nx:=W (k+1),ct:=W (k+1),bk:=E.nx} (z.set i (be x)))/\∀ z,W ds.length z->E.nx z
def Reps.get'{K:xE}{H:Hp}{ds:List D}{vs:List V}{k:Nat}{v:V}(r:Reps K H ds vs)(e:vs[k]?=be v):∃ d,ds[k]?=be d/\Rep K H d v:=by
 have hk:k<ds.length:=by rw[<- r.length];exact(xO.mp e).1
 obtain⟨u,q1,q2⟩:=r.get (ya hk);rw[e] at q1;cases q1;exact⟨_,ya hk,q2⟩
def cw[Jx](i:Nat){x:y8}{p p1 p2:GV}{body:List GK}{tb:TSD}(hp:G7 (GJ X.prog X.w) X.A X.env X.xe)(hc:X.calm=true)(hN:X.N.Nodup)(hm:X.mg "range"=t8)(he:WDE X e te)(hb:WDSs X body tb)(hg:Gl X "range":=by rfl)(hi:X.N[i]?=be x:=by rfl)(hx:Loc X.env.scope x:=by first|exact Or.inl rfl|exact Or.inr rfl)
  (hf:zFN X x:=by first|exact .inl rfl|exact .inr rfl|assumption) (hs:∀ y,zFS X (.Call (.Name "range" p1) [e] [] p2) y:=by exact λ_=>rfl) (n5:zSE X e []:=by rfl) (f_:GO [e] X.env=[(false,GS e X.env)]:=by rfl):WDS X (.For (.Name x p) (.Call (.Name "range" p1) [e] [] p2) body [] pos) (dFor i (dItR te) tb):=⟨have he:=he.out;have hb:=hb.out;(cO hp hc (jS hg hm (aT he pa_nil n5) f_) (dh hN hi hx hf) hb hs).anti λE s H q=>by
 obtain⟨B,F0,F,z,kp,rs,ED,h,e⟩:=q;refine⟨B,F,z,kp.kf,rs,_,h,λd v F1 H1 g1 hd rd=>?_⟩;split at hd
 .rename_i n;obtain⟨⟨b1,b2⟩,W,w0,d0,out⟩:=hd;have hl:((xY n.toNat).map λk=>D.int ((k:Nat):Int)).length=n.toNat:=by simp
  refine⟨n,by rw[rep_int.mp rd],by lia,b2,fW (lo:=0) (n:=n.toNat) (λk s' H'=>∃ F' z',Kept B F0 F' H'/\RepS X.K B F' H' z' s'/\W k z') ⟨F1,z,kp.grow g1,rs.grow g1,w0⟩ ?_ ?_⟩
  .rintro k s' H' hk ⟨F',z',k',r',w'⟩;have e1:(0:Int)+(k:Int)=(k:Int):=by lia
   exact⟨B,F0,F',_,k',r'.set (d:= .int (k:Int)) (rep_int.mpr (by rw[e1])),_,d0 k (.int (k:Int)) z' (by simp[hk]) w',⟨λz3 s3 F3 H3 k3 h3 r3=>⟨F3,z3,k3,r3,h3⟩,e.rt,e.nx,λz3 s3 F3 H3 k3 h3 r3=>⟨F3,z3,k3,r3,h3⟩⟩⟩
  .rintro s' H' ⟨F',z',k',r',w'⟩;exact e.nx z' s' F' H' k' (out z' (by rw[hl];exact w')) r'
 .exact hd.elim⟩
end
section
variable {P:GH}{w:GM}{K:xE}{mg:y8->Option Da}{base:Heap}
def _root_.L2.Fun.okD{x:y8}{st:GK}{f:GD}{fd:GR}{N ps:List y8}{k:Nat}{S:SpD}(T:Fun K x x st f fd)(F:FnScope N ps (ae st))(len:∀ ds R,S ds R->ds.length=ps.length)
  (a9:∀ (cdv:Da) (A:GN) (outer:List Hl) (s:GE) (H:Hp) (E:XK) (J:Jx),Room k (A.deeper (GX x (ae st) s.heap.objs.size f cdv))->
   ∃ t,DSs (cxOf (Exc.CX1 P w) P w K mg base N x (ae st) f cdv A outer s H E).nox (aF st) t/\∀ ds R,S ds R->t {nx:=λ_=>R .non,rt:=R} (startD N ds)):FnOk P w K mg base (Exc.CX1 P w) (k+1) f fd ps (lSp K S):=by
 refine Fun.okC T F (λvs H Q E h=>?_) (λcdv A outer s H vs Q E hr h=>?_)
 .obtain⟨F,ds,fh,rs,R,h,_⟩:=h;rw[rs.length];exact len ds R h
 .obtain⟨F,ds,fh,rs,R,h,q⟩:=h
  letI:Jx:=⟨H,F,λ_ _ _=>False⟩
  obtain⟨t,ht,hq⟩:=a9 cdv A outer s H E inferInstance hr;refine⟨_,ht.nox,H,F,F,startD N ds,⟨Same.refl H,fh,Same.refl F,λ_ h _=>h,rfl,Same.refl F,λ_ h _=>h⟩,dz rs,_,hq ds R h,⟨λz' s' F' H' k hn _=>q _ _ F' H' ⟨k.f0,k.fh,k.bh,k.out⟩ hn (rep_non.mpr rfl),λd v F' H' k hd rd=>q d v F' H' ⟨k.f0,k.fh,k.bh,k.out⟩ hd rd,λ_ _ _ _ _ h _=>h.elim,λ_ _ _ _ _ h _=>h.elim⟩⟩
def Tx.okD{x:y8}{st:GK}{N ps:List y8}{k:Nat}{S:SpD}(T:Tx K mg x st ps)(F:FnScope N ps (ae st))(len:∀ ds R,S ds R->ds.length=ps.length)
  (a9:∀ (f:GD) (cdv:Da) (A:GN) (outer:List Hl) (s:GE) (H:Hp) (E:XK) (J:Jx),Room k (A.deeper (GX x (ae st) s.heap.objs.size f cdv))->
   ∃ t,DSs (cxOf (Exc.CX1 P w) P w K mg base N x (ae st) f cdv A outer s H E).nox (aF st) t/\∀ ds R,S ds R->t {nx:=λ_=>R .non,rt:=R} (startD N ds)):CalD P w K mg base (k+1) x ps S:=by
 obtain⟨f,fd,T,hb,hm⟩:=T;exact⟨f,fd,T.okD F len λcdv A outer s H E J hr=>a9 f cdv A outer s H E J hr,hb,T.kp,hm⟩
end
def cS:SpD:=λds R=>∃ ns:List Int,ds=[.rol (ns.map D.int)]/\ns.length<=63/\R (.bl true)
def qK{K:xE}{H:Hp}{a:GD}{ns:List Int}(hl:ns.length<=63)(hS:SqL K H a (ns.map V.int)){E:XK}:lSp K cS [.ref a] H (λv _=>v= .bl true) E:=
 ⟨H,[.rol (ns.map D.int)],Same.refl H,reps_cons.mpr ⟨_,_,rfl,rep_rol.mpr ⟨a,_,rfl,hS,Reps.ints.mpr rfl⟩,reps_nil.mpr rfl⟩,λd=>d= .bl true,⟨ns,rfl,hl,rfl⟩,λd v F' H' _ hd rd=>by subst hd;exact rep_bl.mp rd⟩
section
variable {X:Cx}{a b c e:GI}{ta tb tc te:TD}{pos:GV}
def lh[Jx]{x:y8}{p:GV}{es:List GI}{t:TDA}{T:String}{r:List V->Hp->VK->Prop}{rd:RDn}(hc:bz X (.type T) r)(L:cf X.K r rd)(hm:X.mg x=t8)(hv:GY x=be (.type T))(ha:DA X (e::es) t)(hg:Gl X x:=by rfl)(hn:x≠"__name__":=by decide)(d4:zND x:=by decide)
  (he:zSE X e es:=by rfl) (c7:zPL X pos es:=by rfl):DE X (.Call (.Name x p) (e::es) [] pos) (dCB rd t):=(kz hc hg hm hv ha hn d4 he c7).anti λs H Q h=>by
 obtain⟨B,F,z,kf,rs,R,h1,h2⟩:=h;have fh:=kf.fh;refine⟨B,F,z,kf,rs,_,h1,λds vs F1 H1 g1 hx rx=>?_⟩;exact L ds vs F1 H1 R Q g1.fh hx rx λd w F' H' g=>h2 d w F' H' (g1.trans g)
def rdStr:RDn:=λds R=>match ds with|[.int i]=>i.natAbs<18446744073709551616/\R (.str (toString i))|_=>False
def qL{K:xE}:cf K (λxs H Q=>∃ i,xs=[.int i]/\i.natAbs.log2<1920/\Q (.str (toString i)) H) rdStr:=by
 intro ds vs F H R Q fh h rx q;unfold rdStr at h;split at h
 .obtain⟨v,r,rfl,h1,h2⟩:=reps_cons.mp rx;rw[reps_nil.mp h2,rep_int.mp h1];refine⟨_,rfl,?_,q _ _ F H (Grow.refl fh) h.2 (rep_str.mpr rfl)⟩;rename_i i;by_cases h0:i.natAbs=0
  .rw[h0];decide
  .have:=(zU h0).mpr (show i.natAbs<2 ^ 64 from h.1);lia
 .exact h.elim
def eo[Jx]{p:GV}{t:TDA}(hm:X.mg "str"=t8)(ha:WDA X [e] t)(hg:Gl X "str":=by rfl)(he:zSE X e []:=by rfl):WDE X (.Call (.Name "str" p) [e] [] pos) (dCB rdStr t):=⟨have ha:=ha.out;lh oW qL hm PyProof.Rows.boot_str ha hg (by decide) (by decide) he⟩
def rdInt:RDn:=λds R=>match ds with
 |[.int i]=>R (.int i)
 |[.bl k]=>R (.int (if k then 1 else 0))
 |[.str x]=>∃ n,(PySem.intText? x=be n/\x.length<=640)/\R (.int n)
 |_=>False
def ll:bz X (.type "int") (λxs H Q=>((∃ i,xs=[.int i]/\Q (.int i) H)\/∃ k,xs=[.bl k]/\Q (.int (if k then 1 else 0)) H)\/∃ x n,xs=[.str x]/\PySem.intText? x=be n/\x.length<=640/\Q (.int n) H):=by
 intro pins s σ H xs us Q I r h;rcases h with h|⟨x,n,rfl,h1,h2,q⟩
 .exact oV pins s σ H xs us Q I r h
 .obtain⟨u,rfl,t,rfl⟩:=bG r;exact PySem.W.KIN.call_text h1 h2 ⟨.int n,H,I.tok _,⟨_,rfl⟩,q⟩
def lm{K:xE}:cf K (λxs H Q=>((∃ i,xs=[.int i]/\Q (.int i) H)\/∃ k,xs=[.bl k]/\Q (.int (if k then 1 else 0)) H)\/∃ x n,xs=[.str x]/\PySem.intText? x=be n/\x.length<=640/\Q (.int n) H) rdInt:=by
 intro ds vs F H R Q fh h rx q;unfold rdInt at h;split at h
 .obtain⟨v,r,rfl,h1,h2⟩:=reps_cons.mp rx;rw[reps_nil.mp h2,rep_int.mp h1];exact .inl (.inl ⟨_,rfl,q _ _ F H (Grow.refl fh) h (rep_int.mpr rfl)⟩)
 .obtain⟨v,r,rfl,h1,h2⟩:=reps_cons.mp rx;rw[reps_nil.mp h2,rep_bl.mp h1];exact .inl (.inr ⟨_,rfl,q _ _ F H (Grow.refl fh) h (rep_int.mpr rfl)⟩)
 .obtain⟨v,r,rfl,h1,h2⟩:=reps_cons.mp rx;rw[reps_nil.mp h2,rep_str.mp h1];obtain⟨n,⟨e1,e2⟩,h⟩:=h;exact .inr ⟨_,n,rfl,e1,e2,q _ _ F H (Grow.refl fh) h (rep_int.mpr rfl)⟩
 .exact h.elim
def lp[Jx]{p:GV}{t:TDA}(hm:X.mg "int"=t8)(ha:WDA X [e] t)(hg:Gl X "int":=by rfl)(he:zSE X e []:=by rfl):WDE X (.Call (.Name "int" p) [e] [] pos) (dCB rdInt t):=⟨have ha:=ha.out;lh ll lm hm PyProof.Rows.boot_int ha hg (by decide) (by decide) he⟩
def cj:List D->Option (List y8)
 |[]=>be []
 | .str x::r=>(cj r).map (x::·)
 |_=>t8
def lq{K:xE}{F:Hp}:∀ {ds:List D} {xs:List y8} {vs:List V} {us:List Da},cj ds=be xs->Reps K F ds vs->Vals vs us->StrsAre us xs
 |[],xs,vs,us,e,r,q=>by
  cases e;rw[reps_nil.mp r] at q;cases q;exact .nil
 | .str x::ds,xs,vs,us,e,r,q=>by
  obtain⟨v,r',rfl,h1,h2⟩:=reps_cons.mp r;rw[rep_str.mp h1] at q;cases q with
  |cons q1 q2=>
   obtain⟨t,rfl⟩:=q1;cases e2:cj ds with
   |none=>simp[cj,e2] at e
   |some ys=>
    simp[cj,e2] at e;subst e;exact .cons x t (lq e2 h2 q2)
def qM:V->List V->Hp->VK->Prop:=λx vs H Q=>∃ k7 l xs ys,x= .str k7/\vs=[.ref l]/\H l=be (.lst xs)/\(∀ us,Vals xs us->StrsAre us ys)/\(ys.map (·.length)).sum+ys.length*k7.length<=16777216/\Q (.str (Txt.join k7 ys)) H
def qN:MtR X "str.join" qM:=by
 intro pins s σ H x vs v us Q I rx rv h;obtain⟨k7,l,xs,ys,rfl,rfl,hl,hs,hz,q⟩:=h;obtain⟨t,rfl⟩:=rx;obtain⟨u,rfl,ru⟩:=bG rv;cases ru;obtain⟨a_,r,pl,_⟩:=I.list (SqL.of hl);exact PyProof.Rows.join_list pl.isList (by simpa using hs a_ r) hz λt' k=>⟨.str _,H,I.tok _,⟨_,rfl⟩,q⟩
def qO(k7:y8)(te:TD):TD:=λz R=>te z λx=>match x with
 | .lst ds=>∃ ys,cj ds=be ys/\(ys.map (·.length)).sum+ys.length*k7.length<=1000000/\R (.str (Txt.join k7 ys))
 |_=>False
def qP[Jx]{k7:y8}{k:Nat}{p1 apos cpos:GV}(he:WDE X e te)(l_:zSE X e []:=by rfl)
  (b7:GQ (.Constant (.str k7) k p1) "join" X.env (GS (.Constant (.str k7) k p1) X.env)=GS (.Constant (.str k7) k p1) X.env:=by rfl)
  (d6:zHF X cpos [e]:=by rfl)
  (b_:(apos.endLine==cpos.line)=true:=by rfl):WDE X (.Call (.Attribute (.Constant (.str k7) k p1) "join" apos) [e] [] cpos) (qO k7 te):=⟨have he:=he.out;(cQ PySem.F.plainAttrs_str PySem.F.slot_str_join PySem.F.type_str_join qN jJ (aT he pa_nil l_) b7 d6 b_ l_).anti λs H Q q=>by
 obtain⟨B,F,z,kf,rs,R,h1,h2⟩:=q;have fh:=kf.fh;refine⟨rfl,?_⟩;refine⟨B,F,z,kf,rs,_,h1,λx u F1 H1 g1 hx rx=>?_⟩;split at hx
 .obtain⟨ys,e1,e2,hx⟩:=hx;obtain⟨l,vs,rfl,hq,rr⟩:=rep_lst.mp rx;exact⟨k7,l,vs,ys,rfl,rfl,g1.fh _ _ hq,λus q=>lq e1 rr q,xR e2 (by decide),h2 _ _ F1 H1 g1 hx (rep_str.mpr rfl)⟩
 .exact hx.elim⟩
def dOix(i:Nat)(tb:TD):TD:=λz R=>match z[i]? with
 |some (be (.own ds))=>tb z λy=>match y with| .int k=>∃ d,atI ds k=be d/\R d|_=>False
 |_=>False
def et[Jx](i:Nat){x:y8}{p:GV}(hb:WDE X b tb)(hN:X.N[i]?=be x:=by rfl)(hv:Vis X.env.scope x:=by first|exact Or.inl rfl|exact Or.inr (Or.inl rfl)|exact Or.inr (Or.inr rfl))(hd:zND x:=by decide)
  (e_:zNC x:=by decide) (hs:cP b:=by exact λ_ _=>rfl):WDE X (.Subscript (.Name x p) b pos) (dOix i tb):=⟨have hb:=hb.out;(pe_ix ix_list (cN hN hv hd e_) hb hs).anti λs H Q q=>by
 obtain⟨B,F,z,kf,rs,R,h1,h2⟩:=q;have fh:=kf.fh;unfold dOix at h1;split at h1
 .rename_i ds ez;obtain⟨a,vs,q1,q2,q3,q4,q5⟩:=rs.own i ds ez;refine⟨.ref a,q1,B,F,z,kf,rs,_,h1,λy v F1 H1 g1 hy ry=>?_⟩;split at hy
  .obtain⟨d,e1,hR⟩:=hy;obtain⟨w,e2,j6⟩:=(q5.mono g1.ff).at e1;exact⟨a,vs,_,w,rfl,rep_int.mp ry,SqL.of (g1.hh _ _ q2),e2,h2 d w F1 H1 g1 hR j6⟩
  .exact hy.elim
 .exact h1.elim⟩
def cutD(xs:List D)(lo hi:Option Int):List D:=(xs.drop (HT.sIx xs.length 0 lo)).take (HT.sIx xs.length xs.length hi - HT.sIx xs.length 0 lo)
def Reps.drop{K:xE}{F:Hp}:∀ (n:Nat) {xs:List D} {us:List V},Reps K F xs us->Reps K F (xs.drop n) (us.drop n)
 |0,_,_,r=>r
 |n+1,[],us,r=>by rw[reps_nil.mp r];exact reps_nil.mpr rfl
 |n+1,x::xs,us,r=>by
  obtain⟨u,ur,rfl,_,a2⟩:=reps_cons.mp r;exact Reps.drop n a2
def Reps.take{K:xE}{F:Hp}:∀ (n:Nat) {xs:List D} {us:List V},Reps K F xs us->Reps K F (xs.take n) (us.take n)
 |0,_,_,_=>reps_nil.mpr rfl
 |n+1,[],us,r=>by rw[reps_nil.mp r];exact reps_nil.mpr rfl
 |n+1,x::xs,us,r=>by
  obtain⟨u,ur,rfl,a1,a2⟩:=reps_cons.mp r;exact reps_cons.mpr ⟨u,_,rfl,a1,Reps.take n a2⟩
def qQ{es:List GI}{k:Nat}{t:TGs}{n:Nat}(hc:X.calm=true)(h:PGs X es t)(hn:(GT es X.env).length=n:=by rfl)(n_:(GT es X.env).findIdx? (·.1)=none:=by rfl):
  PG X (.Tuple es k pos) (λv σ H Q=>∃ a xs,v= .ref a/\SqL X.K H a xs/\xs.length=n/\t xs σ H Q):=by
 intro pins s σ H v u Q I r hw;obtain⟨a,xs,e1,hq,hl,hw⟩:=hw;subst e1;cases r;obtain⟨a_,rv,pl,hz⟩:=I.list hq;have e2:(GT es X.env).length=a_.toArray.size:=by simp[hn,<- hl,rv.length]
 rw[PyProof.Rows.assign_Tuple];refine GG (HJ ?_);unfold unpack;rw[e2,n_];refine GG (Hj (kun_itemsOf (I.ok.hd hc) pl.isList λh' hx=>?_));have I1:Inv X pins σ H {s with heap:=h'}:=I.kept (t':=s.toks) λb o e=>hx b o (xM (Heap.lt_size e)) e;exact h pins _ σ H xs _ Q I1 (by simpa using rv) hw
def qR(is:List Nat)(te:TD):TSD:=λE z=>te z λx=>match x with| .lst ds=>ds.length=is.length/\E.nx (ci is ds z)|_=>False
def lr[Jx]{es:List GI}{k:Nat}{is:List Nat}{p:GV}(hc:X.calm=true)(he:WDE X e te)(hg:DGs X es is)(hn:(GT es X.env).length=is.length:=by rfl)(n_:(GT es X.env).findIdx? (·.1)=none:=by rfl)
  (hs:swapsWithSole [.Tuple es k p] e pos.line X.env=pure false:=by rfl) (hw:swappedStores [.Tuple es k p] e X.env=pure none:=by rfl) (h1:(GT [.Tuple es k p] X.env).map (·.2)=[Ih (.Tuple es k p) X.env]:=by rfl):WDS X (.Assign [.Tuple es k p] e pos) (qR is te):=⟨by
 have he:=he.out;obtain⟨u,hu,kk⟩:=hg;refine(oq he (qQ hc hu hn n_) hs hw h1).anti λE s H q=>?_;obtain⟨B,F0,F,z,k,rs,ED,h,e⟩:=q;refine⟨B,F,z,k.kf,rs,_,h,λd v F' H' g hd rd=>?_⟩;split at hd
 .obtain⟨p,vs,rfl,hq,rr⟩:=rep_lst.mp rd;exact⟨p,vs,rfl,SqL.of (g.fh _ _ hq),by rw[rr.length];exact hd.1,kk _ vs z s B F' H' _ hd.1 rr (rs.grow g) λs' r'=>e.nx _ _ F' H' (k.grow g) hd.2 r'⟩
 .exact hd.elim⟩
end
end My
namespace L2
structure CompScope(X:Cx)(scope:Hm)(x:Str):Prop where
 kind:scope.kind= .function
 nocell:∀ y∈scope.names,y.2≠.cell
 names:∀ y∈scope.names,y.2= .local->scope.names.lookup y.1=be .local
 own:scope.names.lookup x=be .local
 free:∀ n,(n,NameKind.free)∈scope.names->X.env.kindOf n=be .cell
 vis:∀ n∈X.N,n≠x->Vis (relabel scope X.env) n->(n,NameKind.free)∈scope.names
 empty:¬ Vis (relabel scope X.env) ("":y8)
 cells:∀ n,(n,NameKind.free)∈scope.names->(relabel scope X.env).names.lookup n=be .cell
 nd:(X.N.map (λn=>if n=x then("":y8) else n)++[x]).Nodup
end L2
namespace My
def okB:Bool->Bool->Prop->Prop->Prop
 |_,true,A,_=>A
 |false,false,_,B=>B
 |true,false,_,_=>False
def cmpG(nf:Bool)(tt:TDT)(te:TD)(z:SD)(R:D->Prop)(c5:List D):Prop:=c5.length<=100000/\∃ W:Nat->List D->Prop,W 0 []/\(∀ k x ys,c5[k]?=be x->(nf=true->ys.length=k)->W k ys->tt (z++[be x]) λb=>okB nf b (te (z++[be x]) λy=>W (k+1) (ys++[y])) (W (k+1) ys))/\∀ ys,(nf=true->ys.length=c5.length)->W c5.length ys->R (.lst ys)
def cmpF(tt:TDT)(te:TD)(z:SD)(R:D->Prop)(c5:List D):Prop:=c5.length<=100000/\∃ W:Nat->List D->Prop,W 0 []/\(∀ k x ys,c5[k]?=be x->W k ys->tt (z++[be x]) λb=>okB false b (te (z++[be x]) λy=>W (k+1) (ys++[y])) (W (k+1) ys))/\∀ ys,W c5.length ys->R (.lst ys)
def cmpP(te:TD)(z:SD)(R:D->Prop)(c5:List D):Prop:=c5.length<=100000/\∃ W:Nat->List D->Prop,W 0 []/\(∀ k x ys,c5[k]?=be x->ys.length=k->W k ys->te (z++[be x]) λy=>W (k+1) (ys++[y]))/\∀ ys,ys.length=c5.length->W c5.length ys->R (.lst ys)
def dT1:TDT:=λ_ R=>R true
section
variable {X:Cx}
variable {D' iter:GI}{Gh:List GI}{x:y8}{px pos:GV}{scope:Hm}{ti te:TD}{tt:TDT}{wi:TI}{Gi:TDI}
def cmpP.g{z:SD}{R:D->Prop}{c5:List D}(h:cmpP te z R c5):cmpG true dT1 te z R c5:=
 let ⟨hz,W,w0,d0,out⟩:=h
 ⟨hz,W,w0,λk x ys e l w=>d0 k x ys e (l rfl) w,λys l w=>out ys (l rfl) w⟩
def cmpF.g{z:SD}{R:D->Prop}{c5:List D}(h:cmpF tt te z R c5):cmpG false tt te z R c5:=
 let ⟨hz,W,w0,d0,out⟩:=h
 ⟨hz,W,w0,λk x ys e _ w=>d0 k x ys e w,λys _ w=>out ys w⟩
end
def putD(f:y8)(v:D):List (y8 × D)->List (y8 × D)
 |[]=>[(f,v)]
 |(g,x)::r=>if g=f then(g,v)::r else(g,x)::putD f v r
def RepF.put{K:xE}{F:Hp}{f:y8}{d:D}{v:V}(r:Rep K F d v):∀ {fs:List (y8 × D)} {ws:List (y8 × V)},RepF K F fs ws->RepF K F (putD f d fs) (putF f v ws)
 |[],ws,h=>by
  rw[repf_nil.mp h];exact repf_cons.mpr ⟨v,[],rfl,r,repf_nil.mpr rfl⟩
 |(g,x)::fs,ws,h=>by
  obtain⟨w,z9,rfl,h1,h2⟩:=repf_cons.mp h;unfold putD putF;by_cases e:g=f
  .rw[if_pos e,if_pos e];exact repf_cons.mpr ⟨v,z9,rfl,r,h2⟩
  .rw[if_neg e,if_neg e];exact repf_cons.mpr ⟨w,_,rfl,h1,RepF.put r h2⟩
def RepF.length{K:xE}{F:Hp}:∀ {fs:List (y8 × D)} {ws:List (y8 × V)},RepF K F fs ws->ws.length=fs.length
 |[],ws,h=>by rw[repf_nil.mp h];rfl
 |(g,x)::fs,ws,h=>by
  obtain⟨w,z9,rfl,h1,h2⟩:=repf_cons.mp h;rw[xG,xG,RepF.length h2]
def ClsA(K:xE)(x f:y8):Prop:=∃ C,nsIn K GF x=be (be (.ref C))/\Cls K C/\NoAttr K C f
section
variable {X:Cx}{a b c e:GI}{ta tb tc te:TD}{pos:GV}
def lu[Jx]{x:y8}{d:D}{v:V}{u:Da}(hm:X.mg x=be u)(r:RelV v u)(rd:∀ H,Rep X.K H d v)(hg:Gl X x:=by rfl)(hd:zND x:=by decide):DE X (.Name x pos) (dC d):=de_c (nR hg hm r hd) rd
def eu[Jx]{x:y8}{i:Int}(h:∃ t,X.mg x=be (.int i t))(hg:Gl X x:=by rfl)(hd:zND x:=by decide):WDE X (.Name x pos) (dC (.int i)):=⟨by
 obtain⟨t,h⟩:=h;exact lu (v:= .int i) h ⟨t,rfl⟩ (λ_=>rep_int.mpr rfl) hg hd⟩
def gx[Jx]{x y:y8}(h:∃ t,X.mg x=be (.str y t))(hg:Gl X x:=by rfl)(hd:zND x:=by decide):WDE X (.Name x pos) (dC (.str y)):=⟨by
 obtain⟨t,h⟩:=h;exact lu (v:= .str y) h ⟨t,rfl⟩ (λ_=>rep_str.mpr rfl) hg hd⟩
structure ClsI(K:xE)(mg:Str->Option Da)(x:Str)(C:GD):Prop where
 ns:nsIn K GF x=be (be (.ref C))
 mg:mg x=be (.ref C)
 cl:Cls K C
 ha:xI K (.ref C) "__class__"=be (be (.builtin "object.__class__"))
 hn:specialIn K (.builtin "object.__class__") "__get__"=be (be (.builtin "getset_descriptor.__get__"))
 htk:takesIn K (.builtin "object.__class__")=be true
 hm:yn K C (.type "object")=be true
 self:kitOne K (.ref C) (.ref C)=be true
end
abbrev SiD:=List D->(List (y8 × D)->Prop)->Prop
def lSi(K:xE)(C:GD)(S:SiD):Sp:=λvs H Q _=>∃ a dx us H1 F ds,vs= .ref a::us/\H=upd (upd H1 dx (.own a)) a (.ins C dx [])/\H1 a=t8/\H1 dx=t8/\dx≠a/\Same F H1/\Reps K F ds us/\
 ∃ R:List (y8 × D)->Prop,S ds R/\∀ fs ws u5 F' H',Grow F H1 F' H'->R fs->H' a=be (.ins C u5 ws)->F' a=t8->RepF K F' fs ws->Q .non H'
def CalM(P:GH)(w:GM)(K:xE)(mg:y8->Option Da)(base:Heap)(n:Nat)(x:y8)(ps:List y8)(S:SiD):Prop:=
 ∃ C f fd,nsIn K GF x=be (be (.ref C))/\mg x=be (.ref C)/\Mk K C f/\FnOk P w K mg base (Exc.CX1 P w) n f fd ps (lSi K C S)/\Binds K fd ps []
def qS(x:y8)(S:SiD)(t:TDA):TD:=λz R=>t z λds=>S ds λfs=>R (.obj x fs)
def gy[Jx]{X:Cx}{pos:GV}{n m:Nat}{ps:List y8}{S:SiD}{x:y8}{p:GV}{e:GI}{es:List GI}{t:TDA}(M:CalM X.prog X.w X.K X.mg X.base n x ps S)(hr:Room m X.A)(ha:WDA X (e::es) t)(hg:Gl X x:=by rfl)(hn:n+1<=m:=by decide)(d4:zND x:=by decide)
  (he:zSE X e es:=by rfl) (c7:zPL X pos es:=by rfl):WDE X (.Call (.Name x p) (e::es) [] pos) (qS x S t):=⟨by
 have ha:=ha.out;obtain⟨C,f,fd,f9,i7,mk,F,hb⟩:=M;refine(gd mk F (hr.mono hn) hg i7 hb .nil dw ha d4 he c7).anti λs H Q q=>?_;obtain⟨B,F,z,kf,rs,R,h1,h2⟩:=q;have fh:=kf.fh;refine⟨B,F,z,kf,rs,_,h1,λds vs F1 H1 g1 hx rx=>?_⟩;intro a dx ha p6 i8;refine⟨a,dx,vs,H1,F1,ds,by rw[yd],rfl,ha,p6,i8,g1.fh,rx,_,hx,λfs ws u5 F' H' g hR d9 ge rf=>⟨rfl,?_⟩⟩;have s1:Same F' (upd F' a (.ins C u5 ws)):=aU ge _;refine h2 (.obj x fs) (.ref a) (upd F' a (.ins C u5 ws)) H' ⟨(g1.ff.trans g.ff).trans s1,λb o q=>?_,g1.hh.trans g.hh,λb q1 q2=>?_⟩ hR (rep_obj.mpr ⟨a,C,u5,ws,rfl,f9,az,RepF.mono s1 fs ws rf⟩)
 .by_cases hb:b=a
  .subst hb;rw[az] at q;cases q;exact d9
  .rw[aj hb] at q;exact g.fh b o q
 .by_cases hb:b=a
  .subst hb;exact absurd (g1.hh.free ha) q2
  .rw[aj hb];exact(g1.trans g).out b q1 q2⟩
abbrev TID:=SD->List (y8 × D)->(List (y8 × D)->Prop)->Prop
def lI(K:xE)[J:Jx](x:y8)(t:TID):TS:=λE σ H=>∃ C a dx ws F z fs,nsIn K GF x=be (be (.ref C))/\σ[0]?=be (be (.ref a))/\H a=be (.ins C dx ws)/\J.B a=t8/\F a=t8/\Kept J.B J.F0 F H/\RepS K J.B F H z σ/\RepF K F fs ws/\
 ∃ R:List (y8 × D)->Prop,t z fs R/\∀ h8 z9 F' H',Kept J.B J.F0 F' H'->R h8->H' a=be (.ins C dx z9)->F' a=t8->RepF K F' h8 z9->E.nx σ H'
abbrev DI(X:Cx)[Jx](x:y8)(st:List GK)(t:TID):Prop:=PSs X st (lI X.K x t)
structure WDI(X:Cx)[Jx](x:Str)(st:List GK)(t:TID):Prop where
 out:DI X x st t
section
variable {X:Cx}{x f:y8}{e:GI}{te:TD}{pos c8 p:GV}{rest:List GK}{tr:TID}
def lv:TID:=λ_ fs R=>R fs
def qT(f:y8)(te:TD)(tr:TID):TID:=λz fs R=>te z λd=>fs.length<1000/\tr z (putD f d fs) R
def cx[Jx]:WDI X x [] lv:=⟨pss_nil.anti λE s H q=>by
 obtain⟨C,a,dx,ws,F,z,fs,hn,h0,d9,u6,ge,g,rs,rf,R,hR,k⟩:=q;exact k fs ws F H g hR d9 ge rf⟩
def RepS.other{K:xE}{B F H:Hp}{z:SD}{σ:L2.St}{a:GD}{o o':HO}(rs:RepS K B F H z σ)(h:H a=be o)(hl:∀ vs,o≠.lst vs):RepS K B F (upd H a o') z σ:=
 ⟨rs.len,rs.val,λi ds e=>by
  obtain⟨b,vs,q1,q2,q⟩:=rs.own i ds e;have ne:b≠a:=by
   rintro rfl;rw[h] at q2;cases q2;exact hl vs rfl
  exact⟨b,vs,q1,by rw[aj ne];exact q2,q⟩,rs.apart⟩
def bc[J:Jx]{ps:GV}{sx:y8}(hA:ClsA X.K x f)(he:WDE X e te)(hr:WDI X x rest tr)(hN:X.N[0]?=be sx:=by rfl)(hv:Vis X.env.scope sx:=by first|exact Or.inl rfl|exact Or.inr (Or.inl rfl)|exact Or.inr (Or.inr rfl))(hd:zND sx:=by decide)
  (e_:zNC sx:=by decide) (hs:G2 e (be (.Attribute (.Name sx ps) f c8)) pos.line X.env=pure false:=by rfl):WDI X x (.Assign [.Attribute (.Name sx ps) f c8] e pos::rest) (qT f te tr):=⟨have he:=he.out;have hr:=hr.out;(dg (ko (cN (i:=0) hN hv hd e_) he hs) hr).anti λE s H q=>by
 obtain⟨C,a,dx,ws,F,z,fs,hn,h0,d9,u6,ge,g,rs,rf,R,hR,k⟩:=q;obtain⟨C',g5,hc,hf⟩:=hA;rw[hn] at g5;cases g5;refine⟨_,F,z,g,rs,_,hR,λd v F2 H2 g2 hx rv=>?_⟩;have k2:=g.grow g2;have D_:=g2.hh a _ d9;have Ea:F2 a=none:=g2.out a ge (by rw[d9];exact λz=>nomatch z);refine⟨.ref a,h0,a,C,dx,ws,rfl,D_,hc,hf,by rw[rf.length];exact hx.1,?_⟩;have Fi:Same F2 (upd H2 a (.ins C dx (putF f v ws))):=λb o q=>by
  have ne:b≠a:=by rintro rfl;rw[Ea] at q;cases q
  rw[aj ne];exact g2.fh b o q
 have w9:Same J.B (upd H2 a (.ins C dx (putF f v ws))):=λb o q=>by
  have ne:b≠a:=by rintro rfl;rw[u6] at q;cases q
  rw[aj ne];exact k2.bh b o q
 exact⟨C,a,dx,putF f v ws,F2,z,putD f d fs,hn,h0,az,u6,Ea,⟨w9,Fi,k2.f0,k2.out,k2.eb,k2.jf,k2.jo⟩,(rs.grow g2).other D_ (λ_ z=>nomatch z),RepF.put rv (RepF.mono g2.ff fs ws rf),R,hx.2,k⟩⟩
end
section
variable {P:GH}{w:GM}{K:xE}{mg:y8->Option Da}{base:Heap}
def lw{K:xE}{B F H:Hp}{z:SD}{σ:L2.St}{v:V}(rs:RepS K B F H z σ):RepS K B F H (t8::z) (be v::σ):=
  ⟨by rw[xG,xG,rs.len],λi d e no=>by
    cases i with
    |zero=>cases e
    |succ i=>exact rs.val i d e no,λi ds e=>by
    cases i with
    |zero=>cases e
    |succ i=>exact rs.own i ds e,λi j di dj a e1 e2 e3 e4=>by
    cases i with
    |zero=>cases e1
    |succ i=>
      cases j with
      |zero=>cases e2
      |succ j=>rw[rs.apart i j di dj a e1 e2 e3 e4]⟩
def Cls.okI{x qual:y8}{st:GK}{f C:GD}{fd:GR}{N:List y8}{p0:y8}{ps:List y8}{k:Nat}{S:SiD}(T:Fun K "__init__" qual st f fd)(hb:Binds K fd (p0::ps) [])(F:FnScope (p0::N) (p0::ps) (ae st))(len:∀ ds R,S ds R->ds.length=ps.length)
  (f9:nsIn K GF x=be (be (.ref C))) (i7:mg x=be (.ref C)) (mk:Mk K C f)
  (a9:∀ (cdv:Da) (A:GN) (outer:List Hl) (s:GE) (H:Hp) (E:XK) (J:Jx),Room k (A.deeper (GX qual (ae st) s.heap.objs.size f cdv))->
   ∃ t,DI (cxOf (Exc.CX1 P w) P w K mg base (p0::N) qual (ae st) f cdv A outer s H E).nox x (aF st) t/\∀ ds R,S ds R->t (t8::startD N ds) [] R):CalM P w K mg base (k+1) x (p0::ps) S:=by
 refine⟨C,f,fd,f9,i7,mk,Fun.okC T F (λvs H Q E h=>?_) (λcdv A outer s H vs Q E hr h=>?_),hb⟩
 .obtain⟨a,dx,us,H1,F,ds,rfl,_,_,_,_,_,rs,R,h,_⟩:=h;rw[xG,xG,rs.length,len ds R h]
 .obtain⟨a,dx,us,H1,F1,ds,rfl,rfl,ha,p6,i8,fh,rs,R,h,q⟩:=h
  letI:Jx:=⟨H1,F1,λ_ _ _=>False⟩
  obtain⟨t,ht,hq⟩:=a9 cdv A outer s _ E inferInstance hr;have Fa:F1 a=none:=fh.free ha;have hl:L2.start (p0::N) (.ref a::us)=be (.ref a)::L2.start N us:=by
   unfold L2.start;rw[xN,xG,xG,zV];rfl
  have s1:Same H1 (upd (upd H1 dx (.own a)) a (.ins C dx [])):=(aU p6 _).trans (aU (by rw[aj (Ne.symm i8)];exact ha) _);refine⟨_,ht.nox,C,a,dx,[],F1,t8::startD N ds,[],f9,by rw[hl];rfl,az,ha,Fa,⟨s1,fh.trans s1,Same.refl F1,λ_ h _=>h,rfl,Same.refl F1,λ_ h _=>h⟩,?_,repf_nil.mpr rfl,R,hq ds R h,λh8 z9 F' H' g hR d9 ge rf=>q h8 z9 dx F' H' ⟨g.f0,g.fh,g.bh,g.out⟩ hR d9 ge rf⟩;rw[hl];exact lw (dz rs)
end
section
variable {X:Cx}{a b c e:GI}{ta tb tc te:TD}{pos:GV}
def qU(t u:TD):TDI:=λz R=>t z λx=>u z λy=>match x,y with| .int i,.int j=>(-(2 ^ 62)<=i/\i<2 ^ 62/\-(2 ^ 62)<=j/\j<2 ^ 62)/\R ((xY (j - i).toNat).map λk=>D.int (i+((k:Nat):Int)))|_,_=>False
def qV[Jx](i:Nat){x:y8}{p p1 p2:GV}{body:List GK}{A9:TSD}(hp:G7 (GJ X.prog X.w) X.A X.env X.xe)(hc:X.calm=true)(hN:X.N.Nodup)(hm:X.mg "range"=t8)(ha:WDE X a ta)(gt:WDE X b tb)(hb:WDSs X body A9)(hg:Gl X "range":=by rfl)(hi:X.N[i]?=be x:=by rfl)(hx:Loc X.env.scope x:=by first|exact Or.inl rfl|exact Or.inr rfl)
  (hf:zFN X x:=by first|exact .inl rfl|exact .inr rfl|assumption) (hs:∀ y,zFS X (.Call (.Name "range" p1) [a,b] [] p2) y:=by exact λ_=>rfl) (n5:zSE X a [b]:=by rfl) (z_:zSE X b []:=by rfl) (f_:GO [a,b] X.env=[(false,GS a X.env),(false,GS b X.env)]:=by rfl) (Ax:GO [b] X.env=[(false,GS b X.env)]:=by rfl):WDS X (.For (.Name x p) (.Call (.Name "range" p1) [a,b] [] p2) body [] pos) (dFor i (qU ta tb) A9):=⟨have ha:=ha.out;have gt:=gt.out;have hb:=hb.out;(cO hp hc (oA hg hm (aT ha (aT gt pa_nil z_) n5) f_ Ax) (dh hN hi hx hf) hb hs).anti λE s H q=>by
 obtain⟨B,F0,F,z,kp,rs,ED,h,e⟩:=q;refine⟨B,F,z,kp.kf,rs,_,h,λd1 v1 F1 H1 g1 h1 r1=>?_⟩;refine⟨B,F1,z,kp.kf.grow g1,rs.grow g1,_,h1,λd2 v2 F2 H2 g2 h2 r2=>?_⟩;split at h2
 .rename_i lo k8;obtain⟨bd,W,w0,d0,out⟩:=h2;have hl:((xY (k8 - lo).toNat).map λk=>D.int (lo+((k:Nat):Int))).length=(k8 - lo).toNat:=by simp
  refine⟨lo,k8,by rw[rep_int.mp r1,rep_int.mp r2],bd,fW (lo:=lo) (n:=(k8 - lo).toNat) (λk s' H'=>∃ F' z',Kept B F0 F' H'/\RepS X.K B F' H' z' s'/\W k z') ⟨F2,z,(kp.grow g1).grow g2,(rs.grow g1).grow g2,w0⟩ ?_ ?_⟩
  .rintro k s' H' hk ⟨F',z',k',r',w'⟩;exact⟨B,F0,F',_,k',r'.set (d:= .int (lo+(k:Int))) (rep_int.mpr rfl),_,d0 k (.int (lo+(k:Int))) z' (by simp[hk]) w',⟨λz3 s3 F3 H3 k3 h3 r3=>⟨F3,z3,k3,r3,h3⟩,e.rt,e.nx,λz3 s3 F3 H3 k3 h3 r3=>⟨F3,z3,k3,r3,h3⟩⟩⟩
  .rintro s' H' ⟨F',z',k',r',w'⟩;exact e.nx z' s' F' H' k' (out z' (by rw[hl];exact w')) r'
 .exact h2.elim⟩
def RepS.change[Jx]{K:xE}{B F0 F H:Hp}{z:SD}{s:L2.St}{i:Nat}{ds Cr:List D}{a:GD}{k9:List V}(rs:RepS K B F H z s)(k:Kept B F0 F H)(ez:z[i]?=be (be (.own ds)))(q1:s[i]?=be (be (.ref a)))(hB:B a=t8)(hF:F a=t8)(r:Reps K F Cr k9):
  Kept B F0 F (upd H a (.lst k9))/\RepS K B F (upd H a (.lst k9)) (z.set i (be (.own Cr))) s:=by
 have HR:∀ {G:Hp},G a=t8->Same G H->Same G (upd H a (.lst k9)):=λ{G} ga gs b o eb=>by
  have ne:b≠a:=λz=>by rw[z,ga] at eb;cases eb
  rw[aj ne];exact gs b o eb
 have r2:=rs.setOwn (i:=i) (a:=a) (vs:=k9) (ds:=Cr) hB hF r (λj dj hj e1 e2=>hj (rs.apart j i dj ds a e1 ez e2 q1));have es:s.set i (be (.ref a))=s:=by
  apply zu;intro n;by_cases hn:i=n
  .subst hn;rw[yf (xO.mp q1).1,q1]
  .rw[xL hn]
 rw[es] at r2;exact⟨⟨HR hB k.bh,HR hF k.fh,k.f0,k.out,k.eb,k.jf,k.jo⟩,r2⟩
end
end My
namespace My
open Exc
abbrev XD:=y8->List (y8 × D)->Prop
def ErrD(K:xE)(F:Hp)(x:y8)(fs:List (y8 × D))(C:GD)(od:Option GD):Prop:=
 nsIn K GF x=be (be (.ref C))/\∃ vs,RepF K F fs vs/\((od=t8/\vs=[])\/∃ b,od=be b/\F b=be (.xd vs))
abbrev SpX:=List D->(D->Prop)->XD->Prop
def lSpX(K:xE)(S:SpX):Sp:=λvs H Q E=>∃ F ds,Same F H/\Reps K F ds vs/\∃ (R:D->Prop) (RX:XD),S ds R RX/\(∀ d v F' H',Grow F H F' H'->R d->Rep K F' d v->Q v H')/\
 ∀ x fs C od F' H',Grow F H F' H'->RX x fs->ErrD K F' x fs C od->E (.ref C) od H'
def Exd(X:Cx)(H:Hp)(s:GE)(e C:GD)(od:Option GD):Prop:=
  H e=t8/\X.s₀.heap.get? e=t8/\(∀ p∈X.pn,p.1≠e)/\
  ((∃ sl vs,s.heap.get? e=be ⟨.ref C,od,.fields vs,sl⟩/\vs[1]?=be .none)\/
    ∃ T,ExAt s.heap e C od T .none/\X.s₀.heap.get? T=t8/\H T=t8/\∀ p∈X.pn,p.1≠T)
def XOk(X:Cx)[J:Jx]:Prop:=∀ (σ:L2.St) (z:SD) (F H:Hp) (s:GE) (e C:GD) (od:Option GD) (x:y8) (fs:List (y8 × D)),Inv X [] σ H s->Kept J.B J.F0 F H->RepS X.K J.B F H z σ->J.RX z x fs->ErrD X.K F x fs C od->Exd X H s e C od->X.xe (.ref e) s
def Inv.nopins{X:Cx}{pins:List (GD × GZ)}{σ:L2.St}{H:Hp}{s:GE}(I:Inv X pins σ H s):Inv X [] σ H s:=I.pins_of λp hp=>by cases hp
section
variable {X:Cx}{k:Nat}{f:GD}{fd:GR}{ps:List y8}{sp:Sp}{E:XK}
def eA{pins:List (GD × GZ)}{σ:L2.St}{H:Hp}{s:GE}{Q:VK}{us:List Da}{vs:List V}(F:FnOk X.prog X.w X.K X.mg X.base (CX1 X.prog X.w) k f fd ps sp)(hr:Room k X.A)(hb:Binds X.K fd ps [])
  (hx:∀ e s',CX1 X.prog X.w X.stack H s E e s'->X.xe e s') (I:Inv X pins σ H s) (r:Vals vs us) (h:sp vs H Q E):GL (GJ X.prog X.w) X.A (call (.ref f) us) (EP X pins σ Q) X.xe s:=by
 have hl:us.length=ps.length:=by rw[<- L2.Vals.length r];exact F.len _ _ _ _ h
 have gt:=hb s us I.kIn (by rw[yd];exact hl);rw[yd] at gt;refine Hd (Hc (F.run X.A X.stack s H ⟨us,[]⟩ us vs Q E hr I.env0 gt r h) λr s' hq=>?_);cases r with
 |error e=>exact hx e s' hq
 |ok fl=>
  cases fl with
  |ret u=>exact I.after hq
  |next=>exact False.elim hq
  |brk=>exact False.elim hq
  |cont=>exact False.elim hq
end
def bW{X:Cx}{pins:List (GD × GZ)}{σ:L2.St}{H:Hp}{s:GE}{b:GD}(I:Inv X pins σ H s)(hex:X.ex=[])(q:s.heap.get? b=t8):X.s₀.heap.get? b=none:=by
 cases z:X.s₀.heap.get? b with
 |none=>rfl
 |some o=>
  obtain⟨o',z'⟩:=I.base.there b o z (by rw[hex];simp);rw[q] at z';cases z'
def pn_free{X:Cx}{pins:List (GD × GZ)}{σ:L2.St}{H:Hp}{s:GE}{b:GD}(I:Inv X pins σ H s)(q:s.heap.get? b=t8):∀ p∈X.pn,p.1≠b:=λp hp z=>by
 have:=(I.pin p (yB _ hp)).1;rw[z,q] at this;cases this
def XOk.out{X:Cx}[J:Jx](hx:XOk X)(hex:X.ex=[]){pins:List (GD × GZ)}{σ:L2.St}{z:SD}{H:Hp}{s s':GE}{ev:Da}(I:Inv X pins σ H s)
  (h:CX1 X.prog X.w X.stack H s (λCv od H'=>∃ x fs C F',Cv= .ref C/\Kept J.B J.F0 F' H'/\RepS X.K J.B F' H' z σ/\J.RX z x fs/\ErrD X.K F' x fs C od) ev s'):X.xe ev s':=by
 obtain⟨e,C,od,T,H',rfl,Cs,hb,un,hok,Ct,ne,nT,He,HT,x,fs,C',F',hC,kk,rr,hR,er⟩:=h;cases hC;have I':Inv X pins σ H' s':=I.call' Cs un hok hb (λb z=>absurd z (by simp));exact hx σ z F' H' s' e C od x fs (Inv.nopins I') kk rr hR er ⟨He,bW I hex ne,pn_free I ne,.inr ⟨T,Ct,bW I hex nT,HT,pn_free I nT⟩⟩
abbrev CalX(P:GH)(w:GM)(K:xE)(mg:y8->Option Da)(base:Heap)(n:Nat)(x:y8)(ps:List y8)(S:SpX):Prop:=Cal P w K mg base n x ps (lSpX K S)
def qW[J:Jx](S:SpX)(t:TDA):TD:=λz R=>t z λds=>S ds R (J.RX z)
def qX{X:Cx}[J:Jx]{pos:GV}{n m:Nat}{ps:List y8}{S:SpX}{x:y8}{p:GV}{e:GI}{es:List GI}{t:TDA}(C:CalX X.prog X.w X.K X.mg X.base n x ps S)(hx:XOk X)(hr:Room m X.A)(ha:WDA X (e::es) t)(hex:X.ex=[]:=by rfl)(hg:Gl X x:=by rfl)(hn:n<=m:=by decide)(d4:zND x:=by decide)
  (he:zSE X e es:=by rfl) (c7:zPL X pos es:=by rfl):WDE X (.Call (.Name x p) (e::es) [] pos) (qW S t):=⟨by
 have ha:=ha.out;obtain⟨f,fd,F,hb,hk,hm⟩:=C;intro pins s σ H Q I h;obtain⟨B,Fr,z,kf,rs,R,h1,h2⟩:=h;obtain rfl:B=J.B:=kf.eb;refine GU (bL I hg hm ?_ d4);refine callWith_K (h₀:=X.base) I.ok.mod.kin hk (thn (ha pos pins s σ H (λvs H1=>lSpX X.K S vs H1 Q (λCv od H'=>∃ x fs C F',Cv= .ref C/\Kept J.B J.F0 F' H'/\RepS X.K J.B F' H' z σ/\J.RX z x fs/\ErrD X.K F' x fs C od)) I ⟨_,Fr,z,kf,rs,_,h1,λds vs F1 H1 g1 hx rx=>?_⟩) λus s1 ⟨vs,H1,I1,r,q⟩=>⟨I1.kIn,?_⟩) he c7
 .exact⟨F1,ds,g1.fh,rx,R,J.RX z,hx,λd v F' H' g=>h2 d v F' H' (g1.trans g),λx fs C od F' H' g hR er=>⟨x,fs,C,F',rfl,(kf.grow g1).grow g,(rs.grow g1).grow g,hR,er⟩⟩
 .exact eA F (hr.mono hn) hb (λe s' hq=>hx.out hex I1 hq) I1 r q⟩
section
variable {P:GH}{w:GM}{K:xE}{mg:y8->Option Da}{base:Heap}
def qY{N:List y8}{qual:y8}{scope:Hm}{f:GD}{cd:Da}{A:GN}{outer:List Hl}{s:GE}{H:Hp}{E':XK}{pins:List (GD × GZ)}{σ:L2.St}{H':Hp}{s':GE}{e C T:GD}{od:Option GD}
  (I':Inv (cxOf (CX1 P w) P w K mg base N qual scope f cd A outer s H E') pins σ H' s') (hx:ExAt s'.heap e C od T .none) (ne:s.heap.get? e=t8) (nT:s.heap.get? T=t8) (He:H' e=t8) (HT:H' T=t8) (hE:E' (.ref C) od H'):
  (cxOf (CX1 P w) P w K mg base N qual scope f cd A outer s H E').xe (.ref e) s':=by
 show GL _ _ (HS _ _) _ _ _;unfold HS;refine GG (kJ I'.ok.frames I'.stack rfl hx λh2 T2 m9 o_ l0=>flight_none (s:={s' with heap:=h2}) m9 λh3 A7 td=>?_);have t_:s'.heap.get? T2=none:=Heap.get?_none_of_le o_;have f1:∀ b,s'.heap.get? b=t8->s.heap.get? b=none:=λb q=>bW I' rfl q;have hok:HOk P w H' s'.heap:=I'.hok;have w6:H' T2=none:=hok.fresh o_;have Fj:∀ b∈[T,e],s.heap.get? b=none:=λb hb=>by
  rcases xJ.mp hb with z|z
  .rw[z];exact nT
  .rw[xF.mp z];exact ne
 have u2:Un (frs outer) [] H H' s.heap h2:=dS (show Un (frs outer) [] H H' s.heap s'.heap from I'.base) l0 Fj λb hb=>kK hb;have u3:Un (frs outer) [] H H' s.heap h3:=dS u2 td (λb hb=>by rw[xF.mp hb];exact f1 T2 t_) λb hb=>by cases hb
 have k2:=dv hok l0 (λb hb=>I'.stkFree b hb) (λb hb=>by
  rcases xJ.mp hb with z|z
  .rw[z];exact HT
  .rw[xF.mp z];exact He)
 have k3:=dv k2 td (λb hb=>by cases hb) (λb hb=>by rw[xF.mp hb];exact w6);exact⟨e,C,od,T2,H',rfl,I'.os,I'.bare,u3,k3,A7,ne,f1 T2 t_,He,w6,hE⟩
end
def ObjOk.there{P:GH}{w:GM}{H:Hp}{h:Heap}{a:GD}{o:HO}(x:ObjOk P w H h a o):∃ u,h.get? a=be u:=by
 cases o with
 |lst xs=>obtain⟨_,_,_,_,e⟩:=x;exact⟨_,e⟩
 |tup xs=>obtain⟨_,_,_,o,e,_⟩:=x;exact⟨_,e⟩
 |dK a8=>obtain⟨_,_,_,_,o,_,_,e,_⟩:=x;exact⟨_,e⟩
 |dT a8=>obtain⟨_,_,_,_,o,_,_,e,_⟩:=x;exact⟨_,e⟩
 |set S n=>obtain⟨o,_,_,_,e,_⟩:=x;exact⟨_,e⟩
 |ins C dx fs=>obtain⟨_,_,_,e,_⟩:=x;exact⟨_,e⟩
 |own y=>exact x
 |xd fs=>obtain⟨_,⟨_,_,_,e,_⟩,_⟩:=x;exact⟨_,e⟩
 |rng lo hi=>obtain⟨_,_,_,e⟩:=x;exact⟨_,e⟩
 |frz ob u=>obtain⟨e,_⟩:=x;exact⟨_,e⟩
 |tbl ps=>exact⟨_,(show h.get? a=be _ from x)⟩
 |met f y=>exact⟨_,(show h.get? a=be _ from x)⟩
 |ext φ=>obtain⟨_,e,_⟩:=x;exact e
def eB{P:GH}{w:GM}{H:Hp}{h:Heap}{a:GD}(x:HOk P w H h)(e:h.get? a=t8):H a=none:=by
 cases q:H a with
 |none=>rfl
 |some o=>
  obtain⟨u,hu⟩:=ObjOk.there (x a o q);rw[e] at hu;cases hu
def del(H:Hp)(a:GD):Hp:=λb=>if b=a then t8 else H b
def dG{H:Hp}{a:GD}:del H a a=none:=by unfold del;rw[if_pos rfl]
def bB{H:Hp}{a b:GD}(h:b≠a):del H a b=H b:=by unfold del;rw[if_neg h]
section
variable {X:Cx}{pins:List (GD × GZ)}{σ:L2.St}{H:Hp}{s:GE}{e:GD}
def Inv.drop{φ:Heap->Prop}(I:Inv X pins σ H s)(h:H e=be (.ext φ))(ne:X.s₀.heap.get? e=t8):Inv X pins σ (del H e) s:=by
 have nx:∀ b o,H b=be o->(∀ φ,o≠.ext φ)->b≠e:=λb o q n z=>by rw[z,h] at q;cases q;exact n φ rfl
 refine⟨I.ok,I.os,I.bare,⟨I.base.keep,I.base.slot,λb o q n hx=>?_,I.base.there,λb xs q=>?_,λb o u q=>?_,λb ps q=>?_⟩,I.loc,I.cell,?_,λx c q=>?_,λp hp=>?_,λa o q=>?_,I.len⟩
 .have:b≠e:=λz=>by rw[z,ne] at q;cases q
  rw[bB this];exact I.base.free b o q n hx
 .have:=I.base.tups b xs q;rw[bB (nx b _ this λφ z=>nomatch z)];exact this
 .have:=I.base.frzs b o u q;rw[bB (nx b _ this λφ z=>nomatch z)];exact this
 .obtain⟨m,this⟩:=I.base.tbls b ps q;exact⟨m,by rw[bB (nx b _ this λφ z=>nomatch z)];exact this⟩
 .by_cases z:X.env.locals=e
  .rw[z];exact dG
  .rw[bB z];exact I.free
 .by_cases z:c=e
  .rw[z];exact dG
  .rw[bB z];exact I.freeC x c q
 .obtain⟨h1,h2,h3⟩:=I.pin p hp;refine⟨h1,?_,h3⟩;by_cases z:p.1=e
  .rw[z];exact dG
  .rw[bB z];exact h2
 .by_cases z:a=e
  .rw[z,dG] at q;cases q
  .rw[bB z] at q;exact(I.hok a o q).stay (λb u _ r=>r) (λb r=>by rw[bB (nx b _ r λφ z=>nomatch z)];exact r) λb xs r=>by rw[bB (nx b _ r λφ z=>nomatch z)];exact r
def Inv.adopt{φ:Heap->Prop}(I:Inv X pins σ H s)(He:H e=t8)(ok:ObjOk X.prog X.w H s.heap e (.ext φ))(ne:X.s₀.heap.get? e=t8)(hl:e≠X.env.locals)(hc:∀ x c,X.env.cells.lookup x=be c->c≠e)(hp:∀ p∈X.pn++pins,p.1≠e):Inv X pins σ (upd H e (.ext φ)) s:=by
 refine⟨I.ok,I.os,I.bare,⟨I.base.keep,I.base.slot,λb o q n hx=>?_,I.base.there,λb xs q=>?_,λb o u q=>?_,λb ps q=>?_⟩,I.loc,I.cell,?_,λx c q=>?_,λp AJ=>?_,λa o q=>?_,I.len⟩
 .have:b≠e:=λz=>by rw[z,ne] at q;cases q
  rw[aj this];exact I.base.free b o q n hx
 .have:=I.base.tups b xs q;rw[aj (bo this He)];exact this
 .have:=I.base.frzs b o u q;rw[aj (bo this He)];exact this
 .obtain⟨m,this⟩:=I.base.tbls b ps q;exact⟨m,by rw[aj (bo this He)];exact this⟩
 .rw[aj (Ne.symm hl)];exact I.free
 .rw[aj (hc x c q)];exact I.freeC x c q
 .obtain⟨h1,h2,h3⟩:=I.pin p AJ;refine⟨h1,?_,h3⟩;rw[aj (hp p AJ)];exact h2
 .by_cases z:a=e
  .rw[z,az] at q;cases q;rw[z];exact ok
  .rw[aj z] at q;exact(I.hok a o q).stay (λb u _ r=>r) (λb r=>by rw[aj (bo r He)];exact r) λb xs r=>by rw[aj (bo r He)];exact r
end
structure ErrK(K:xE)(mg:Str->Option Da)(x:Str)(C N:GD)(bm:List Da):Prop where
 ns:nsIn K GF x=be (be (.ref C))
 mg:mg x=be (.ref C)
 kp:keepIn K (.ref C)=true
 obj:∃ nm q bs sn sub ab col dd k0 k1 k2 k3 k5,K.lookup C=be (G0 nm q C N bs bm true sn sub ab col dd k0 k1 k2 k3 k5 "ValueError.__new__")
 tail:tailIn K veLine bm=true
structure ErrN(K:xE)(N:GD):Prop where
 ok:nsOkIn K N=true
 no:nsIn K N "__init__"=be t8
def gz{K:xE}:∀ {l:List Da},tailIn K veLine l=true->aD l=true
 |[],e=>by simp[tailIn,veLine] at e
 |v::r,e=>by
  unfold tailIn at e;rcases Bool.or_eq_true_iff.mp e with q|q
  .rw[beq_iff_eq.mp q];decide+kernel
  .split at q
   .split at q
    .simp only[yb,beq_iff_eq] at q;unfold aD;exact gz q.2
    .cases q
   .cases q
def ErrK.base{K:xE}{mg:y8->Option Da}{x:y8}{C N:GD}{bm:List Da}(k:ErrK K mg x C N bm):bm.contains (.type "BaseException")=true:=du (by decide+kernel) (gz k.tail)
def XN(e C:GD)(od:Option GD):HO:= .ext λh=>∃ t sl,h.get? e=be ⟨.ref C,od,.fields #[.ref t,.none,.none,.none,.bool false,.none],sl⟩
def XN.ok{P:GH}{w:GM}{H:Hp}{h:Heap}{e C t:GD}{od:Option GD}{sl:Array (Option Da)}(q:h.get? e=be ⟨.ref C,od,.fields #[.ref t,.none,.none,.none,.bool false,.none],sl⟩):ObjOk P w H h e (XN e C od):=
 ⟨⟨t,sl,q⟩,⟨_,q⟩,λh1 h2 ⟨t,sl,q⟩ k=>⟨t,sl,k _ q⟩⟩
def XN.get{P:GH}{w:GM}{H:Hp}{h:Heap}{e C:GD}{od:Option GD}(x:HOk P w H h)(q:H e=be (XN e C od)):∃ t sl,h.get? e=be ⟨.ref C,od,.fields #[.ref t,.none,.none,.none,.bool false,.none],sl⟩:=(x e _ q).1
def ErrF(K:xE)(F:Hp)(fs:List (y8 × D))(od:Option GD):Prop:=∃ vs,RepF K F fs vs/\((od=t8/\vs=[])\/∃ b,od=be b/\F b=be (.xd vs))
def lEi(K:xE)(C:GD)(S:SiD):Sp:=λvs H Q _=>∃ e us H1 F ds,vs= .ref e::us/\H=upd H1 e (XN e C t8)/\H1 e=t8/\Same F H1/\Reps K F ds us/\
 ∃ R:List (y8 × D)->Prop,S ds R/\∀ fs od F' H',Grow F H1 F' H'->R fs->H' e=be (XN e C od)->F' e=t8->ErrF K F' fs od->Q .non H'
def CalE(P:GH)(w:GM)(K:xE)(mg:y8->Option Da)(base:Heap)(n:Nat)(x:y8)(ps:List y8)(S:SiD):Prop:=
 ∃ C N bm f fd,ErrK K mg x C N bm/\xI K (.ref C) "__init__"=be (be (.ref f))/\isFn K (.ref f)=true/\FnOk P w K mg base (CX1 P w) n f fd ps (lEi K C S)/\Binds K fd ps []
section
variable {X:Cx}{pins:List (GD × GZ)}{σ:L2.St}{H:Hp}{s:GE}{e:GD}
def Inv.newx{C:GD}{h':Heap}{us:List Da}(I:Inv X pins σ H s)(hex:X.ex=[])(hm:Heap.MadeExcOf s.heap h' e (.ref C) us):Inv X pins σ (upd H e (XN e C t8)) {s with heap:=h'}:=by
 obtain⟨ta,h1,h2,h3⟩:=hm.there;have I2:Inv X pins σ H {s with heap:=h'}:=I.kept (t':=s.toks) hm.keeps;refine Inv.adopt I2 (eB I.hok hm.new) (XN.ok h1) (bW I hex hm.new) (λz=>?_) (λx c q z=>?_) λp hp z=>?_
 .obtain⟨m,⟨o,_,_,ho,_⟩,_⟩:=I.loc;rw[<- z,hm.new] at ho;cases ho
 .obtain⟨v,o,ho,_⟩:=I.cell x c q;rw[z,hm.new] at ho;cases ho
 .have:=(I.pin p hp).1;rw[z,hm.new] at this;cases this
end
structure BaseK(K:xE)(mg:Str->Option Da)(y:Str)(M:GD):Prop where
 mg:mg y=be (.ref M)
 rd:readsIn K M (.type "type")=true
 fc:findCls K (.ref M) (.type "type") "__init__"=be (.val (.builtin "ValueError.__init__"))
 sp:specialIn K (.ref M) "__getattribute__"=be (be (.builtin "type.__getattribute__"))
structure ErrA(K:xE)(x:Str)(C:GD)(cd:ClassData):Prop where
 ns:nsIn K GF x=be (be (.ref C))
 cl:zv K C=be cd
 mro:aD cd.mro=true
 hd:cd.hasDict=true
 sa:xI K (.ref C) "__setattr__"=be (be (.builtin "object.__setattr__"))
def ErrK.a{x:y8}{K:xE}{mg:y8->Option Da}{C N:GD}{bm:List Da}(k:ErrK K mg x C N bm)(sa:xI K (.ref C) "__setattr__"=be (be (.builtin "object.__setattr__"))):∃ cd,ErrA K x C cd:=by
 obtain⟨nm,q,bs,sn,sub,ab,col,dd,k0,k1,k2,k3,k5,lk⟩:=k.obj;exact⟨_,k.ns,by unfold zv;rw[lk],by
  show aD (.ref C::bm)=true;unfold aD;exact gz k.tail,rfl,sa⟩
def lX(K:xE)[J:Jx](x:y8)(t:TID):TS:=λE σ H=>∃ C e od ws F z fs,nsIn K GF x=be (be (.ref C))/\σ[0]?=be (be (.ref e))/\H e=be (XN e C od)/\J.B e=t8/\F e=t8/\Kept J.B J.F0 F H/\RepS K J.B F H z σ/\RepF K F fs ws/\
 ((od=t8/\ws=[])\/∃ b,od=be b/\H b=be (.xd ws)/\J.B b=t8/\F b=t8/\b≠e/\ws≠[])/\
 ∃ R:List (y8 × D)->Prop,t z fs R/\∀ h8 BO F' H',Kept J.B J.F0 F' H'->R h8->H' e=be (XN e C BO)->F' e=t8->ErrF K F' h8 BO->E.nx σ H'
abbrev DX(X:Cx)[Jx](x:y8)(st:List GK)(t:TID):Prop:=PSs X st (lX X.K x t)
structure WDX(X:Cx)[Jx](x:Str)(st:List GK)(t:TID):Prop where
 out:DX X x st t
def qZ{H:Hp}{a:GD}{o:HO}(h:H a=be o):upd H a o=H:=by
 funext b;unfold upd;by_cases q:b=a
 .rw[if_pos q,q,h]
 .rw[if_neg q]
section
variable {X:Cx}[J:Jx]{x f:y8}{e:GI}{te:TD}{ta:TDA}{pos c8 p:GV}{rest:List GK}{tr:TID}
def lx:WDX X x [] lv:=⟨pss_nil.anti λE s H q=>by
 obtain⟨C,a,od,ws,F,z,fs,hn,h0,d9,hB,ge,k,rs,rf,hd,R,hR,kk⟩:=q;rcases hd with⟨rfl,rfl⟩|⟨b,rfl,hb,BP,BQ,ne,_⟩
 .exact kk fs t8 F H k hR d9 ge ⟨[],rf,.inl ⟨rfl,rfl⟩⟩
 .have s1:Same F (upd F b (.xd ws)):=aU BQ _;refine kk fs (be b) (upd F b (.xd ws)) H ⟨k.bh,λc o q=>?_,k.f0.trans s1,λc h1 h2=>?_,k.eb,k.jf,k.jo⟩ hR d9 (by rw[aj (Ne.symm ne)];exact ge) ⟨ws,RepF.mono s1 fs ws rf,.inr ⟨b,rfl,az⟩⟩
  .by_cases hc:c=b
   .subst hc;rw[az] at q;cases q;exact hb
   .rw[aj hc] at q;exact k.fh c o q
  .have:c≠b:=λz=>h2 (z ▸ BP);rw[aj this];exact k.out c h1 h2⟩
def ra(ta:TDA)(tr:TID):TID:=λz fs R=>ta z λds=>ds.length<=1000/\tr z fs R
def ly{y sx:y8}{ps py apos cpos:GV}{es:List GI}{pl:Il Bool}(hb:∃ M,BaseK X.K X.mg y M)(hA:∃ C cd,ErrA X.K x C cd)(ha:WDA X es ta)(hr:WDX X x rest tr)(hg:Gl X y:=by rfl)(hN:X.N[0]?=be sx:=by rfl)(hv:Vis X.env.scope sx:=by first|exact Or.inl rfl|exact Or.inr (Or.inl rfl)|exact Or.inr (Or.inr rfl))(hd:zND sx:=by decide)
  (e_:zNC sx:=by decide) (Fk:zND y:=by decide)
  (he:GO (.Name sx ps::es) X.env=(false,GS (.Name sx ps) X.env)::GO es X.env:=by rfl) (c7:zPL X cpos es:=by rfl)
  (ht:GS (.Call (.Attribute (.Name y py) "__init__" apos) (.Name sx ps::es) [] cpos) X.env=(do
   let ov <- GS (.Name y py) X.env
   Hu apos.atName
   let (f,first) <- HU [ov] (Hz ov "__init__" pl)
   callWith cpos f first (Ha cpos (GO (.Name sx ps::es) X.env)) (Hr cpos (G' [] X.env))):=by rfl)
  (hs:G2 (.Call (.Attribute (.Name y py) "__init__" apos) (.Name sx ps::es) [] cpos) t8 pos.line X.env=pure false:=by rfl):WDX X x (.Expr (.Call (.Attribute (.Name y py) "__init__" apos) (.Name sx ps::es) [] cpos) pos::rest) (ra ta tr):=⟨by
 have ha:=ha.out;have hr:=hr.out;obtain⟨M,bk⟩:=hb;obtain⟨C,cd,er⟩:=hA;have step:PS X (.Expr (.Call (.Attribute (.Name y py) "__init__" apos) (.Name sx ps::es) [] cpos) pos) (λE σ H=>∃ C' e od,nsIn X.K GF x=be (be (.ref C'))/\σ[0]?=be (be (.ref e))/\
   lA X.K ta σ H (λvs H1=>H1 e=be (XN e C' od)/\vs.length<=1000/\E.nx σ H1)):=by
  intro pins s σ H D I h;obtain⟨C',ea,od,hn,h0,h⟩:=h;rw[er.ns] at hn;cases hn;refine wpAny_Expr_any (methodCall_KW (pl:=pl) (bL I hg bk.mg ?_ Fk) ht) I.quiet hs;refine method_cls I.kIn bk.sp (cls_value I.kIn bk.rd bk.fc (by decide+kernel) ?_);have I0:Inv X pins σ H {s with toks:=s.toks+1}:=I.tok _;obtain⟨B,F,z,kf,rs,R,h1,h2⟩:=h;refine PyProof.Rows.callWith_builtin1 (thn (aT (cN (i:=0) hN hv hd e_) ha he cpos pins _ σ H (λvs H1=>∃ us,vs= .ref ea::us/\H1 ea=be (XN ea C od)/\us.length<=1000/\D.nx σ H1) I0 ⟨.ref ea,h0,⟨B,F,z,kf,rs,R,h1,λds vs F' H' g hx rx=>⟨vs,rfl,h2 ds vs F' H' g hx rx⟩⟩⟩) λus s1 hh=>?_) he c7;obtain⟨vs,H1,I1,r,Gj,ev,p7,hl,A'⟩:=hh;subst ev;cases r with
  |cons r1 r2=>
   rename_i u0 Gk;obtain rfl:u0=Value.ref ea:=r1;obtain⟨t0,sl,g8⟩:=XN.get I1.hok p7;refine pY (K:=X.K) (C:=C) (cd:=cd) I1.kIn g8 rfl rfl er.cl er.mro (by rw[<- L2.Vals.length r2];exact sz hl) λh' g1 g2=>?_;refine⟨σ,H1,?_,A'⟩;have w:=I1.write (x:=ea) (e:=ea) (o:=XN ea C od) (h':=h') (t':=s1.toks) (by rw[p7];exact True.intro) (.inl rfl) (λb u hb q=>g2 b u hb q) ⟨_,g1⟩ (XN.ok g1);rw[qZ p7] at w;exact w
 refine(dg step hr).anti λE s H q=>?_;obtain⟨C',a,od,ws,F,z,fs,hn,h0,d9,hB,ge,k,rs,rf,f6,R,hR,kk⟩:=q;refine⟨C',a,od,hn,h0,_,F,z,k,rs,_,hR,λds vs F1 H1 g hx rx=>⟨g.hh a _ d9,by rw[rx.length];exact hx.1,?_⟩⟩;refine⟨C',a,od,ws,F1,z,fs,hn,h0,g.hh a _ d9,hB,g.out a ge (by rw[d9];exact λz=>nomatch z),k.grow g,rs.grow g,RepF.mono g.ff fs ws rf,?_,R,hx.2,kk⟩;rcases f6 with f6|⟨b,h1,h2,h3,h4,h5⟩
 .exact .inl f6
 .exact .inr ⟨b,h1,g.hh b _ h2,h3,g.out b h4 (by rw[h2];exact λz=>nomatch z),h5⟩⟩
def rb(f:y8)(te:TD)(tr:TID):TID:=λz fs R=>fs=[]/\te z λd=>tr z [(f,d)] R
def lz{sx:y8}{ps:GV}(hA:∃ C cd,ErrA X.K x C cd)(hf:∀ C,nsIn X.K GF x=be (be (.ref C))->xI X.K (.ref C) f=be t8)(he:WDE X e te)(hr:WDX X x rest tr)(hN:X.N[0]?=be sx:=by rfl)(hv:Vis X.env.scope sx:=by first|exact Or.inl rfl|exact Or.inr (Or.inl rfl)|exact Or.inr (Or.inr rfl))(hd:zND sx:=by decide)
  (e_:zNC sx:=by decide) (hs:G2 e (be (.Attribute (.Name sx ps) f c8)) pos.line X.env=pure false:=by rfl):WDX X x (.Assign [.Attribute (.Name sx ps) f c8] e pos::rest) (rb f te tr):=⟨by
 have he:=he.out;have hr:=hr.out;obtain⟨C,cd,er⟩:=hA;have A_:=hf C er.ns;have step:PS X (.Assign [.Attribute (.Name sx ps) f c8] e pos) (λE σ H=>∃ e,σ[0]?=be (be (.ref e))/\
   lE X.K te σ H (λv H1=>H1 e=be (XN e C t8)/\∀ b,H1 b=t8->b≠e->E.nx σ (upd (upd H1 b (.xd [(f,v)])) e (XN e C (be b))))):=by
  intro pins s σ H D I h;obtain⟨ea,h0,h⟩:=h;refine Hx (thn (he pins s σ H _ I h) λu s1 ⟨y,H1,I1,ry,p7,A'⟩=>thn (cN (i:=0) hN hv hd e_ pins s1 σ H1 (λv H'=>v= .ref ea/\H'=H1) I1 ⟨.ref ea,h0,rfl,rfl⟩) λov s2 hh=>?_) hs;obtain⟨v0,H2,I2,r0,e1,e2⟩:=hh;subst e1 e2;obtain rfl:ov=Value.ref ea:=r0;obtain⟨t0,sl,g8⟩:=XN.get I2.hok p7;refine pW (K:=X.K) (C:=C) (cd:=cd) I2.kIn g8 rfl rfl rfl er.cl er.mro er.hd er.sa A_ λh' g1 g2 g3 tk=>?_;have hfr:H2 s2.heap.objs.size=none:=I2.hok.fresh (xH _);have i8:s2.heap.objs.size≠ea:=yC (Heap.lt_size g8);have Cu:∀ b o,s2.heap.get? b=be o->b≠s2.heap.objs.size:=λb o q=>xM (Heap.lt_size q);have Cw:∀ b,H2 b=t8->b≠ea:=λb q z=>by rw[z,p7] at q;cases q
  refine⟨σ,_,?_,A' _ hfr i8⟩;have Ba:∀ b o,H2 b=be o->(∀ φ,o≠.ext φ)->upd (upd H2 s2.heap.objs.size (.xd [(f,y)])) ea (XN ea C (be s2.heap.objs.size)) b=be o:=λb o q n=>by
   have n1:b≠ea:=λz=>by rw[z,p7] at q;cases q;exact n _ rfl
   rw[aj n1,aj (bo q hfr)];exact q
  refine I2.un (h':=h') (t':=tk) ⟨λb o q n _ _=>g3 b o (Cw b n) q,λb o q n _ _=>⟨o.slots,g3 b o (Cw b n) q⟩,λb o q n _=>?_,λb o q _=>?_,λb xs q=>Ba b _ q (λφ z=>nomatch z),λb o u q=>Ba b _ q (λφ z=>nomatch z),λb ps q=>⟨#[],by rw[Ba b _ q (λφ z=>nomatch z)];simp⟩⟩ λa o q=>?_
  .rw[aj (Cw b n),aj (Cu b o q)];exact n
  .by_cases hb:b=ea
   .rw[hb];exact⟨_,g1⟩
   .exact⟨o,g3 b o hb q⟩
  .by_cases ha:a=ea
   .subst ha;rw[az] at q;cases q;exact XN.ok g1
   .rw[aj ha] at q;by_cases hb:a=s2.heap.objs.size
    .subst hb;rw[az] at q;cases q;refine⟨_,g2,λg=>?_⟩;rw[xZ];by_cases hg:g=f
     .subst hg;simp;exact ry
     .have:(g==f)=false:=by simpa using hg
      rw[this,if_neg hg];exact True.intro
    .rw[aj hb] at q;refine(I2.hok a o q).stay (λb u gt r=>?_) (λb r=>Ba b _ r (λφ z=>nomatch z)) λb xs r=>Ba b _ r (λφ z=>nomatch z);refine g3 b u (λz=>?_) r;rcases gt with e1|e1
     .exact ha (e1 ▸ z)
     .rw[z,p7] at e1;cases e1
 refine(dg step hr).anti λE s H q=>?_;obtain⟨C',a,od,ws,F,z,fs,hn,h0,d9,hB,ge,k,rs,rf,f6,R,⟨rfl,hR⟩,kk⟩:=q;rw[er.ns] at hn;cases hn;have Fl:ws=[]:=repf_nil.mp rf;subst Fl;refine⟨a,h0,_,F,z,k,rs,_,hR,λd v F1 H1 g hx rv=>?_⟩;have Bb:F1 a=none:=g.out a ge (by rw[d9];exact λz=>nomatch z);have k1:=k.grow g;rcases f6 with⟨rfl,_⟩|⟨b,rfl,h1,h2,h3,h4⟩
 .refine⟨g.hh a _ d9,λb hb i8=>?_⟩;have BP:J.B b=none:=k1.bh.free hb;have BQ:F1 b=none:=k1.fh.free hb;have HR:∀ {G:Hp},G a=t8->G b=t8->Same G H1->Same G (upd (upd H1 b (.xd [(f,v)])) a (XN a C (be b))):=λ{G} ga gb gs c o q=>by
   have n1:c≠a:=λz=>by rw[z,ga] at q;cases q
   have n2:c≠b:=λz=>by rw[z,gb] at q;cases q
   rw[aj n1,aj n2];exact gs c o q
  have t6:=rs.grow g;refine⟨C,a,be b,[(f,v)],F1,z,[(f,d)],er.ns,h0,az,hB,Bb,⟨HR hB BP k1.bh,HR Bb BQ k1.fh,k1.f0,k1.out,k1.eb,k1.jf,k1.jo⟩,?_,repf_cons.mpr ⟨v,[],rfl,rv,repf_nil.mpr rfl⟩,.inr ⟨b,rfl,by rw[aj i8];exact az,BP,BQ,i8,λz=>nomatch z⟩,R,hx,kk⟩;refine⟨t6.len,t6.val,λi ds e'=>?_,t6.apart⟩;obtain⟨c,vs,q1,q2,q⟩:=t6.own i ds e';have n1:c≠a:=λz=>by rw[z,g.hh a _ d9] at q2;cases q2
  have n2:c≠b:=λz=>by rw[z,hb] at q2;cases q2
  exact⟨c,vs,q1,by rw[aj n1,aj n2];exact q2,q⟩
 .exact absurd rfl h4.2⟩
end
section
variable {P:GH}{w:GM}{K:xE}{mg:y8->Option Da}{base:Heap}
def Cls.okE{x qual:y8}{st:GK}{f C N0:GD}{bm:List Da}{fd:GR}{N:List y8}{p0:y8}{ps:List y8}{k:Nat}{S:SiD}(T:Fun K "__init__" qual st f fd)(hb:Binds K fd (p0::ps) [])(F:FnScope (p0::N) (p0::ps) (ae st))(len:∀ ds R,S ds R->ds.length=ps.length)
  (ek:ErrK K mg x C N0 bm) (hi:xI K (.ref C) "__init__"=be (be (.ref f))) (hf:isFn K (.ref f)=true)
  (a9:∀ (cdv:Da) (A:GN) (outer:List Hl) (s:GE) (H:Hp) (E:XK) (J:Jx),Room k (A.deeper (GX qual (ae st) s.heap.objs.size f cdv))->
   ∃ t,DX (cxOf (CX1 P w) P w K mg base (p0::N) qual (ae st) f cdv A outer s H E).nox x (aF st) t/\∀ ds R,S ds R->t (t8::startD N ds) [] R):CalE P w K mg base (k+1) x (p0::ps) S:=by
 refine⟨C,N0,bm,f,fd,ek,hi,hf,Fun.okC T F (λvs H Q E h=>?_) (λcdv A outer s H vs Q E hr h=>?_),hb⟩
 .obtain⟨a,us,H1,F,ds,rfl,_,_,_,rs,R,h,_⟩:=h;rw[xG,xG,rs.length,len ds R h]
 .obtain⟨a,us,H1,F1,ds,rfl,rfl,ha,fh,rs,R,h,q⟩:=h
  letI:Jx:=⟨H1,F1,λ_ _ _=>False⟩
  obtain⟨t,ht,hq⟩:=a9 cdv A outer s _ E inferInstance hr;have Fa:F1 a=none:=fh.free ha;have hl:L2.start (p0::N) (.ref a::us)=be (.ref a)::L2.start N us:=by
   unfold L2.start;rw[xN,xG,xG,zV];rfl
  have s1:Same H1 (upd H1 a (XN a C t8)):=aU ha _;refine⟨_,ht.nox,C,a,t8,[],F1,t8::startD N ds,[],ek.ns,by rw[hl];rfl,az,ha,Fa,⟨s1,fh.trans s1,Same.refl F1,λ_ h _=>h,rfl,Same.refl F1,λ_ h _=>h⟩,?_,repf_nil.mpr rfl,.inl ⟨rfl,rfl⟩,R,hq ds R h,λh8 BO F' H' g hR d9 ge er=>q h8 BO F' H' ⟨g.f0,g.fh,g.bh,g.out⟩ hR d9 ge er⟩;rw[hl];exact lw (dz rs)
end
section
variable {M:H0}{A:GN}{E:Da->GE->Prop}{h:Heap}{g:Array H4}{d:Drawn}{t:Nat}{os:OsState}
variable {nm q:y8}{C N:GD}{bs bm:List Da}{hdct:Bool}{sn:List y8}{sub:List Da}{ab:Bool}{col:Option Bool}{dd:Option GD}{k0 k1 k2 k3 k5:Option Da}{newId:String}
variable {Cy q':y8}{C' N':GD}{Cz Bc:List Da}{Bd:Bool}{CA:List y8}{Ay:List Da}{CB:Bool}{Az:Option Bool}{Be:Option GD}{CC CD CF CG CH:Option Da}{AA:String}
def lB{e:GD}{oe:GZ}{b:Bool}{Q:Bool->GE->Prop}(hC:h.get? C=be (G0 nm q C N bs bm hdct sn sub ab col dd k0 k1 k2 k3 k5 newId))(hD:h.get? C'=be (G0 Cy q' C' N' Cz Bc Bd CA Ay CB Az Be CC CD CF CG CH AA))
  (he:h.get? e=be oe) (n9:oe.cls= .ref C) (b7:Bc.contains (.type "BaseException")=true) (hb:(Value.ref C::bm).contains (.ref C')=b) (hq:Q b ⟨h,g,d,t,os⟩):GL M A (excMatches (.ref e) (.ref C')) Q E ⟨h,g,d,t,os⟩:=by
 have Co:(Value.ref C'::Bc).contains (.type "BaseException")=true:=by rw[zr,b7,yZ]
 have f:=tc_notTuple;unfold excMatches
 repeat(first|(with_reducible refine GW he ?_;rw[n9])|with_reducible refine GW hD ?_|(with_reducible refine Hb hD ?_;rw[Co])|(with_reducible refine Hb hC ?_;rw[hb])|wp_step)
 cases b with
 |true=>wp_walk;exact hq
 |false=>wp_walk;exact hq
end
abbrev _root_.L2.Cx.held(X:Cx)(e:GD):Cx:={X with A:=X.A.mark (be (.ref e)),calm:=false,xe:=λ_ _=>False}
section
variable {X:Cx}{pins:List (GD × GZ)}{σ:L2.St}{H:Hp}{s:GE}{e:GD}
def Cx.Ok.held(ok:X.Ok):(X.held e).Ok:=
 ⟨ok.mod,ok.kind,ok.glob,ok.blt,ok.above,ok.inj,ok.has,ok.cab,(λz=>nomatch z),ok.frames,ok.stk,ok.exf,ok.bs,ok.bsz,ok.noex,ok.exfs,ok.funs,ok.frf⟩
def Inv.held(I:Inv X pins σ H s):Inv (X.held e) pins σ H s:=⟨Cx.Ok.held I.ok,I.os,I.bare,I.base,I.loc,I.cell,I.free,I.freeC,I.pin,I.hok,I.len⟩
def Inv.unheld(ok:X.Ok)(I:Inv (X.held e) pins σ H s):Inv X pins σ H s:=⟨ok,I.os,I.bare,I.base,I.loc,I.cell,I.free,I.freeC,I.pin,I.hok,I.len⟩
def SP.unheld{D:Ends}{f:Flow}{s':GE}(ok:X.Ok)(h:SP (X.held e) pins D f s'):SP X pins D f s':=by
 cases f with
 |next=>obtain⟨σ',H',I,q⟩:=h;exact⟨σ',H',Inv.unheld ok I,q⟩
 |brk=>obtain⟨σ',H',I,q⟩:=h;exact⟨σ',H',Inv.unheld ok I,q⟩
 |cont=>obtain⟨σ',H',I,q⟩:=h;exact⟨σ',H',Inv.unheld ok I,q⟩
 |ret u=>obtain⟨v,σ',H',I,r,q⟩:=h;exact⟨v,σ',H',Inv.unheld ok I,r,q⟩
def eD{M:H0}{A:GN}{E:Da->GE->Prop}{i:Nat}{x:y8}{pos:GV}{Q:Unit->GE->Prop}(I:Inv X pins σ H s)(hN:X.N.Nodup)(hi:X.N[i]?=be x)(hk:X.env.scope.names.lookup x=be .local)
  (h:∀ s',Inv X pins (σ.set i t8) H s'->Q () s'):GL M A (do bindName X.env x .none;unbindBehindTheSuite X.env x pos) Q E s:=by
 obtain⟨m,hn,hl⟩:=id I.loc;have n9:(X.env.scope.kind== .class||(X.env.scope.kind== .module && X.env.locals !=X.env.globals))=false:=by rw[I.ok.kind];rfl
 have hiσ:i<σ.length:=by rw[I.len];exact(xO.mp hi).1
 have cne:=I.cne;refine wpAny_nameGoes_keeps hk hn n9 λh' v g5 hs=>?_;obtain⟨oL,_,_,DU,_⟩:=id hn;have d_:HOk X.prog X.w H h':=λb ob e=>by
  refine(I.hok b ob e).stay (λc w' hc q=>(hs.2 c ?_).trans q) (λ_ q=>q) λ_ _ q=>q;rintro rfl;rcases hc with rfl|hc
  .rw[I.free] at e;cases e
  .rw[I.free] at hc;cases hc
 refine h _ ⟨I.ok,I.os,I.bare,⟨λb o e n hb hx=>?_,λb o e n hb hx=>?_,I.base.free,λb o e hx=>?_,I.base.tups,I.base.frzs,I.base.tbls⟩,⟨_,g5,λj y v' e1 e2 e3=>?_⟩,λy c e=>?_,I.free,I.freeC,λp hp=>?_,d_,by simpa using I.len⟩
 .exact(hs.2 b (xM (xV (Heap.lt_size e) I.ok.above))).trans (I.base.keep b o e n hb hx)
 .obtain⟨sl,e1⟩:=I.base.slot b o e n hb hx;exact⟨sl,(hs.2 b (xM (xV (Heap.lt_size e) I.ok.above))).trans e1⟩
 .obtain⟨o',e1⟩:=I.base.there b o e hx;exact⟨o',(hs.2 b (xM (xV (Heap.lt_size e) I.ok.above))).trans e1⟩
 .by_cases hj:j=i
  .subst hj;rw[yf hiσ] at e2;cases e2
  .rw[xL (Ne.symm hj)] at e2;obtain⟨u',r',q⟩:=hl j y v' e1 e2 e3;refine⟨u',r',?_⟩;rcases q with⟨k,e⟩|⟨k,c,e,z⟩
   .refine .inl ⟨k,?_⟩;have:y≠x:=λe=>hj (fS hN e1 (e ▸ hi));simp[this,e]
   .exact .inr ⟨k,c,e,z.sameBut hs (cne y c e)⟩
 .obtain⟨w',z⟩:=I.cell y c e;exact⟨w',z.sameBut hs (cne y c e)⟩
 .obtain⟨e,n,ne,nf,d⟩:=I.pin p hp;exact⟨(hs.2 p.1 ne).trans e,n,ne,nf,d⟩
def Inv.stay{h':Heap}{h8 ex:List GD}(I:Inv X pins σ H s)(st:Stay h8 ex s.heap h')(BN:∀ b∈h8,b∈frs X.stack)(hH:∀ b∈ex,H b=t8)(h0:∀ b∈ex,X.s₀.heap.get? b=t8)(hL:∀ b∈ex,b≠X.env.locals)(hc:∀ b∈ex,∀ x c,X.env.cells.lookup x=be c->c≠b)
  (hp:∀ b∈ex,∀ p∈X.pn++pins,p.1≠b):Inv X pins σ H {s with heap:=h'}:=by
 have hok:HOk X.prog X.w H h':=dv I.hok st (λb hb=>I.stkFree b (BN b hb)) hH;have sub:∀ b∈h8,b=X.env.locals\/b∈X.fs:=λb hb=>xJ.mp (I.stkSub b (BN b hb));have nL:∀ b o,X.s₀.heap.get? b=be o->b≠X.env.locals:=λb o q=>xM (xV (Heap.lt_size q) I.ok.above);have Eb:∀ b o,X.s₀.heap.get? b=be o->b ∉ ex:=λb o q z=>by rw[h0 b z] at q;cases q
 have h9:∀ x c v,X.env.cells.lookup x=be c->s.heap.IsCell c v->h'.IsCell c v:=λx c v e ⟨o,ho,hd⟩=>by
  obtain⟨sl,z⟩:=st.slot c o ho (λz=>hc c z x c e rfl);exact⟨_,z,hd⟩
 refine⟨I.ok,I.os,I.bare,⟨λb o e n hb hx=>?_,λb o e n hb hx=>?_,I.base.free,λb o e hx=>?_,I.base.tups,I.base.frzs,I.base.tbls⟩,?_,λy c e=>?_,I.free,I.freeC,λp AJ=>?_,hok,I.len⟩
 .exact st.keep b o (I.base.keep b o e n hb hx) (Eb b o e) (λz=>(sub b z).elim (nL b o e) hb)
 .obtain⟨sl,e1⟩:=I.base.slot b o e n hb hx;obtain⟨j9,e2⟩:=st.slot b _ e1 (Eb b o e);exact⟨j9,e2⟩
 .obtain⟨o',e1⟩:=I.base.there b o e hx;exact st.there b o' e1
 .obtain⟨m,⟨o,es,ep,ho,r⟩,hl⟩:=I.loc;obtain⟨sl,z⟩:=st.slot _ o ho (λz=>hL _ z rfl);refine⟨m,⟨_,es,ep,z,r⟩,λj y v' e1 e2 e3=>?_⟩;obtain⟨u',r',q⟩:=hl j y v' e1 e2 e3;refine⟨u',r',?_⟩;rcases q with q|⟨k,c,e,z⟩
  .exact .inl q
  .exact .inr ⟨k,c,e,h9 y c _ e z⟩
 .obtain⟨w',z⟩:=I.cell y c e;exact⟨w',h9 y c _ e z⟩
 .obtain⟨e,n,ne,nf,d⟩:=I.pin p AJ;exact⟨st.keep _ _ e (λz=>hp _ z p AJ rfl) (λz=>(sub _ z).elim ne nf),n,ne,nf,d⟩
end
def subE(x c:y8):Bool:=x==c||c=="MotifError"
structure ErrsK(K:xE)(mg:Str->Option Da)(es:List Str):Prop where
 cls:∀ x∈es,∃ C N bm,ErrK K mg x C N bm
 sub:∀ x∈es,∀ y∈es,∀ C C',nsIn K GF x=be (be (.ref C))->nsIn K GF y=be (be (.ref C'))->yn K C (.ref C')=be (subE x y)
def ErrsK.has{K:xE}{mg:y8->Option Da}{es:List y8}(k:ErrsK K mg es){x y:y8}{C C' N N':GD}{bm Bc:List Da}(hx:x∈es)(hy:y∈es)(a:ErrK K mg x C N bm)(b:ErrK K mg y C' N' Bc):(Value.ref C::bm).contains (.ref C')=subE x y:=by
 have h:=k.sub x hx y hy C C' a.ns b.ns;obtain⟨nm,q,bs,sn,sub,ab,col,dd,k0,k1,k2,k3,k5,lk⟩:=a.obj;unfold yn zv at h;rw[lk] at h;simp only[za,List.isEmpty_cons,Bool.false_eq_true,if_false,Option.some.injEq] at h;exact h
structure Held(X:Cx)(pins:List (GD × GZ))(H:Hp)(s:GE)(e C:GD)(od:Option GD)(T:GD):Prop where
 ex:ExAt s.heap e C od T .none
 He:H e=t8
 HT:H T=t8
 e0:X.s₀.heap.get? e=t8
 T0:X.s₀.heap.get? T=t8
 eP:∀ p∈X.pn++pins,p.1≠e
 TP:∀ p∈X.pn++pins,p.1≠T
section
variable {X:Cx}{pins:List (GD × GZ)}{σ:L2.St}{H:Hp}{s:GE}
def eE{b:GD}{o:GZ}{vs:Array Da}(I:Inv X pins σ H s)(h:s.heap.get? b=be o)(hd:o.data= .fields vs):b≠X.env.locals:=λz=>by
 obtain⟨m,⟨o',es,ep,ho,f6,_⟩,_⟩:=I.loc;rw[<- z,h] at ho;cases ho;rw[hd] at f6;cases f6
def fld_cell{b:GD}{o:GZ}{vs:Array Da}(I:Inv X pins σ H s)(h:s.heap.get? b=be o)(hd:o.data= .fields vs):∀ x c,X.env.cells.lookup x=be c->c≠b:=λx c q z=>by
 obtain⟨v,o',ho,f6⟩:=I.cell x c q;rw[z,h] at ho;cases ho;rw[hd] at f6;cases f6
def Held.flight{e C T:GD}{od:Option GD}{h':Heap}(I:Inv X pins σ H s)(k:Held X pins H s e C od T)(hx:ExAt h' e C od T .none)(st:Stay [] [T] s.heap h'):Inv X pins σ H {s with heap:=h'}/\Held X pins H {s with heap:=h'} e C od T:=by
 obtain⟨sl,vs,oT,ts,he,h1,m_,hT,g7,h3⟩:=k.ex;refine⟨Inv.stay I st (λb hb=>by cases hb) (λb hb=>?_) (λb hb=>?_) (λb hb=>?_) (λb hb=>?_) (λb hb=>?_),⟨hx,k.He,k.HT,k.e0,k.T0,k.eP,k.TP⟩⟩<;>rw[xF.mp hb]
 .exact k.HT
 .exact k.T0
 .exact eE I hT g7
 .exact fld_cell I hT g7
 .exact k.TP
def XO.ok{P:GH}{w:GM}{h:Heap}{e C:GD}{od:Option GD}{vs:Array Da}{sl:Array (Option Da)}(q:h.get? e=be ⟨.ref C,od,.fields vs,sl⟩):ObjOk P w H h e (XO e C od):=
 ⟨⟨vs,sl,q⟩,⟨_,q⟩,λh1 h2 ⟨vs,sl,q⟩ k=>⟨vs,sl,k _ q⟩⟩
end
def RepS.unset{K:xE}{B F H:Hp}{z:SD}{s:L2.St}{i:Nat}(h:RepS K B F H z s):RepS K B F H (z.set i t8) (s.set i t8):=by
 have get:∀ {j:Nat} {x:D},(z.set i t8)[j]?=be (be x)->j≠i/\z[j]?=be (be x):=λ{j x} e=>by
  by_cases hj:i=j
  .subst hj;rw[yD] at e;simp at e
  .rw[xL hj] at e;exact⟨λz=>hj z.symm,e⟩
 refine⟨by rw[yx,yx];exact h.len,λj x e nx=>?_,λj ds e=>?_,λj k dj dk a e1 e2 e3 e4=>?_⟩
 .obtain⟨hj,e⟩:=get e;rw[xL (λz=>hj z.symm)];exact h.val j x e nx
 .obtain⟨hj,e⟩:=get e;rw[xL (λz=>hj z.symm)];exact h.own j ds e
 .obtain⟨hj,e1⟩:=get e1;obtain⟨hk,e2⟩:=get e2;rw[xL (λz=>hj z.symm)] at e3;rw[xL (λz=>hk z.symm)] at e4;exact h.apart j k dj dk a e1 e2 e3 e4
abbrev TH:=y8->List (y8 × D)->TSD
def DH(X:Cx)[J:Jx](hs:List G8)(th:TH):Prop:=
 ∀ (pins:List (GD × GZ)) (s:GE) (σ:L2.St) (H:Hp) (D:Ends) (e C:GD) (od:Option GD) (T:GD) (x:y8) (fs:List (y8 × My.D)) (B F0 F:Hp) (z:SD) (ED:EndsD),Inv X pins σ H s->Held X pins H s e C od T->Kept B F0 F H->RepS X.K B F H z σ->ErrD X.K F x fs C od->
  th x fs ED z->EndsOk X.K B F0 ED D->GL (GJ X.prog X.w) X.A (handleBy (.ref e) X.env hs) (SP X pins D) X.xe s
structure WDH(X:Cx)[Jx](hs:List G8)(th:TH):Prop where
 out:DH X hs th
section
variable {X:Cx}[J:Jx]{es:List y8}{c:y8}{b₀:GK}{k_:List GK}{pos pc:GV}{rest:List G8}{t:TSD}{r:TH}
def rg:TH:=λ_ _ _ _=>False
def rh(es:List y8)(c:y8)(t:TSD)(r:TH):TH:=λx fs E z=>(x∈es/\c∈es)/\if subE x c=true then t E z else r x fs E z
def dHas(es:List y8)(c:y8)(i:Nat)(t:TSD)(r:TH):TH:=λx fs E z=>(x∈es/\c∈es)/\if subE x c=true then t {nx:=λz'=>E.nx (z'.set i t8),rt:=E.rt,bk:=λz'=>E.bk (z'.set i t8),ct:=λz'=>E.ct (z'.set i t8)} (z.set i (be (.exc x fs))) else r x fs E z
def ri:WDH X [] rg:=⟨λ_ _ _ _ _ _ _ _ _ _ _ _ _ _ _ _ _ _ _ _ _ h _=>h.elim⟩
def rj(hE:ErrsK X.K X.mg es)(hs:∀ e,WDSs (X.held e) (b₀::k_) t)(hr:WDH X rest r)(hg:Gl X c:=by rfl)(d4:zND c:=by decide):WDH X (.ExceptHandler (be (.Name c pc)) t8 (b₀::k_) pos::rest) (rh es c t r):=⟨by
 have hs:=λe=>(hs e).out;have hr:=hr.out;intro pins s σ H D e C od T x fs B F0 F z ED I hd k rs er ht ee;obtain⟨⟨Bf,Bg⟩,ht⟩:=ht;obtain⟨Cc,Nc,Fo,kc⟩:=hE.cls c Bg;obtain⟨u7,Nx,Fp,kx⟩:=hE.cls x Bf;obtain rfl:u7=C:=by have h1:=kx.ns;rw[er.1] at h1;cases h1;rfl
 have hb:=hE.has Bf Bg kx kc;obtain⟨nm,q,bs,sn,sub,ab,col,dd,k0,k1,k2,k3,k5,lk⟩:=kx.obj;obtain⟨Cy,q',Cz,CA,Ay,CB,Az,Be,CC,CD,CF,CG,CH,CI⟩:=kc.obj;refine H8 (HX (bL (X:=X.held e) (Inv.held I) hg kc.mg ?_ d4)) (by intro q;cases q);obtain⟨sl,vs,oT,ts,he,h1,m_,hT,g7,h3⟩:=id hd.ex;refine lB (g:=s.gens) (d:=s.drawn) (t:=s.toks) (os:=s.os) (I.kIn _ _ lk) (I.kIn _ _ CI) he rfl kc.base hb ?_;cases p8:subE x c with
 |true=>
  rw[p8,if_pos rfl] at ht;refine codeAny_handlers_suite (flight_none hd.ex λh' e9 st'=>?_);obtain⟨I',_⟩:=Held.flight I hd e9 st';exact G4 (hs e pins _ σ H D (Inv.held I') ⟨B,F0,F,z,k,rs,ED,ht,ee⟩) (λf s1 q=>SP.unheld I.ok q) λ_ _ z=>False.elim z
 |false=>
  rw[p8,if_neg xK] at ht;exact hr pins s σ H D e u7 od T x fs B F0 F z ED I hd k rs er ht ee⟩
def rk(i:Nat){n:y8}(hE:ErrsK X.K X.mg es)(hN:X.N.Nodup)(hs:∀ e,WDSs (X.held e) (b₀::k_) t)(hr:WDH X rest r)(hg:Gl X c:=by rfl)(hi:X.N[i]?=be n:=by rfl)(hk:X.env.scope.names.lookup n=be .local:=by rfl)(d4:zND c:=by decide):WDH X (.ExceptHandler (be (.Name c pc)) (be n) (b₀::k_) pos::rest) (dHas es c i t r):=⟨by
 have hs:=λe=>(hs e).out;have hr:=hr.out;intro pins s σ H D e C od T x fs B F0 F z ED I hd k rs er ht ee;obtain⟨⟨Bf,Bg⟩,ht⟩:=ht;obtain⟨Cc,Nc,Fo,kc⟩:=hE.cls c Bg;obtain⟨u7,Nx,Fp,kx⟩:=hE.cls x Bf;obtain rfl:u7=C:=by have h1:=kx.ns;rw[er.1] at h1;cases h1;rfl
 have hb:=hE.has Bf Bg kx kc;obtain⟨nm,q,bs,sn,sub,ab,col,dd,k0,k1,k2,k3,k5,lk⟩:=kx.obj;obtain⟨Cy,q',Cz,CA,Ay,CB,Az,Be,CC,CD,CF,CG,CH,CI⟩:=kc.obj;refine H8 (HX (bL (X:=X.held e) (Inv.held I) hg kc.mg ?_ d4)) (by intro q;cases q);obtain⟨sl,vs,oT,ts,he,h1,m_,hT,g7,h3⟩:=id hd.ex;refine lB (g:=s.gens) (d:=s.drawn) (t:=s.toks) (os:=s.os) (I.kIn _ _ lk) (I.kIn _ _ CI) he rfl kc.base hb ?_;cases p8:subE x c with
 |true=>
  rw[p8,if_pos rfl] at ht;refine codeAny_handlers_suite_as (flight_none hd.ex λh' e9 st'=>?_);obtain⟨I',f6⟩:=Held.flight I hd e9 st';obtain⟨j9,k9,_,_,CJ,_⟩:=id e9;have I2:Inv X pins σ (upd H e (XO e u7 od)) {s with heap:=h'}:=Inv.adopt I' hd.He (XO.ok CJ) hd.e0 (eE I' CJ rfl) (fld_cell I' CJ rfl) hd.eP;refine fT (X:=X.held e) (v:= .ref e) (Inv.held I2) hN hi (.inl hk) rfl (λs2 I3=>?_) (.inr hk);have g:=Grow.new k.fh hd.He (XO e u7 od);obtain⟨ns,ws,rf,CK⟩:=er;have rep:Rep X.K (upd F e (XO e u7 od)) (.exc x fs) (.ref e):=rep_exc.mpr ⟨e,u7,od,ws,rfl,ns,az,RepF.mono g.ff fs ws rf,CK.imp id λ⟨b,q1,q2⟩=>⟨b,q1,g.ff _ _ q2⟩⟩;have Fq:EndsOk X.K B F0 {nx:=λz'=>ED.nx (z'.set i t8),rt:=ED.rt,bk:=λz'=>ED.bk (z'.set i t8),ct:=λz'=>ED.ct (z'.set i t8)} {nx:=λσ' H'=>D.nx (σ'.set i t8) H',rt:=D.rt,bk:=λσ' H'=>D.bk (σ'.set i t8) H',ct:=λσ' H'=>D.ct (σ'.set i t8) H'}:=
   ⟨λz' s' F' H' k hz r=>ee.nx _ _ F' H' k hz (RepS.unset r),ee.rt,λz' s' F' H' k hz r=>ee.bk _ _ F' H' k hz (RepS.unset r),λz' s' F' H' k hz r=>ee.ct _ _ F' H' k hz (RepS.unset r)⟩
  refine G4 (hs e pins s2 _ _ _ I3 ⟨B,F0,_,_,k.grow g,(rs.grow g).set rep,_,ht,Fq⟩) (λf s3 q=>?_) λ_ _ z=>False.elim z;have q':=SP.unheld I.ok q;cases f with
  |next=>obtain⟨σ',H',I4,q4⟩:=q';exact eD I4 hN hi hk λs5 I5=>⟨_,H',I5,q4⟩
  |brk=>obtain⟨σ',H',I4,q4⟩:=q';exact eD I4 hN hi hk λs5 I5=>⟨_,H',I5,q4⟩
  |cont=>obtain⟨σ',H',I4,q4⟩:=q';exact eD I4 hN hi hk λs5 I5=>⟨_,H',I5,q4⟩
  |ret u=>obtain⟨v,σ',H',I4,rv,q4⟩:=q';exact eD I4 hN hi hk λs5 I5=>⟨v,_,H',I5,rv,q4⟩
 |false=>
  rw[p8,if_neg xK] at ht;exact hr pins s σ H D e u7 od T x fs B F0 F z ED I hd k rs er ht ee⟩
end
abbrev _root_.L2.Cx.tried(X:Cx)(pn:List (GD × GZ))(xe:Da->GE->Prop):Cx:={X with pn:=pn,xe:=xe}
section
variable {X:Cx}{pn pins:List (GD × GZ)}{xe:Da->GE->Prop}{σ:L2.St}{H:Hp}{s:GE}
def Cx.Ok.tried(ok:X.Ok):(X.tried pn xe).Ok:=⟨ok.mod,ok.kind,ok.glob,ok.blt,ok.above,ok.inj,ok.has,ok.cab,ok.hd,ok.frames,ok.stk,ok.exf,ok.bs,ok.bsz,ok.noex,ok.exfs,ok.funs,ok.frf⟩
def Inv.tried(I:Inv X pins σ H s):Inv (X.tried (X.pn++pins) xe) [] σ H s:=⟨Cx.Ok.tried I.ok,I.os,I.bare,I.base,I.loc,I.cell,I.free,I.freeC,λp hp=>I.pin p (by simpa using hp),I.hok,I.len⟩
def Inv.untried(ok:X.Ok)(I:Inv (X.tried (X.pn++pins) xe) [] σ H s):Inv X pins σ H s:=⟨ok,I.os,I.bare,I.base,I.loc,I.cell,I.free,I.freeC,λp hp=>I.pin p (by simpa using hp),I.hok,I.len⟩
def SP.untried{D:Ends}{f:Flow}{s':GE}(ok:X.Ok)(h:SP (X.tried (X.pn++pins) xe) [] D f s'):SP X pins D f s':=by
 cases f with
 |next=>obtain⟨σ',H',I,q⟩:=h;exact⟨σ',H',Inv.untried ok I,q⟩
 |brk=>obtain⟨σ',H',I,q⟩:=h;exact⟨σ',H',Inv.untried ok I,q⟩
 |cont=>obtain⟨σ',H',I,q⟩:=h;exact⟨σ',H',Inv.untried ok I,q⟩
 |ret u=>obtain⟨v,σ',H',I,r,q⟩:=h;exact⟨v,σ',H',Inv.untried ok I,r,q⟩
end
def Kept.re{J:Jx}{B F0 F H:Hp}{RX:SD->XD}(k:@Kept J B F0 F H):@Kept ⟨B,F0,RX⟩ B F0 F H:=@Kept.mk ⟨B,F0,RX⟩ B F0 F H k.bh k.fh k.f0 k.out rfl (Same.refl F0) (λ_ h _=>h)
def Kept.un{J:Jx}{B F0 F H F' H':Hp}{RX:SD->XD}(k:@Kept J B F0 F H)(k':@Kept ⟨B,F0,RX⟩ B F0 F' H'):@Kept J B F0 F' H':=by
 obtain⟨a,b,c,d,_,_,_⟩:=k';exact @Kept.mk J B F0 F' H' a b c d k.eb k.jf k.jo
def dTry(tb:Jx->TSD)(th:TH):TSD:=λE z=>∃ RX:SD->XD,(∀ J:Jx,J.RX=RX->tb J E z)/\∀ z' x fs,RX z' x fs->th x fs E z'
def rl{X:Cx}[J:Jx]{body:List GK}{h₀:G8}{hs:List G8}{pos:GV}{tb:Jx->TSD}{th:TH}
  (hb:∀ (pn:List (GD × GZ)) (xe:Da->GE->Prop) (J':Jx),G7 (GJ X.prog X.w) X.A X.env xe->@XOk (X.tried pn xe) J'->@DSs (X.tried pn xe) J' body (tb J'))
  (hh:DH X (h₀::hs) th) (hex:X.ex=[]:=by rfl) (hstk:X.stack=X.env::X.outer:=by rfl) (hfr:X.env.frame=be X.env.locals:=by rfl):DS X (.Try body (h₀::hs) [] [] pos) (dTry tb th):=by
 intro pins s σ H D I h;obtain⟨B,F0,F,z,k,rs,ED,⟨RX,h1,h2⟩,ee⟩:=h;have ok:=I.ok;have hx:@XOk (X.tried (X.pn++pins) (λe s₁=>GL (GJ X.prog X.w) X.A (Hy e X.env) (λ_ s₂=>GL (GJ X.prog X.w) X.A (HK e t8) (λ_ s₃=>GL (GJ X.prog X.w) X.A (handleBy e X.env (h₀::hs)) (SP X pins D) X.xe s₃) X.xe s₂) X.xe s₁)) ⟨B,F0,RX⟩:=by
  intro σ' z' F' H' s' e C od x fs I1 kk rr hR er hd;obtain⟨He,e0,eP,hd⟩:=hd;have I2:Inv X pins σ' H' s':=Inv.untried ok I1;have stk:s'.heap.FunFrames X.base (X.env::X.outer):=by rw[<- hstk];exact I2.stack
  have Ec:X.A.frames=be (X.env::X.outer):=by rw[<- hstk];exact I2.ok.frames
  have k2:Kept B F0 F' H':=Kept.un k kk;have e8:∀ (p9:Heap) (T2:GD) (ex:List GD),(∀ b∈ex,H' b=t8/\X.s₀.heap.get? b=t8/\(∃ o vs,s'.heap.get? b=be o/\o.data= .fields vs)/\∀ p∈X.pn++pins,p.1≠b)->ExAt p9 e C od T2 (Hk X.env.locals)->s'.heap.objs.size<=T2->Stay (frs (X.env::X.outer)) ex s'.heap p9->
    GL (GJ X.prog X.w) X.A (HK (.ref e) t8) (λ_ s₃=>GL (GJ X.prog X.w) X.A (handleBy (.ref e) X.env (h₀::hs)) (SP X pins D) X.xe s₃) X.xe {s' with heap:=p9}:=by
   intro p9 T2 ex p_ m9 o_ l0;have t_:s'.heap.get? T2=none:=Heap.get?_none_of_le o_;have I3:Inv X pins σ' H' {s' with heap:=p9}:=Inv.stay I2 l0 (λb hb=>by rw[hstk];exact hb) (λb hb=>(p_ b hb).1) (λb hb=>(p_ b hb).2.1) (λb hb=>let ⟨_,_,q1,q2⟩:=(p_ b hb).2.2.1;eE I2 q1 q2) (λb hb=>let ⟨_,_,q1,q2⟩:=(p_ b hb).2.2.1;fld_cell I2 q1 q2) (λb hb=>(p_ b hb).2.2.2);obtain⟨sl,vs,oT,ts,he,g1,m_,hT,g7,g3⟩:=id m9;have w6:H' T2=none:=eB I2.hok t_;have T0:X.s₀.heap.get? T2=none:=bW I2 hex t_;have TP:∀ p∈X.pn++pins,p.1≠T2:=λp hp z=>by
    have:=(I2.pin p hp).1;rw[z,t_] at this;cases this
   refine flight_none (s:={s' with heap:=p9}) m9 λh3 A7 td=>?_;have I4:Inv X pins σ' H' {s' with heap:=h3}:=Inv.stay (s:={s' with heap:=p9}) I3 td (λb hb=>by cases hb) (λb hb=>by rw[xF.mp hb];exact w6) (λb hb=>by rw[xF.mp hb];exact T0) (λb hb=>by rw[xF.mp hb];exact eE I3 hT g7) (λb hb=>by rw[xF.mp hb];exact fld_cell I3 hT g7) (λb hb=>by rw[xF.mp hb];exact TP);exact hh pins _ σ' H' D e C od T2 x fs B F0 F' z' ED I4 ⟨A7,He,w6,e0,T0,eP,TP⟩ k2 rr er (h2 z' x fs hR) ee
  rcases hd with⟨sl,vs,he,hv⟩|⟨T,BL,T0,HT,TP⟩
  .refine kI Ec stk hfr he hv λp9 T2 m9 o_ l0=>e8 p9 T2 [e] (λb hb=>?_) m9 o_ l0;rw[xF.mp hb];exact⟨He,e0,⟨_,_,he,rfl⟩,eP⟩
  .obtain⟨sl,vs,oT,ts,he,g1,m_,hT,g7,g3⟩:=id BL;refine kJ Ec stk hfr BL λp9 T2 m9 o_ l0=>e8 p9 T2 [T,e] (λb hb=>?_) m9 o_ l0;rcases xJ.mp hb with z|z
   .rw[z];exact⟨HT,T0,⟨_,_,hT,g7⟩,TP⟩
   .rw[xF.mp z];exact⟨He,e0,⟨_,_,he,rfl⟩,eP⟩
 refine wpAny_Try_except (G4 (hb (X.pn++pins) _ ⟨B,F0,RX⟩ PassesOwn.looking hx [] s σ H D (Inv.tried I) ?_) (λf s1 q=>?_) λe s1 q=>q)
 .refine⟨B,F0,F,z,Kept.re k,rs,ED,h1 ⟨B,F0,RX⟩ rfl,@EndsOk.mk ⟨B,F0,RX⟩ _ _ _ _ _ (λz' s' F' H' k'=>ee.nx z' s' F' H' (Kept.un k k')) (λd v F' H' k'=>ee.rt d v F' H' (Kept.un k k')) (λz' s' F' H' k'=>ee.bk z' s' F' H' (Kept.un k k')) (λz' s' F' H' k'=>ee.ct z' s' F' H' (Kept.un k k'))⟩
 .have q:=SP.untried ok q;cases f with
  |next=>exact G_ q
  |ret v=>exact q
  |brk=>exact q
  |cont=>exact q
def ErrG(K:xE)(f y:y8):Prop:=∃ C cd,ErrA K y C cd/\xI K (.ref C) "__getattribute__"=be (be (.builtin "BaseException.__getattribute__"))/\xI K (.ref C) "__getattr__"=be t8/\xI K (.ref C) f=be t8
def rn(ys:List y8)(f:y8)(te:TD):TD:=λz R=>te z λd=>match d with| .exc y fs=>y∈ys/\∃ d,fs.lookup f=be d/\R d|_=>False
def rq{X:Cx}[J:Jx]{e:GI}{te:TD}{pos:GV}{ys:List y8}{f:y8}(hG:∀ y∈ys,ErrG X.K f y)(he:WDE X e te)(hb:GQ e f X.env (GS e X.env)=GS e X.env:=by rfl):WDE X (.Attribute e f pos) (rn ys f te):=⟨by
 have he:=he.out;intro pins s σ H Q I h;obtain⟨B,F,z,kf,rs,R,h1,h2⟩:=h;refine attr_of hb (thn (he pins s σ H (λv H1=>∃ F1 x fs,Grow F H F1 H1/\Rep X.K F1 (.exc x fs) v/\x∈ys/\∃ d,fs.lookup f=be d/\R d) I ⟨B,F,z,kf,rs,_,h1,λd v F1 H1 g1 hx rx=>?_⟩) λu s1 ⟨v,H1,I1,rv,F1,x,fs,g1,rx,hy,d,hl,hR⟩=>?_)
 .split at hx
  .obtain⟨hy,d,hl,hR⟩:=hx;exact⟨F1,_,_,g1,rx,hy,d,hl,hR⟩
  .exact hx.elim
 .obtain⟨a,C,od,vs,rfl,hn,Fs,rf,CK⟩:=rep_exc.mp rx;obtain rfl:u=Value.ref a:=rv;obtain⟨C',cd,ea,ga,gb,hf⟩:=hG x hy;have g5:=ea.ns;rw[hn] at g5;cases g5;obtain⟨k9,sl,g8⟩:=(I1.hok a _ (g1.fh _ _ Fs)).1;obtain⟨w',hw,j6⟩:=rf.look hl;rcases CK with⟨_,e2⟩|⟨b,rfl,gt⟩
  .rw[e2] at hw;cases hw
  .obtain⟨mA,f9,rel⟩:=(show ObjOk X.prog X.w H1 s1.heap b (.xd vs) from I1.hok b _ (g1.fh _ _ gt));obtain⟨uv,hu,ru⟩:=RelO.some_of (v:=w') (o:=mA f) (by rw[<- hw];exact rel f);obtain⟨Ft,ho,look⟩:=kh f9;have CL:hasDictIn X.K C=true:=by unfold hasDictIn;rw[ea.cl];exact ea.hd
   exact pX (K:=X.K) (ox:=⟨.ref C,be b,.fields k9,sl⟩) (od:=Ft) I1.kIn ⟨g8,rfl,rfl,ho⟩ ea.cl ea.mro ga gb (findObj_own CL hf rfl (by rw[look,hu])) (kl ru) λtk=>⟨w',H1,I1.tok tk,ru,h2 d w' F1 H1 g1 hR j6⟩⟩
def lC{K:xE}:tailIn K veLine veLine=true:=by
 unfold tailIn;rfl
def lD{K:xE}{N:GD}{c:Da}{d:Option GD}{es:Array DictEntry}{ep:Nat}{sl:Array (Option Da)}(l:K.lookup N=be ⟨c,d,.dict es ep,sl⟩)(h:es.toList.all (λe=>match e.key with| .str _ _=>true|_=>false)=true):nsOkIn K N=true:=by
 unfold nsOkIn;rw[l];dsimp only;rw[<- zW];exact h
def rz{K:xE}{M N:GD}{c0:Da}{dd:Option GD}{cd:ClassData}{sl:Array (Option Da)}(l:K.lookup M=be ⟨c0,dd,.cls cd,sl⟩)(hn:cd.ns=N)(h1:nsOkIn K N=true)(h2:nsIn K N "__init__"=be t8):tailIn K veLine (.ref M::veLine)=true:=by
 unfold tailIn;subst hn;dsimp only;rw[l];dsimp only;rw[h1,h2,lC];simp
def rA{K:xE}{C:GD}:kitOne K (.ref C) (.ref C)=be true:=by
 unfold kitOne;rw[if_pos (beq_self_eq_true _)]
def rB(S:SpX):SpD:=λds R=>S ds R λ_ _=>False
def CalX.no{P:GH}{w:GM}{K:xE}{mg:y8->Option Da}{base:Heap}{n:Nat}{x:y8}{ps:List y8}{S:SpX}(C:CalX P w K mg base n x ps S):CalD P w K mg base n x ps (rB S):=by
 obtain⟨f,fd,F,hb,hk,hm⟩:=C;refine⟨f,fd,F.imp λvs H Q E h=>?_,hb,hk,hm⟩;obtain⟨F,ds,fh,rs,R,h,q⟩:=h;exact⟨F,ds,fh,rs,R,_,h,q,λ_ _ _ _ _ _ _ z=>z.elim⟩
end My
namespace My
section
variable {X:Cx}[J:Jx]{a b c e:GI}{ta tb tc te:TD}{pos:GV}
def Reps.rep{K:xE}{F:Hp}{xs:List D}{us:List V}(r:Reps K F xs us):∀ n:Nat,Reps K F (yi n xs).flatten (yi n us).flatten
 |0=>reps_nil.mpr rfl
 |n+1=>by
  rw[yX,yY,yX,yY];exact r.append (Reps.rep r n)
abbrev TDO:=SD->(Option Int->Prop)->Prop
def lO(K:xE)[J:Jx](t:TDO):TO:=λs H Q=>∃ B F z,Kept B J.F0 F H/\RepS K B F H z s/\∃ R:Option Int->Prop,t z R/\∀ o F' H',Grow F H F' H'->R o->Q o H'
abbrev DPO(X:Cx)[Jx](e:Option GI)(t:TDO):Prop:=PO X e (lO X.K t)
structure WDPO(X:Cx)[Jx](e:Option GI)(t:TDO):Prop where
 out:DPO X e t
def rdSl:D->Option Int->Option Int->(D->Prop)->Prop:=λx lo hi R=>match x with
 | .str y=>y.length<=1000000/\R (.str (Txt.slice y lo hi))
 | .lst xs=>R (.lst (cutD xs lo hi))
 | .rol xs=>R (.lst (cutD xs lo hi))
 | .tup xs=>¬ (HT.sIx xs.length 0 lo=0/\HT.sIx xs.length xs.length hi=xs.length)/\R (.tup (cutD xs lo hi))
 |_=>False
def rdIn(neg:Bool):RD2:=λx y R=>match x,y with
 | .str i,.str j=>R (.bl (if neg then !(!(Builtin.Str.occurrences j i 0 j.length 1).isEmpty) else !(Builtin.Str.occurrences j i 0 j.length 1).isEmpty))
 |x,.lst ys=>(aL x=true/\ys.all aL=true)/\R (.bl (if neg then !(ys.any λy=>eqF y x) else ys.any λy=>eqF y x))
 |x,.rol ys=>(aL x=true/\ys.all aL=true)/\R (.bl (if neg then !(ys.any λy=>eqF y x) else ys.any λy=>eqF y x))
 |x,.tup ys=>(aL x=true/\ys.all aL=true)/\R (.bl (if neg then !(ys.any λy=>eqF y x) else ys.any λy=>eqF y x))
 |_,_=>False
def eF{K:xE}{H:Hp}{x:D}{u:V}(rx:Rep K H x u)(fx:aL x=true):∀ {ys:List D} {vs:List V},Reps K H ys vs->ys.all aL=true->inV u vs=ys.any λy=>eqF y x
 |[],vs,r,_=>by rw[reps_nil.mp r];rfl
 |y::ys,vs,r,f=>by
  obtain⟨v,vr,rfl,r1,r2⟩:=reps_cons.mp r;rw[yq,yb] at f;have ih:=eF rx fx r2 f.2;unfold inV at ih ⊢;rw[yr,yr,ih,eqV_of r1 rx f.1 fx]
def rInV(K:xE)(neg:Bool):R2:=λx y H Q=>(∃ i j,x= .str i/\y= .str j/\Q (.bl (if neg then !(!(Builtin.Str.occurrences j i 0 j.length 1).isEmpty) else !(Builtin.Str.occurrences j i 0 j.length 1).isEmpty)) H)\/rIn K neg x y H Q
def lF{K:xE}{neg:Bool}:aR K (rInV K neg) (rdIn neg):=by
 intro x y u v F H R Q fh h rx ry q;unfold rdIn at h;split at h
 .exact .inl ⟨_,_,rep_str.mp rx,rep_str.mp ry,q _ _ F H (Grow.refl fh) h (rep_bl.mpr rfl)⟩
 .obtain⟨⟨f1,f2⟩,h⟩:=h;obtain⟨l,vs,rfl,hq,rr⟩:=rep_lst.mp ry;exact .inr ⟨l,vs,rfl,.inl (fh.seq (SqL.of hq)),cv rx f1,bV rr f2,q _ _ F H (Grow.refl fh) h (rep_bl.mpr (by rw[eF rx f1 rr f2]))⟩
 .obtain⟨⟨f1,f2⟩,h⟩:=h;obtain⟨l,vs,rfl,hq,rr⟩:=rep_rol.mp ry;exact .inr ⟨l,vs,rfl,.inl (fh.seq hq),cv rx f1,bV rr f2,q _ _ F H (Grow.refl fh) h (rep_bl.mpr (by rw[eF rx f1 rr f2]))⟩
 .obtain⟨⟨f1,f2⟩,h⟩:=h;obtain⟨l,vs,rfl,hq,rr⟩:=rep_tup_mp ry;exact .inr ⟨l,vs,rfl,.inr (fh.tup hq),cv rx f1,bV rr f2,q _ _ F H (Grow.refl fh) h (rep_bl.mpr (by rw[eF rx f1 rr f2]))⟩
 .exact h.elim
def lG:OpR X (G3 .NotIn) (rInV X.K true):=OpR.or pD pC
def rC(ha:WDE X a ta)(hb:WDE X b tb)(hm:G1 .NotIn b=false:=by rfl):WDT X (.Compare a [.NotIn] [b] pos) (dTst (dOp (rdIn true) ta tb)):=⟨have ha:=ha.out;have hb:=hb.out;dB lG lF ha hb hm⟩
end
section
variable {X:Cx}[J:Jx]{a b c e:GI}{ta tb tc te:TD}{pos:GV}
def cy(x:y8):List D:=x.cps.toList.map λc=>D.str ⟨#[c]⟩
def rD{x:y8}{k c:Nat}(h:x.cps[k]?=be c):(cy x)[k]?=be (.str ⟨#[c]⟩):=by
 unfold cy;rw[yj,Array.getElem?_toList,h];rfl
def lH(x:y8):(cy x).length=x.length:=by unfold cy;rw[xU];simp[Str.length]
variable {D' iter:GI}{x:y8}{px:GV}{scope:Hm}{ti:TD}
end
section
variable {X:Cx}[J:Jx]{a b c e o:GI}{es:List GI}{ta tb tc te to:TD}{t:TDA}{pos:GV}
abbrev RTx:=y8->List D->(D->Prop)->Prop
def dTx(r:RTx)(to:TD)(t:TDA):TD:=λz R=>to z λx=>match x with| .str y=>t z λds=>r y ds R|_=>False
def MtS(X:Cx)(id:String)(r:RTx):Prop:=∃ rv:V->List V->Hp->VK->Prop,MtR X id rv/\∀ (y:y8) (ds:List D) (vs:List V) (F H:Hp) (R:D->Prop) (Q:VK),Reps X.K F ds vs->r y ds R->(∀ d v,(∀ G,Rep X.K G d v)->R d->Q v H)->rv (.str y) vs H Q
def gA{name:y8}{id:String}{r:RTx}{apos cpos:GV}(slot:Slot "str" name id)(Ce:typeOf (.builtin id)=pure (.type "method_descriptor"))(hm:MtS X id r)(ho:DE X o to)(ha:DA X (e::es) t)
  (b7:GQ o name X.env (GS o X.env)=GS o X.env:=by rfl)
  (d6:zHF X cpos (e::es):=by rfl)
  (b_:(apos.endLine==cpos.line)=true:=by rfl) (hs:zSE X e es:=by rfl) (f8:zPL X cpos es:=by rfl):
  DE X (.Call (.Attribute o name apos) (e::es) [] cpos) (dTx r to t):=by
 obtain⟨rv,hm,L⟩:=hm;refine(cQ PySem.F.plainAttrs_str slot Ce hm ho ha b7 d6 b_ hs f8).anti λs H Q q=>?_;obtain⟨B,F,z,kf,rs,R,h1,h2⟩:=q;refine⟨B,F,z,kf,rs,_,h1,λx u F1 H1 g1 hx rx=>?_⟩;split at hx
 .rename_i y;rw[rep_str.mp rx];refine⟨rfl,B,F1,z,kf.grow g1,rs.grow g1,_,hx,λds vs F2 H2 g2 hy ry=>?_⟩;exact L y ds vs F2 H2 R Q ry hy λd v rd hR=>h2 d v F2 H2 (g1.trans g2) hR (rd F2)
 .exact hx.elim
def xA:RTx:=λy ds R=>match ds with|[.str p]=>R (.bl (Txt.startswith y p))|_=>False
def rEnds:RTx:=λy ds R=>match ds with|[.str p]=>R (.bl (Txt.endswith y p))|_=>False
def ms_ends:MtS X "str.endswith" rEnds:=by
 refine⟨λx vs H Q=>∃ y p,x= .str y/\vs=[.str p]/\Q (.bl (Txt.endswith y p)) H,?_,?_⟩
 .intro pins s σ H x vs v us Q I rx rv h;obtain⟨y,p,rfl,rfl,q⟩:=h;obtain⟨t,rfl⟩:=rx;obtain⟨u,rfl,t',rfl⟩:=bG rv;exact SC.endswith ⟨.bl _,H,I,rfl,q⟩
 .intro y ds vs F H R Q r h q;unfold rEnds at h;split at h
  .obtain⟨v,vr,rfl,h1,h2⟩:=reps_cons.mp r;rw[reps_nil.mp h2,rep_str.mp h1];exact⟨_,_,rfl,rfl,q _ _ (λ_=>rep_bl.mpr rfl) h⟩
  .exact h.elim
def rE{apos cpos:GV}(ho:WDE X o to)(ha:WDA X [e] t)(b7:GQ o "endswith" X.env (GS o X.env)=GS o X.env:=by rfl)
  (d6:zHF X cpos [e]:=by rfl)
  (b_:(apos.endLine==cpos.line)=true:=by rfl) (hs:zSE X e []:=by rfl):WDE X (.Call (.Attribute o "endswith" apos) [e] [] cpos) (dTx rEnds to t):=⟨have ho:=ho.out;have ha:=ha.out;gA PySem.F.slot_str_endswith PySem.F.type_str_endswith ms_ends ho ha b7 d6 b_ hs⟩
def rSIndex:RTx:=λy ds R=>match ds with|[.str p]=>∃ i rest,Builtin.Str.occurrences y p 0 y.length 1=i::rest/\R (.int (i:Nat))|_=>False
def rF:MtS X "str.index" rSIndex:=by
 refine⟨λx vs H Q=>∃ y p i rest,x= .str y/\vs=[.str p]/\Builtin.Str.occurrences y p 0 y.length 1=i::rest/\Q (.int (i:Nat)) H,?_,?_⟩
 .intro pins s σ H x vs v us Q I rx rv h;obtain⟨y,p,i,rest,rfl,rfl,ho,q⟩:=h;obtain⟨t,rfl⟩:=rx;obtain⟨u,rfl,t',rfl⟩:=bG rv;exact SC.index ho ⟨.int _,H,I.tok _,⟨_,rfl⟩,q⟩
 .intro y ds vs F H R Q r h q;unfold rSIndex at h;split at h
  .obtain⟨i,rest,ho,h⟩:=h;obtain⟨v,vr,rfl,h1,h2⟩:=reps_cons.mp r;rw[reps_nil.mp h2,rep_str.mp h1];exact⟨_,_,i,rest,rfl,rfl,ho,q _ _ (λ_=>rep_int.mpr rfl) h⟩
  .exact h.elim
def rG{apos cpos:GV}(ho:WDE X o to)(ha:WDA X [e] t)(b7:GQ o "index" X.env (GS o X.env)=GS o X.env:=by rfl)
  (d6:zHF X cpos [e]:=by rfl)
  (b_:(apos.endLine==cpos.line)=true:=by rfl) (hs:zSE X e []:=by rfl):WDE X (.Call (.Attribute o "index" apos) [e] [] cpos) (dTx rSIndex to t):=⟨have ho:=ho.out;have ha:=ha.out;gA PySem.F.slot_str_index PySem.F.type_str_index rF ho ha b7 d6 b_ hs⟩
def Reps.init{K:xE}{F:Hp}:∀ {ds:List D} {vs:List V},Reps K F ds vs->Reps K F ds.dropLast vs.dropLast
 |[],vs,r=>by rw[reps_nil.mp r];exact reps_nil.mpr rfl
 |[d],vs,r=>by
  obtain⟨v,vr,rfl,_,h2⟩:=reps_cons.mp r;rw[reps_nil.mp h2];exact reps_nil.mpr rfl
 |d::d2::ds,vs,r=>by
  obtain⟨v,vr,rfl,h1,h2⟩:=reps_cons.mp r;obtain⟨v2,Fu,rfl,h3,h4⟩:=reps_cons.mp h2;rw[zX,zX];exact reps_cons.mpr ⟨v,_,rfl,h1,Reps.init h2⟩
end
end My
namespace My
open Exc
section
variable {X:Cx}{a b c e:GI}{ta tb tc te:TD}{pos:GV}{st:GK}{rest:List GK}{t u:TSD}
def bM[Jx]{c:GI}{l r:List GK}{tc:TDT}(hc:WDT X c tc)(ha:WDSs X l t)(hb:WDSs X r u):WDS X (.If c l r pos) (dIfS tc t u):=⟨lf (c:=c) (l:=l) (r:=r) (tc:=tc) (hc:=hc.out) (ha:=ha.out) (hb:=hb.out)⟩
end
def rH{X:Cx}[J:Jx]{body:List GK}{h₀:G8}{hs:List G8}{pos:GV}{tb:Jx->TSD}{th:TH}(hb:∀ (pn:List (GD × GZ)) (xe:Da->GE->Prop) (J':Jx),G7 (GJ X.prog X.w) X.A X.env xe->@XOk (X.tried pn xe) J'->@WDSs (X.tried pn xe) J' body (tb J'))(hh:WDH X (h₀::hs) th)(hex:X.ex=[]:=by rfl)(hstk:X.stack=X.env::X.outer:=by rfl)(hfr:X.env.frame=be X.env.locals:=by rfl):WDS X (.Try body (h₀::hs) [] [] pos) (dTry tb th):=⟨rl (X:=X) (body:=body) (h₀:=h₀) (hs:=hs) (pos:=pos) (tb:=tb) (th:=th) (hb:=λa b c d e=>(hb a b c d e).out) (hh:=hh.out) (hex:=hex) (hstk:=hstk) (hfr:=hfr)⟩
section
variable {P:GH}{w:GM}{K:xE}{mg:y8->Option Da}{base:Heap}
def _root_.L2.Fun.okDW{x:y8}{st:GK}{f:GD}{fd:GR}{N ps:List y8}{k:Nat}{S:SpD}(T:Fun K x x st f fd)(F:FnScope N ps (ae st))(len:∀ ds R,S ds R->ds.length=ps.length)
  (a9:∀ (cdv:Da) (A:GN) (outer:List Hl) (s:GE) (H:Hp) (E:XK) (J:Jx),Room k (A.deeper (GX x (ae st) s.heap.objs.size f cdv))->
   ∃ t,WDSs (cxOf (Exc.CX1 P w) P w K mg base N x (ae st) f cdv A outer s H E).nox (aF st) t/\∀ ds R,S ds R->t {nx:=λ_=>R .non,rt:=R} (startD N ds)):FnOk P w K mg base (Exc.CX1 P w) (k+1) f fd ps (lSp K S):=
 T.okD F len λcdv A outer s H E J hr=>let ⟨t,h,q⟩:=a9 cdv A outer s H E J hr;⟨t,h.out,q⟩
def Tx.okDW{x:y8}{st:GK}{N ps:List y8}{k:Nat}{S:SpD}(T:Tx K mg x st ps)(F:FnScope N ps (ae st))(len:∀ ds R,S ds R->ds.length=ps.length)
  (a9:∀ (f:GD) (cdv:Da) (A:GN) (outer:List Hl) (s:GE) (H:Hp) (E:XK) (J:Jx),Room k (A.deeper (GX x (ae st) s.heap.objs.size f cdv))->
   ∃ t,WDSs (cxOf (Exc.CX1 P w) P w K mg base N x (ae st) f cdv A outer s H E).nox (aF st) t/\∀ ds R,S ds R->t {nx:=λ_=>R .non,rt:=R} (startD N ds)):CalD P w K mg base (k+1) x ps S:=
 Tx.okD T F len λf cdv A outer s H E J hr=>let ⟨t,h,q⟩:=a9 f cdv A outer s H E J hr;⟨t,h.out,q⟩
def Cls.okIW{x qual:y8}{st:GK}{f C:GD}{fd:GR}{N:List y8}{p0:y8}{ps:List y8}{k:Nat}{S:SiD}(T:Fun K "__init__" qual st f fd)(hb:Binds K fd (p0::ps) [])(F:FnScope (p0::N) (p0::ps) (ae st))(len:∀ ds R,S ds R->ds.length=ps.length)
  (f9:nsIn K GF x=be (be (.ref C))) (i7:mg x=be (.ref C)) (mk:Mk K C f)
  (a9:∀ (cdv:Da) (A:GN) (outer:List Hl) (s:GE) (H:Hp) (E:XK) (J:Jx),Room k (A.deeper (GX qual (ae st) s.heap.objs.size f cdv))->
   ∃ t,WDI (cxOf (Exc.CX1 P w) P w K mg base (p0::N) qual (ae st) f cdv A outer s H E).nox x (aF st) t/\∀ ds R,S ds R->t (t8::startD N ds) [] R):CalM P w K mg base (k+1) x (p0::ps) S:=
 Cls.okI T hb F len f9 i7 mk λcdv A outer s H E J hr=>let ⟨t,h,q⟩:=a9 cdv A outer s H E J hr;⟨t,h.out,q⟩
def Cls.okEW{x qual:y8}{st:GK}{f C N0:GD}{bm:List Da}{fd:GR}{N:List y8}{p0:y8}{ps:List y8}{k:Nat}{S:SiD}(T:Fun K "__init__" qual st f fd)(hb:Binds K fd (p0::ps) [])(F:FnScope (p0::N) (p0::ps) (ae st))(len:∀ ds R,S ds R->ds.length=ps.length)
  (ek:ErrK K mg x C N0 bm) (hi:xI K (.ref C) "__init__"=be (be (.ref f))) (hf:isFn K (.ref f)=true)
  (a9:∀ (cdv:Da) (A:GN) (outer:List Hl) (s:GE) (H:Hp) (E:XK) (J:Jx),Room k (A.deeper (GX qual (ae st) s.heap.objs.size f cdv))->
   ∃ t,WDX (cxOf (CX1 P w) P w K mg base (p0::N) qual (ae st) f cdv A outer s H E).nox x (aF st) t/\∀ ds R,S ds R->t (t8::startD N ds) [] R):CalE P w K mg base (k+1) x (p0::ps) S:=
 Cls.okE T hb F len ek hi hf λcdv A outer s H E J hr=>let ⟨t,h,q⟩:=a9 cdv A outer s H E J hr;⟨t,h.out,q⟩
end
inductive MO where
 |ins (x:Str) (fs:List (Str × D))|lst (ds:List D)|dti (a8:List ((Int × Int) × Int))
abbrev MS:=List (GD × MO)
def MRep(K:xE)(F H:Hp)(a:GD):MO->Prop
 | .ins x fs=>∃ C dx ws,nsIn K GF x=be (be (.ref C))/\H a=be (.ins C dx ws)/\RepF K F fs ws
 | .lst ds=>∃ vs,H a=be (.lst vs)/\Reps K F ds vs
 | .dti a8=>H a=be (.dT (dtiV a8))
def ak(M:MS):List GD:=M.map (·.1)
def mget:MS->GD->Option MO
 |[],_=>t8
 |(b,o)::r,a=>if b=a then be o else mget r a
def mput:MS->GD->MO->MS
 |[],_,_=>[]
 |(b,p)::r,a,o=>if b=a then(b,o)::r else(b,p)::mput r a o
def mdel:MS->GD->MS
 |[],_=>[]
 |(b,p)::r,a=>if b=a then r else(b,p)::mdel r a
def bq:∀ {M:MS} {a:GD} {o:MO},mget M a=be o->(a,o)∈M
 |[],_,_,h=>by cases h
 |(b,p)::r,a,o,h=>by
  unfold mget at h;split at h
  .rename_i e;subst e;cases h;exact xT
  .exact xS _ (bq h)
def bH{M:MS}{a:GD}{o:MO}(h:(a,o)∈M):a∈ak M:=yy.mpr ⟨_,h,rfl⟩
def eG:∀ (M:MS) (a:GD) (o:MO),ak (mput M a o)=ak M
 |[],_,_=>rfl
 |(b,p)::r,a,o=>by
  unfold mput;split
  .rfl
  .show b::ak (mput r a o)=b::ak r;rw[eG r a o]
def mem_put:∀ {M:MS} {a b:GD} {o q:MO},(ak M).Nodup->(b,q)∈mput M a o->(b=a/\q=o/\a∈ak M)\/(b≠a/\(b,q)∈M)
 |[],_,_,_,_,_,h=>by cases h
 |(c,p)::r,a,b,o,q,nd,h=>by
  have Bh:c ∉ ak r/\(ak r).Nodup:=yp.mp nd;unfold mput at h;split at h
  .rename_i e;subst e;rcases xJ.mp h with z|z
   .cases z;exact .inl ⟨rfl,rfl,xT⟩
   .have:b∈ak r:=bH z;exact .inr ⟨λe=>Bh.1 (e ▸ this),xS _ z⟩
  .rename_i ne;rcases xJ.mp h with z|z
   .cases z;exact .inr ⟨ne,xT⟩
   .rcases mem_put Bh.2 z with⟨e1,e2,e3⟩|⟨e1,e2⟩
    .exact .inl ⟨e1,e2,xS _ e3⟩
    .exact .inr ⟨e1,xS _ e2⟩
def gB:∀ {M:MS} {a b:GD} {q:MO},(ak M).Nodup->(b,q)∈mdel M a->b≠a/\(b,q)∈M
 |[],_,_,_,_,h=>by cases h
 |(c,p)::r,a,b,q,nd,h=>by
  have Bh:c ∉ ak r/\(ak r).Nodup:=yp.mp nd;unfold mdel at h;split at h
  .rename_i e;subst e;exact⟨λe=>Bh.1 (e ▸ bH h),xS _ h⟩
  .rename_i ne;rcases xJ.mp h with z|z
   .cases z;exact⟨ne,xT⟩
   .obtain⟨e1,e2⟩:=gB Bh.2 z;exact⟨e1,xS _ e2⟩
def del_sub:∀ {M:MS} {a:GD},(ak (mdel M a)).Sublist (ak M)
 |[],_=> .slnil
 |(c,p)::r,a=>by
  unfold mdel;split
  .exact List.sublist_cons_self _ _
  .exact List.Sublist.cons_cons _ del_sub
def MRep.mono{K:xE}{F H F' H':Hp}{a:GD}(ff:Same F F')(hh:∀ o,H a=be o->H' a=be o):∀ {o:MO},MRep K F H a o->MRep K F' H' a o
 | .ins x fs,⟨C,dx,ws,n,h,r⟩=>⟨C,dx,ws,n,hh _ h,RepF.mono ff fs ws r⟩
 | .lst ds,⟨vs,h,r⟩=>⟨vs,hh _ h,Reps.mono ff ds vs r⟩
 | .dti a8,h=>hh _ h
def MRep.there{K:xE}{F H:Hp}{a:GD}:∀ {o:MO},MRep K F H a o->H a≠t8
 | .ins x fs,⟨C,dx,ws,n,h,r⟩=>by rw[h];exact λz=>nomatch z
 | .lst ds,⟨vs,h,r⟩=>by rw[h];exact λz=>nomatch z
 | .dti a8,h=>by rw[show H a=_ from h];exact λz=>nomatch z
structure RepM(K:xE)(F H:Hp)(M:MS):Prop where
 nd:(ak M).Nodup
 ok:∀ a o,(a,o)∈M->MRep K F H a o
 fr:∀ a,a∈ak M->F a=t8
def RepM.nil{K:xE}{F H:Hp}:RepM K F H []:=⟨zT,(λ_ _ h=>nomatch h),(λ_ h=>nomatch h)⟩
def RepM.here{K:xE}{F H:Hp}{M:MS}(r:RepM K F H M){a:GD}(h:a∈ak M):H a≠none:=by
 obtain⟨⟨b,o⟩,h1,rfl⟩:=yy.mp h;exact(r.ok _ _ h1).there
structure GrowM(M M':MS)(F H F' H':Hp):Prop where
 ff:Same F F'
 fh:Same F' H'
 hh:∀ b o,b ∉ ak M->H b=be o->H' b=be o
 out:∀ b,b ∉ ak M->F b=t8->H b≠t8->F' b=t8
 ks:∀ b,b∈ak M'->b∈ak M\/H b=t8
def Grow.toM{M:MS}{F H F' H':Hp}(g:Grow F H F' H'):GrowM M M F H F' H':=⟨g.ff,g.fh,λb o _ h=>g.hh b o h,λb _ h1 h2=>g.out b h1 h2,λb h=> .inl h⟩
def GrowM.refl{M:MS}{F H:Hp}(h:Same F H):GrowM M M F H F H:=(Grow.refl h).toM
def GrowM.trans{M M1 M2:MS}{F H F1 H1 F2 H2:Hp}(g:GrowM M M1 F H F1 H1)(k:GrowM M1 M2 F1 H1 F2 H2):GrowM M M2 F H F2 H2 where
  ff:=g.ff.trans k.ff
  fh:=k.fh
  hh:=λb o nb h=>k.hh b o (λz=>by rcases g.ks b z with q|q;exact nb q;rw[q] at h;cases h) (g.hh b o nb h)
  out:=λb nb h1 h2=>k.out b (λz=>by rcases g.ks b z with q|q;exact nb q;exact h2 q) (g.out b nb h1 h2) (by
    cases e:H b with
    |none=>exact absurd e h2
    |some o=>rw[g.hh b o nb e];exact λz=>nomatch z)
  ks := λb h=>by
    rcases k.ks b h with q|q
    . exact g.ks b q
    . by_cases nb:b∈ak M
      . exact .inl nb
      . right;cases e:H b with
        |none=>rfl
        |some o=>rw[g.hh b o nb e] at q;cases q
def RepM.grow{K:xE}{F H F' H':Hp}{M:MS}(r:RepM K F H M)(g:Grow F H F' H'):RepM K F' H' M:=
 ⟨r.nd,λa o h=>(r.ok a o h).mono g.ff λo e=>g.hh a o e,λa h=>g.out a (r.fr a h) (r.here h)⟩
def RepM.put{K:xE}{F H:Hp}{M:MS}{a:GD}{o o':MO}{ho:HO}(r:RepM K F H M)(e:mget M a=be o)(h:MRep K F (upd H a ho) a o'):RepM K F (upd H a ho) (mput M a o'):=
 ⟨by rw[eG];exact r.nd,λb q hb=>by
  rcases mem_put r.nd hb with⟨rfl,rfl,_⟩|⟨ne,hb⟩
  .exact h
  .exact(r.ok b q hb).mono (Same.refl F) λu z=>by rw[aj ne];exact z,λb hb=>r.fr b (by rw[eG] at hb;exact hb)⟩
def GrowM.put{F H:Hp}{M:MS}{a:GD}{o o':MO}{ho:HO}(fh:Same F H)(fa:F a=t8)(e:mget M a=be o):GrowM M (mput M a o') F H F (upd H a ho) where
 ff:=Same.refl F
 fh:=λb u z=>by
  have ne:b≠a:=by rintro rfl;rw[fa] at z;cases z
  rw[aj ne];exact fh b u z
 hh:=λb u nb z=>by
  have ne:b≠a:=by rintro rfl;exact nb (bH (bq e))
  rw[aj ne];exact z
 out:=λb _ h _=>h
 ks:=λb h=> .inl (by rw[eG] at h;exact h)
def RepM.new{K:xE}{F H:Hp}{M:MS}{p:GD}{o:MO}{ho:HO}(r:RepM K F H M)(fh:Same F H)(hp:H p=t8)(h:MRep K F (upd H p ho) p o):RepM K F (upd H p ho) ((p,o)::M):=by
 have np:p ∉ ak M:=λz=>r.here z hp;refine⟨yp.mpr ⟨np,r.nd⟩,λb q hb=>?_,λb hb=>?_⟩
 .rcases xJ.mp hb with z|z
  .cases z;exact h
  .exact(r.ok b q z).mono (Same.refl F) λu z'=>by rw[aj (λe:b=p=>np (e ▸ bH z))];exact z'
 .rcases xJ.mp hb with z|z
  .rw[z];exact fh.free hp
  .exact r.fr b z
def GrowM.new{F H:Hp}{M:MS}{p:GD}{o:MO}{ho:HO}(fh:Same F H)(hp:H p=t8):GrowM M ((p,o)::M) F H F (upd H p ho) where
 ff:=Same.refl F
 fh:=fh.trans (aU hp _)
 hh:=λb u _ z=>aU hp _ b u z
 out:=λb _ h _=>h
 ks:=λb h=>by
  rcases xJ.mp h with z|z
  .exact .inr (by rw[z];exact hp)
  .exact .inl z
structure RepZ(K:xE)(B F H:Hp)(z:SD)(s:L2.St)(M:MS):Prop where
 rs:RepS K B F H z s
 no:∀ (i:Nat) ds,z[i]?≠be (be (.own ds))
 rm:RepM K F H M
 mb:∀ a,a∈ak M->B a=t8
def Kept.growM[Jx]{B F0 F H F' H':Hp}{M M':MS}(k:Kept B F0 F H)(mb:∀ a,a∈ak M->B a=t8)(g:GrowM M M' F H F' H'):Kept B F0 F' H' where
 bh:=λb o e=>g.hh b o (λz=>by rw[mb b z] at e;cases e) (k.bh b o e)
 fh:=g.fh
 f0:=k.f0.trans g.ff
 out:=λb h1 h2=>g.out b (λz=>h2 (mb b z)) (k.out b h1 h2) (by
  cases e:B b with
  |none=>exact absurd e h2
  |some o=>rw[k.bh b o e];exact λz=>nomatch z)
 eb:=k.eb
 jf:=k.jf
 jo:=k.jo
def RepS.growM{K:xE}{B F H F' H':Hp}{z:SD}{s:L2.St}{M M':MS}(r:RepS K B F H z s)(no:∀ (i:Nat) ds,z[i]?≠be (be (.own ds)))(g:GrowM M M' F H F' H'):RepS K B F' H' z s where
 len:=r.len
 val:=λi d e n=>let ⟨v,q1,q2⟩:=r.val i d e n;⟨v,q1,q2.mono g.ff⟩
 own:=λi ds e=>absurd e (no i ds)
 apart:=r.apart
def RepZ.growM{K:xE}{B F H F' H':Hp}{z:SD}{s:L2.St}{M M':MS}(r:RepZ K B F H z s M)(bh:Same B H)(g:GrowM M M' F H F' H')(rm:RepM K F' H' M'):RepZ K B F' H' z s M':=
 ⟨r.rs.growM r.no g,r.no,rm,λa h=>by
  rcases g.ks a h with q|q
  .exact r.mb a q
  .exact bh.free q⟩
def RepZ.set{K:xE}{B F H:Hp}{z:SD}{s:L2.St}{M:MS}{i:Nat}{d:D}{v:V}(r:RepZ K B F H z s M)(rd:Rep K F d v):RepZ K B F H (z.set i (be d)) (s.set i (be v)) M:=
 ⟨r.rs.set rd,λj ds e=>by
  by_cases hj:i=j
  .subst hj;rw[yD] at e;simp at e;have:=rd.noown;rw[e.2] at this;cases this
  .rw[xL hj] at e;exact r.no j ds e,r.rm,r.mb⟩
class Jm extends Jx where
 RM:SD->MS->XD
abbrev TME:=SD->MS->(D->MS->Prop)->Prop
abbrev TMT:=SD->MS->(Bool->MS->Prop)->Prop
abbrev TMA:=SD->MS->(List D->MS->Prop)->Prop
structure EndsM where
 nx:SD->MS->Prop
 rt:D->MS->Prop
 bk:SD->MS->Prop:=λ_ _=>False
 ct:SD->MS->Prop:=λ_ _=>False
abbrev TMS:=EndsM->SD->MS->Prop
def mE(K:xE)[J:Jm](t:TME):TE:=λs H Q=>∃ F z M,Kept J.B J.F0 F H/\RepZ K J.B F H z s M/\∃ R:D->MS->Prop,t z M R/\∀ d v M' F' H',GrowM M M' F H F' H'->R d M'->Rep K F' d v->RepM K F' H' M'->Q v H'
def mT(K:xE)[J:Jm](t:TMT):TT:=λs H Q=>∃ F z M,Kept J.B J.F0 F H/\RepZ K J.B F H z s M/\∃ R:Bool->MS->Prop,t z M R/\∀ b M' F' H',GrowM M M' F H F' H'->R b M'->RepM K F' H' M'->Q b H'
def mA(K:xE)[J:Jm](t:TMA):TA:=λs H Q=>∃ F z M,Kept J.B J.F0 F H/\RepZ K J.B F H z s M/\∃ R:List D->MS->Prop,t z M R/\∀ ds vs M' F' H',GrowM M M' F H F' H'->R ds M'->Reps K F' ds vs->RepM K F' H' M'->Q vs H'
structure EndsOkM[J:Jm](K:xE)(F0:Hp)(ED:EndsM)(E:Ends):Prop where
 nx:∀ z' s' M' F' H',Kept J.B F0 F' H'->ED.nx z' M'->RepZ K J.B F' H' z' s' M'->E.nx s' H'
 rt:∀ d v M' F' H',Kept J.B F0 F' H'->ED.rt d M'->Rep K F' d v->RepM K F' H' M'->(∀ a,a∈ak M'->J.B a=t8)->E.rt v H'
 bk:∀ z' s' M' F' H',Kept J.B F0 F' H'->ED.bk z' M'->RepZ K J.B F' H' z' s' M'->E.bk s' H'
 ct:∀ z' s' M' F' H',Kept J.B F0 F' H'->ED.ct z' M'->RepZ K J.B F' H' z' s' M'->E.ct s' H'
def mS(K:xE)[J:Jm](t:TMS):TS:=λE s H=>∃ F0 F z M,Kept J.B F0 F H/\RepZ K J.B F H z s M/\∃ ED:EndsM,t ED z M/\EndsOkM K F0 ED E
structure ME(X:Cx)[Jm](e:GI)(t:TME):Prop where
 out:PE X e (mE X.K t)
structure MT(X:Cx)[Jm](e:GI)(t:TMT):Prop where
 out:PT X e (mT X.K t)
structure MW(X:Cx)[Jm](e:GI)(t:TMT):Prop where
 out:PW X e (mT X.K t)
structure MA(X:Cx)[Jm](es:List GI)(t:TMA):Prop where
 out:PA X es (mA X.K t)
structure MSt(X:Cx)[Jm](st:GK)(t:TMS):Prop where
 out:PS X st (mS X.K t)
structure MSs(X:Cx)[Jm](st:List GK)(t:TMS):Prop where
 out:PSs X st (mS X.K t)
section
variable {X:Cx}{a b c e:GI}{ta tb:TME}{pos:GV}
def mP(t:TD):TME:=λz M R=>t z λd=>R d M
def mPT(t:TDT):TMT:=λz M R=>t z λd=>R d M
def mPA(t:TDA):TMA:=λz M R=>t z λd=>R d M
def ah[J:Jm]{t:TD}(h:WDE X e t):ME X e (mP t):=⟨PE.anti h.out λs H Q q=>by
 obtain⟨F,z,M,k,r,R,h1,h2⟩:=q;exact⟨J.B,F,z,k,r.rs,_,h1,λd v F' H' g hd rd=>h2 d v M F' H' g.toM hd rd (r.rm.grow g)⟩⟩
def bI[J:Jm]{t:TDT}(h:WDT X e t):MT X e (mPT t):=⟨PT.anti h.out λs H Q q=>by
 obtain⟨F,z,M,k,r,R,h1,h2⟩:=q;exact⟨J.B,F,z,k,r.rs,_,h1,λd F' H' g hd=>h2 d M F' H' g.toM hd (r.rm.grow g)⟩⟩
def ax[J:Jm]{es:List GI}{t:TDA}(h:WDA X es t):MA X es (mPA t):=⟨PA.anti h.out λs H Q q=>by
 obtain⟨F,z,M,k,r,R,h1,h2⟩:=q;exact⟨J.B,F,z,k,r.rs,_,h1,λd v F' H' g hd rd=>h2 d v M F' H' g.toM hd rd (r.rm.grow g)⟩⟩
def mOp(r:RD2)(ta tb:TME):TME:=λz M R=>ta z M λx M1=>tb z M1 λy M2=>r x y λd=>R d M2
def lJ[J:Jm]{e:GI}{r:R2}{rd:RD2}{ta tb:TME}(L:aR X.K r rd)(h:PE X e (tOp r (mE X.K ta) (mE X.K tb))):ME X e (mOp rd ta tb):=⟨h.anti λs H Q q=>by
 obtain⟨F,z,M,k,rs,R,h1,h2⟩:=q;refine⟨F,z,M,k,rs,_,h1,λx u M1 F1 H1 g1 hx rx m1=>?_⟩;refine⟨F1,z,M1,k.growM rs.mb g1,rs.growM k.bh g1 m1,_,hx,λy v M2 F2 H2 g2 hy ry m2=>?_⟩;exact L x y u v F2 H2 _ Q g2.fh hy (rx.mono g2.ff) ry λd w F3 H3 g3 hd rd=>h2 d w M2 F3 H3 ((g1.trans g2).trans g3.toM) hd rd (m2.grow g3)⟩
def lK[J:Jm]{op:Operator}{r:R2}{rd:RD2}(ho:OpR X (G6 op) r)(L:aR X.K r rd)(ha:ME X a ta)(hb:ME X b tb):ME X (.BinOp a op b pos) (mOp rd ta tb):=lJ L (jU ho ha.out hb.out)
def lL[J:Jm](ha:ME X a ta)(hb:ME X b tb)(hs:cP b:=by exact λ_ _=>rfl):ME X (.Subscript a b pos) (mOp rdIx ta tb):=lJ kS (pe_ix kB ha.out hb.out hs)
def eH[Jm](ha:ME X a ta)(hb:ME X b tb):ME X (.BinOp a .Add b pos) (mOp rdAdd ta tb):=lK kM kN ha hb
def rJ[Jm](ha:ME X a ta)(hb:ME X b tb):ME X (.BinOp a .Sub b pos) (mOp rdSub ta tb):=lK jV kO ha hb
def mTst(t:TME):TMT:=λz M R=>t z M λx M1=>match x with| .bl k=>R k M1|_=>False
def eI[J:Jm]{op:Im}{r:R2}{rd:RD2}(ho:OpR X (G3 op) r)(L:aR X.K r rd)(ha:ME X a ta)(hb:ME X b tb)(hm:G1 op b=false):MT X (.Compare a [op] [b] pos) (mTst (mOp rd ta tb)):=⟨(ke ho ha.out hb.out hm).anti λs H Q q=>by
 obtain⟨F,z,M,k,rs,R,h1,h2⟩:=q;refine⟨F,z,M,k,rs,_,h1,λx u M1 F1 H1 g1 hx rx m1=>?_⟩;refine⟨F1,z,M1,k.growM rs.mb g1,rs.growM k.bh g1 m1,_,hx,λy v M2 F2 H2 g2 hy ry m2=>?_⟩;refine L x y u v F2 H2 _ _ g2.fh hy (rx.mono g2.ff) ry λd w F3 H3 g3 hd rd=>?_;dsimp only at hd;split at hd
 .exact⟨_,rep_bl.mp rd,h2 _ M2 F3 H3 ((g1.trans g2).trans g3.toM) hd (m2.grow g3)⟩
 .exact hd.elim⟩
def lM[Jm](ha:ME X a ta)(hb:ME X b tb):MT X (.Compare a [.Lt] [b] pos) (mTst (mOp rdLt ta tb)):=eI kd kQ ha hb (nomark _)
def gC[Jm](ha:ME X a ta)(hb:ME X b tb):MT X (.Compare a [.Eq] [b] pos) (mTst (mOp rdEq ta tb)):=eI fX gp ha hb (nomark _)
def lN[Jm](ha:ME X a ta)(hb:ME X b tb):MT X (.Compare a [.Is] [b] pos) (mTst (mOp (rdIs id) ta tb)):=eI oM qq ha hb (nomark _)
def rK[Jm](ha:ME X a ta)(hb:ME X b tb)(hm:G1 .NotIn b=false:=by rfl):MT X (.Compare a [.NotIn] [b] pos) (mTst (mOp (rdIn true) ta tb)):=eI lG lF ha hb hm
variable {tA tB:TMT}{rest:List GI}
def mt_w[Jm](h:MW X a tA):MT X a tA:=⟨PW.pt h.out⟩
def rL[Jm](ha:MT X a tA):MW X (.BoolOp .And [a] pos) tA:=⟨nU ha.out⟩
def rM[Jm](ha:MT X a tA):MW X (.BoolOp .Or [a] pos) tA:=⟨nV ha.out⟩
def mAnd(tA tB:TMT):TMT:=λz M R=>tA z M λk M1=>if k=true then tB z M1 R else R false M1
def mOr(tA tB:TMT):TMT:=λz M R=>tA z M λk M1=>if k=true then R true M1 else tB z M1 R
def rN[J:Jm](ha:MT X a tA)(hb:MW X (.BoolOp .And (b::rest) pos) tB):MW X (.BoolOp .And (a::b::rest) pos) (mAnd tA tB):=⟨(nW ha.out hb.out).anti λs H Q q=>by
 obtain⟨F,z,M,k,rs,R,h1,h2⟩:=q;refine⟨F,z,M,k,rs,_,h1,λx M1 F1 H1 g1 hx m1=>?_⟩;cases x with
 |true=>exact⟨F1,z,M1,k.growM rs.mb g1,rs.growM k.bh g1 m1,R,hx,λy M2 F2 H2 g2 hy m2=>h2 y M2 F2 H2 (g1.trans g2) hy m2⟩
 |false=>exact h2 _ M1 F1 H1 g1 hx m1⟩
def rO[J:Jm](ha:MT X a tA)(hb:MW X (.BoolOp .Or (b::rest) pos) tB):MW X (.BoolOp .Or (a::b::rest) pos) (mOr tA tB):=⟨(nX ha.out hb.out).anti λs H Q q=>by
 obtain⟨F,z,M,k,rs,R,h1,h2⟩:=q;refine⟨F,z,M,k,rs,_,h1,λx M1 F1 H1 g1 hx m1=>?_⟩;cases x with
 |false=>exact⟨F1,z,M1,k.growM rs.mb g1,rs.growM k.bh g1 m1,R,hx,λy M2 F2 H2 g2 hy m2=>h2 y M2 F2 H2 (g1.trans g2) hy m2⟩
 |true=>exact h2 _ M1 F1 H1 g1 hx m1⟩
def mIf(tc:TMT)(ta tb:TME):TME:=λz M R=>tc z M λk M1=>if k=true then ta z M1 R else tb z M1 R
def gD[J:Jm]{tc:TMT}(hc:MT X c tc)(ha:ME X a ta)(hb:ME X b tb):ME X (.IfExp c a b pos) (mIf tc ta tb):=⟨(oi hc.out ha.out hb.out).anti λs H Q q=>by
 obtain⟨F,z,M,k,rs,R,h1,h2⟩:=q;refine⟨F,z,M,k,rs,_,h1,λx M1 F1 H1 g1 hx m1=>?_⟩;cases x with
 |true=>exact⟨F1,z,M1,k.growM rs.mb g1,rs.growM k.bh g1 m1,R,hx,λd v M2 F2 H2 g2 hy rd m2=>h2 d v M2 F2 H2 (g1.trans g2) hy rd m2⟩
 |false=>exact⟨F1,z,M1,k.growM rs.mb g1,rs.growM k.bh g1 m1,R,hx,λd v M2 F2 H2 g2 hy rd m2=>h2 d v M2 F2 H2 (g1.trans g2) hy rd m2⟩⟩
def mNil:TMA:=λ_ M R=>R [] M
def rP(ta:TME)(tr:TMA):TMA:=λz M R=>ta z M λx M1=>tr z M1 λxs M2=>R (x::xs) M2
def aY[J:Jm]:MA X [] mNil:=⟨pa_nil.anti λs H Q q=>by
 obtain⟨F,z,M,k,rs,R,h1,h2⟩:=q;exact h2 [] [] M F H (GrowM.refl k.fh) h1 (reps_nil.mpr rfl) rs.rm⟩
def aN[J:Jm]{e:GI}{es:List GI}{te:TME}{t:TMA}(ha:ME X e te)(hr:MA X es t)(hs:zSE X e es:=by rfl):MA X (e::es) (rP te t):=⟨(aT ha.out hr.out hs).anti λs H Q q=>by
 obtain⟨F,z,M,k,rs,R,h1,h2⟩:=q;refine⟨F,z,M,k,rs,_,h1,λx u M1 F1 H1 g1 hx rx m1=>?_⟩;refine⟨F1,z,M1,k.growM rs.mb g1,rs.growM k.bh g1 m1,_,hx,λxs us M2 F2 H2 g2 hy ry m2=>?_⟩;exact h2 _ _ M2 F2 H2 (g1.trans g2) hy (reps_cons.mpr ⟨_,_,rfl,rx.mono g2.ff,ry⟩) m2⟩
def mTup(t:TMA):TME:=λz M R=>t z M λxs M1=>xs.length<=1000/\R (.tup xs) M1
def rQ[J:Jm]{es:List GI}{t:TMA}{x1}(h:MA X es t):ME X (.Tuple es x1 pos) (mTup t):=⟨(kq h.out).anti λs H Q q=>by
 obtain⟨F,z,M,k,rs,R,h1,h2⟩:=q;refine⟨F,z,M,k,rs,_,h1,λds vs M1 F1 H1 g1 hx rx m1=>?_⟩;have hl:=rx.length;refine⟨sz (by rw[hl];exact hx.1),λp hp=>?_⟩;have gn:=Grow.new g1.fh hp (.tup vs);exact h2 _ _ M1 _ _ (g1.trans gn.toM) hx.2 (rep_tupS.mpr ⟨p,vs,rfl,az,rx.mono (aU (g1.fh.free hp) _)⟩) (m1.grow gn)⟩
def mLst(t:TMA):TME:=λz M R=>t z M λxs M1=>xs.length<=1000/\∀ p,p ∉ ak M1->R (.ptr p) ((p,.lst xs)::M1)
def rR[J:Jm]{es:List GI}{t:TMA}(h:MA X es t):ME X (.List es pos) (mLst t):=⟨(gc h.out).anti λs H Q q=>by
 obtain⟨F,z,M,k,rs,R,h1,h2⟩:=q;refine⟨F,z,M,k,rs,_,h1,λds vs M1 F1 H1 g1 hx rx m1=>?_⟩;have hl:=rx.length;refine⟨sz (by rw[hl];exact hx.1),λp hp=>?_⟩;exact h2 _ _ _ F1 _ (g1.trans (GrowM.new g1.fh hp)) (hx.2 p λz=>m1.here z hp) (rep_ptr.mpr rfl) (m1.new g1.fh hp ⟨vs,az,rx⟩)⟩
def mCB(r:RDn)(t:TMA):TME:=λz M R=>t z M λds M1=>r ds λd=>R d M1
def rS[J:Jm]{x:y8}{p:GV}{e:GI}{es:List GI}{t:TMA}{id:String}{r:List V->Hp->VK->Prop}{rd:RDn}(hc:bz X (.builtin id) r)(L:cf X.K r rd)(hm:X.mg x=t8)(hv:GY x=be (.builtin id))(ha:MA X (e::es) t)(hg:Gl X x:=by rfl)(hn:x≠"__name__":=by decide)(d4:zND x:=by decide)
  (he:zSE X e es:=by rfl) (c7:zPL X pos es:=by rfl):ME X (.Call (.Name x p) (e::es) [] pos) (mCB rd t):=⟨(dQ hc hg hm hv ha.out hn d4 he c7).anti λs H Q h=>by
 obtain⟨F,z,M,k,rs,R,h1,h2⟩:=h;refine⟨F,z,M,k,rs,_,h1,λds vs M1 F1 H1 g1 hx rx m1=>?_⟩;exact L ds vs F1 H1 _ Q g1.fh hx rx λd w F' H' g hd rd=>h2 d w M1 F' H' (g1.trans g.toM) hd rd (m1.grow g)⟩
def lP[Jm]{p:GV}{e:GI}{t:TMA}(hm:X.mg "len"=t8)(ha:MA X [e] t)(hg:Gl X "len":=by rfl)(he:zSE X e []:=by rfl):ME X (.Call (.Name "len" p) [e] [] pos) (mCB rdLen t):=rS fY kW hm PySem.boot_len ha hg (by decide) (by decide) he
def rT[J:Jm]{x:y8}{p:GV}{e:GI}{es:List GI}{t:TMA}{T:String}{r:List V->Hp->VK->Prop}{rd:RDn}(hc:bz X (.type T) r)(L:cf X.K r rd)(hm:X.mg x=t8)(hv:GY x=be (.type T))(ha:MA X (e::es) t)(hg:Gl X x:=by rfl)(hn:x≠"__name__":=by decide)(d4:zND x:=by decide)
  (he:zSE X e es:=by rfl) (c7:zPL X pos es:=by rfl):ME X (.Call (.Name x p) (e::es) [] pos) (mCB rd t):=⟨(kz hc hg hm hv ha.out hn d4 he c7).anti λs H Q h=>by
 obtain⟨F,z,M,k,rs,R,h1,h2⟩:=h;refine⟨F,z,M,k,rs,_,h1,λds vs M1 F1 H1 g1 hx rx m1=>?_⟩;exact L ds vs F1 H1 _ Q g1.fh hx rx λd w F' H' g hd rd=>h2 d w M1 F' H' (g1.trans g.toM) hd rd (m1.grow g)⟩
def lQ[Jm]{p:GV}{t:TMA}(hm:X.mg "int"=t8)(ha:MA X [e] t)(hg:Gl X "int":=by rfl)(he:zSE X e []:=by rfl):ME X (.Call (.Name "int" p) [e] [] pos) (mCB rdInt t):=rT ll lm hm PyProof.Rows.boot_int ha hg (by decide) (by decide) he
def cT(M:MS)(d:D)(x:y8)(fs:List (y8 × D)):Prop:=match d with| .ptr a=>mget M a=be (.ins x fs)| .obj y gs=>y=x/\gs=fs|_=>False
def mFld(x f:y8)(te:TME):TME:=λz M R=>te z M λd M1=>∃ fs,cT M1 d x fs/\∃ d',fs.lookup f=be d'/\R d' M1
def gE{K:xE}{F H:Hp}{M:MS}{d:D}{v:V}{x:y8}{fs:List (y8 × D)}(fh:Same F H)(rm:RepM K F H M)(rd:Rep K F d v)(h:cT M d x fs):∃ a C dx ws,v= .ref a/\nsIn K GF x=be (be (.ref C))/\H a=be (.ins C dx ws)/\RepF K F fs ws:=by
 unfold cT at h;split at h
 .rename_i a;obtain⟨C,dx,ws,n,h1,h2⟩:=rm.ok _ _ (bq h);exact⟨a,C,dx,ws,rep_ptr.mp rd,n,h1,h2⟩
 .obtain⟨rfl,rfl⟩:=h;obtain⟨a,C,dx,ws,e,n,h1,h2⟩:=rep_obj.mp rd;exact⟨a,C,dx,ws,e,n,fh _ _ h1,h2⟩
 .exact h.elim
def aQ[J:Jm]{x f:y8}(hA:ClsA X.K x f)(he:ME X e ta)(hb:GQ e f X.env (GS e X.env)=GS e X.env:=by rfl):ME X (.Attribute e f pos) (mFld x f ta):=⟨(ph he.out hb).anti λs H Q q=>by
 obtain⟨C,hn,hc,hf⟩:=hA;obtain⟨F,z,M,k,rs,R,h1,h2⟩:=q;refine⟨F,z,M,k,rs,_,h1,λd u M1 F1 H1 g1 hx rx m1=>?_⟩;obtain⟨fs,hi,d',hl,hR⟩:=hx;obtain⟨a,C',dx,ws,rfl,g5,hH,rf⟩:=gE g1.fh m1 rx hi;rw[hn] at g5;cases g5;obtain⟨v,l,rv⟩:=rf.look hl;exact⟨a,C,dx,ws,v,rfl,hH,hc,hf,l,h2 d' v M1 F1 H1 g1 hR rv m1⟩⟩
end
abbrev XDM:=y8->List (y8 × D)->MS->Prop
abbrev SpM:=List D->MS->(D->MS->Prop)->XDM->Prop
def lSpM(K:xE)(S:SpM):Sp:=λvs H Q E=>∃ F ds M,Same F H/\Reps K F ds vs/\RepM K F H M/\∃ (R:D->MS->Prop) (RX:XDM),S ds M R RX/\(∀ d v M' F' H',GrowM M M' F H F' H'->R d M'->Rep K F' d v->RepM K F' H' M'->Q v H')/\
 ∀ x fs C od M' F' H',GrowM M M' F H F' H'->RX x fs M'->ErrD K F' x fs C od->RepM K F' H' M'->E (.ref C) od H'
abbrev CalMM(P:GH)(w:GM)(K:xE)(mg:y8->Option Da)(base:Heap)(n:Nat)(x:y8)(ps:List y8)(S:SpM):Prop:=Cal P w K mg base n x ps (lSpM K S)
def ofX(S:SpX):SpM:=λds M R RX=>S ds (λd=>R d M) λx fs=>RX x fs M
def ofD(S:SpD):SpM:=λds M R _=>S ds λd=>R d M
def rV{K:xE}{S:SpD}{vs:List V}{H:Hp}{Q:VK}{E:XK}(h:lSpM K (ofD S) vs H Q E):lSp K S vs H Q E:=by
 obtain⟨F,ds,M,fh,rs,rm,R,RX,hS,q,qx⟩:=h;exact⟨F,ds,fh,rs,_,hS,λd v F' H' g hd rd=>q d v M F' H' g.toM hd rd (rm.grow g)⟩
section
variable {P:GH}{w:GM}{K:xE}{mg:y8->Option Da}{base:Heap}{n:Nat}{x:y8}{ps:List y8}
def CalD.toM{S:SpD}(C:CalD P w K mg base n x ps S):CalMM P w K mg base n x ps (ofD S):=by
 obtain⟨f,fd,F,hb,hk,hm⟩:=C;exact⟨f,fd,F.imp λvs H Q E h=>rV h,hb,hk,hm⟩
def CalMth(P:GH)(w:GM)(K:xE)(mg:y8->Option Da)(base:Heap)(n:Nat)(x m:y8)(ps:List y8)(sp:Sp):Prop:=
 ∃ C f fd,nsIn K GF x=be (be (.ref C))/\Cls K C/\Meth K C m f/\FnOk P w K mg base (CX1 P w) n f fd ps sp/\Binds K fd ps []
def Cal.mono{sp:Sp}{n':Nat}(h:Cal P w K mg base n x ps sp)(hn:n<=n'):Cal P w K mg base n' x ps sp:=by
 obtain⟨f,fd,F,h⟩:=h;exact⟨f,fd,F.mono hn,h⟩
def Cal.imp{sp v9:Sp}(h:Cal P w K mg base n x ps sp)(i:∀ vs H Q E,v9 vs H Q E->sp vs H Q E):Cal P w K mg base n x ps v9:=by
 obtain⟨f,fd,F,h⟩:=h;exact⟨f,fd,F.imp i,h⟩
def CalMth.imp{m:y8}{sp v9:Sp}(h:CalMth P w K mg base n x m ps sp)(i:∀ vs H Q E,v9 vs H Q E->sp vs H Q E):CalMth P w K mg base n x m ps v9:=by
 obtain⟨C,f,fd,h1,h2,h3,h4,h5⟩:=h;exact⟨C,f,fd,h1,h2,h3,h4.imp i,h5⟩
end
def XOkM(X:Cx)[J:Jm]:Prop:=∀ (σ:L2.St) (z:SD) (M:MS) (F H:Hp) (s:GE) (e C:GD) (od:Option GD) (x:y8) (fs:List (y8 × D)),Inv X [] σ H s->Kept J.B J.F0 F H->RepZ X.K J.B F H z σ M->J.RM z M x fs->ErrD X.K F x fs C od->Exd X H s e C od->X.xe (.ref e) s
def EX(X:Cx)[J:Jm](z:SD)(σ:L2.St):XK:=λCv od H'=>∃ x fs C M' F',Cv= .ref C/\Kept J.B J.F0 F' H'/\RepZ X.K J.B F' H' z σ M'/\J.RM z M' x fs/\ErrD X.K F' x fs C od
def XOkM.out{X:Cx}[J:Jm](hx:XOkM X)(hex:X.ex=[]){pins:List (GD × GZ)}{σ:L2.St}{z:SD}{H:Hp}{s s':GE}{ev:Da}(I:Inv X pins σ H s)
  (h:CX1 X.prog X.w X.stack H s (EX X z σ) ev s'):X.xe ev s':=by
 obtain⟨e,C,od,T,H',rfl,Cs,hb,un,hok,Ct,ne,nT,He,HT,x,fs,C',M',F',hC,kk,rr,hR,er⟩:=h;cases hC;have I':Inv X pins σ H' s':=I.call' Cs un hok hb (λb z=>absurd z (by simp));exact hx σ z M' F' H' s' e C od x fs (Inv.nopins I') kk rr hR er ⟨He,bW I hex ne,pn_free I ne,.inr ⟨T,Ct,bW I hex nT,HT,pn_free I nT⟩⟩
section
variable {X:Cx}[J:Jm]{a b c e o:GI}{ta tb te:TME}{pos p apos cpos:GV}{n m:Nat}{ps:List y8}{S:SpM}{x:y8}{es:List GI}{t:TMA}
def rW(S:SpM)(t:TMA):TME:=λz M R=>t z M λds M1=>S ds M1 R λx fs M'=>J.RM z M' x fs
def gG{σ:L2.St}{z:SD}{M M1:MS}{F H F1 H1:Hp}{ds:List D}{vs:List V}{Q:VK}{R:D->MS->Prop}(k:Kept J.B J.F0 F H)(rs:RepZ X.K J.B F H z σ M)(g1:GrowM M M1 F H F1 H1)(m1:RepM X.K F1 H1 M1)(rx:Reps X.K F1 ds vs)
  (hS:S ds M1 R λx fs M'=>J.RM z M' x fs) (h2:∀ d v M' F' H',GrowM M M' F H F' H'->R d M'->Rep X.K F' d v->RepM X.K F' H' M'->Q v H'):lSpM X.K S vs H1 Q (EX X z σ):=
 ⟨F1,ds,M1,g1.fh,rx,m1,R,_,hS,λd v M' F' H' g hd rd m'=>h2 d v M' F' H' (g1.trans g) hd rd m',λy fs C od M' F' H' g hR er m'=>⟨y,fs,C,M',F',rfl,(k.growM rs.mb g1).growM (rs.growM k.bh g1 m1).mb g,(rs.growM k.bh g1 m1).growM (k.growM rs.mb g1).bh g m',hR,er⟩⟩
def aO(C:CalMM X.prog X.w X.K X.mg X.base n x ps S)(hx:XOkM X)(hr:Room m X.A)(ha:MA X (e::es) t)(hex:X.ex=[]:=by rfl)(hg:Gl X x:=by rfl)(hn:n<=m:=by decide)(d4:zND x:=by decide)
  (he:zSE X e es:=by rfl) (c7:zPL X pos es:=by rfl):
  ME X (.Call (.Name x p) (e::es) [] pos) (rW S t):=by
 obtain⟨f,fd,F,hb,hk,hm⟩:=C;refine⟨λpins s σ H Q I h=>?_⟩;obtain⟨Fr,z,M,k,rs,R,h1,h2⟩:=h;refine GU (bL I hg hm ?_ d4);refine callWith_K (h₀:=X.base) I.ok.mod.kin hk (thn (ha.out pos pins s σ H (λvs H1=>lSpM X.K S vs H1 Q (EX X z σ)) I ⟨Fr,z,M,k,rs,_,h1,λds vs M1 F1 H1 g1 hx rx m1=>gG k rs g1 m1 rx hx h2⟩) λus s1 hh=>⟨hh.elim λ_ h=>h.elim λ_ h=>h.1.kIn,?_⟩) he c7;obtain⟨vs,H1,I1,r,q⟩:=hh;exact eA F (hr.mono hn) hb (λe s' hq=>hx.out hex I1 hq) I1 r q
def lR(cs:List y8)(m:y8)(S:y8->SpM)(to:TME)(t:TMA):TME:=λz M R=>to z M λd M1=>∃ x,x∈cs/\∃ fs,cT M1 d x fs/\fs.lookup m=t8/\t z M1 λds M2=>S x (d::ds) M2 R λx fs M'=>J.RM z M' x fs
def aV{cs:List y8}{nm:y8}{S:y8->SpM}{pl:Il Bool}(C:∀ x,x∈cs->CalMth X.prog X.w X.K X.mg X.base n x nm ps (lSpM X.K (S x)))(hx:XOkM X)(hr:Room m X.A)(ho:ME X o te)(ha:MA X (e::es) t)(hex:X.ex=[]:=by rfl)(hn:n<=m:=by decide)
  (n_:zSE X e es:=by rfl) (c7:zPL X pos es:=by rfl)
  (ht:GS (.Call (.Attribute o nm apos) (e::es) [] pos) X.env=(do
   let ov <- GS o X.env
   Hu apos.atName
   let (f,first) <- HU [ov] (Hz ov nm pl)
   callWith pos f first (Ha pos (GO (e::es) X.env)) (Hr pos (G' [] X.env))):=by rfl):
  ME X (.Call (.Attribute o nm apos) (e::es) [] pos) (lR cs nm S te t):=by
 refine⟨λpins s σ H Q I h=>?_⟩;obtain⟨Fr,z,M,k,rs,R,h1,h2⟩:=h;refine methodCall_KW (pl:=pl) (thn (ho.out pins s σ H (λv H1=>∃ d M1 F1,GrowM M M1 Fr H F1 H1/\Rep X.K F1 d v/\RepM X.K F1 H1 M1/\∃ x,x∈cs/\∃ fs,cT M1 d x fs/\fs.lookup nm=t8/\t z M1 λds M2=>S x (d::ds) M2 R λx fs M'=>J.RM z M' x fs) I ⟨Fr,z,M,k,rs,_,h1,λd v M1 F1 H1 g1 hd rd m1=>⟨d,M1,F1,g1,rd,m1,hd⟩⟩) λu s1 hh=>?_) ht;obtain⟨v,H1,I1,rv,d,M1,F1,g1,rd,m1,x,CM,fs,hi,hl,hq⟩:=hh;obtain⟨C',f,fd,f9,m8,Bi,F,hb⟩:=C x CM;obtain⟨a,C2,dx,ws,rfl,q8,hH,rf⟩:=gE g1.fh m1 rd hi;rw[f9] at q8;cases q8;obtain rfl:u=Value.ref a:=rv;refine km I1 hH m8 Bi (rf.none hl) ?_;refine callWith_K (first:=[.ref a]) (h₀:=X.base) I.ok.mod.kin Bi.kp (thn (ha.out pos pins s1 σ H1 (λvs H2=>lSpM X.K (S x) (.ref a::vs) H2 Q (EX X z σ)) I1 ⟨F1,z,M1,k.growM rs.mb g1,rs.growM k.bh g1 m1,_,hq,λds vs M2 F2 H2 g2 hx rx m2=>gG k rs (g1.trans g2) m2 (reps_cons.mpr ⟨_,_,rfl,rd.mono g2.ff,rx⟩) hx h2⟩) λus s2 hh=>⟨hh.elim λ_ h=>h.elim λ_ h=>h.1.kIn,?_⟩) n_ c7;obtain⟨vs,H2,I2,r,q2⟩:=hh;exact eA (us:= .ref a::us) (vs:= .ref a::vs) F (hr.mono hn) hb (λe s' hq=>hx.out hex I2 hq) I2 (.cons rfl r) q2
def cz{cs:List y8}{nm:y8}{S:y8->SpM}{pl:Il Bool}(C:∀ x,x∈cs->CalMth X.prog X.w X.K X.mg X.base n x nm ps (lSpM X.K (S x)))(hx:XOkM X)(hr:Room m X.A)(ho:ME X o te)(hex:X.ex=[]:=by rfl)(hn:n<=m:=by decide)
  (ht:GS (.Call (.Attribute o nm apos) [] [] pos) X.env=(do
   let ov <- GS o X.env
   Hu apos.atName
   let (f,first) <- HU [ov] (Hz ov nm pl)
   callWith pos f first (Ha pos (GO [] X.env)) (Hr pos (G' [] X.env))):=by rfl):
  ME X (.Call (.Attribute o nm apos) [] [] pos) (lR cs nm S te mNil):=by
 refine⟨λpins s σ H Q I h=>?_⟩;obtain⟨Fr,z,M,k,rs,R,h1,h2⟩:=h;refine methodCall_KW (pl:=pl) (thn (ho.out pins s σ H (λv H1=>∃ d M1 F1,GrowM M M1 Fr H F1 H1/\Rep X.K F1 d v/\RepM X.K F1 H1 M1/\∃ x,x∈cs/\∃ fs,cT M1 d x fs/\fs.lookup nm=t8/\S x [d] M1 R λx fs M'=>J.RM z M' x fs) I ⟨Fr,z,M,k,rs,_,h1,λd v M1 F1 H1 g1 hd rd m1=>⟨d,M1,F1,g1,rd,m1,hd⟩⟩) λu s1 hh=>?_) ht;obtain⟨v,H1,I1,rv,d,M1,F1,g1,rd,m1,x,CM,fs,hi,hl,hq⟩:=hh;obtain⟨C',f,fd,f9,m8,Bi,F,hb⟩:=C x CM;obtain⟨a,C2,dx,ws,rfl,q8,hH,rf⟩:=gE g1.fh m1 rd hi;rw[f9] at q8;cases q8;obtain rfl:u=Value.ref a:=rv;refine km I1 hH m8 Bi (rf.none hl) ?_;refine callWith_K0 (first:=[.ref a]) I1.kIn Bi.kp (eA (E:=EX X z σ) (us:=[.ref a]) (vs:=[.ref a]) F (hr.mono hn) hb (λe s' hq=>hx.out hex I1 hq) I1 (.cons rfl .nil) ?_);exact gG k rs g1 m1 (ei rd) hq h2
def make_of{C:GD}{S:SiD}{x:y8}{σ:L2.St}{z:SD}{M M1:MS}{F H F1 H1:Hp}{ds:List D}{vs:List V}{a dx:GD}{Q:VK}{E:XK}{T:List (y8 × D)->Prop}(g1:GrowM M M1 F H F1 H1)(m1:RepM X.K F1 H1 M1)(rx:Reps X.K F1 ds vs)(hS:S ds T)
  (ha:H1 a=t8) (p6:H1 dx=t8) (i8:dx≠a) (q:∀ fs ws dx F' H',Grow F1 H1 F' H'->T fs->H' a=be (.ins C dx ws)->F' a=t8->RepF X.K F' fs ws->Q (.ref a) H'):
  lSi X.K C S (.ref a::(vs++[])) (upd (upd H1 dx (.own a)) a (.ins C dx [])) (λv H2=>v= .non/\Q (.ref a) H2) E:=
 ⟨a,dx,vs,H1,F1,ds,by rw[yd],rfl,ha,p6,i8,g1.fh,rx,_,hS,λfs ws u5 F' H' g hR d9 ge rf=>⟨rfl,q fs ws u5 F' H' g hR d9 ge rf⟩⟩
def rX(x:y8)(S:SiD)(t:TMA):TME:=λz M R=>t z M λds M1=>S ds λfs=>R (.obj x fs) M1
def eJ{S:SiD}(M:CalM X.prog X.w X.K X.mg X.base n x ps S)(hr:Room m X.A)(ha:MA X (e::es) t)(hg:Gl X x:=by rfl)(hn:n+1<=m:=by decide)(d4:zND x:=by decide)
  (he:zSE X e es:=by rfl) (c7:zPL X pos es:=by rfl):
  ME X (.Call (.Name x p) (e::es) [] pos) (rX x S t):=by
 obtain⟨C,f,fd,f9,i7,mk,F,hb⟩:=M;refine⟨(gd mk F (hr.mono hn) hg i7 hb .nil dw ha.out d4 he c7).anti λs H Q q=>?_⟩;obtain⟨F,z,M,k,rs,R,h1,h2⟩:=q;refine⟨F,z,M,k,rs,_,h1,λds vs M1 F1 H1 g1 hx rx m1=>?_⟩;intro a dx ha p6 i8;refine make_of (σ:=s) (z:=z) (x:=x) g1 m1 rx hx ha p6 i8 λfs ws dx F' H' g hR d9 ge rf=>?_;have s1:Same F' (upd F' a (.ins C dx ws)):=aU ge _;have g2:Grow F1 H1 (upd F' a (.ins C dx ws)) H':=⟨g.ff.trans s1,λb o q=>by
  by_cases hb:b=a
  .subst hb;rw[az] at q;cases q;exact d9
  .rw[aj hb] at q;exact g.fh b o q,g.hh,λb q1 q2=>by
  by_cases hb:b=a
  .subst hb;exact absurd ha q2
  .rw[aj hb];exact g.out b q1 q2⟩
 exact h2 (.obj x fs) (.ref a) M1 (upd F' a (.ins C dx ws)) H' (g1.trans g2.toM) hR (rep_obj.mpr ⟨a,C,dx,ws,rfl,f9,az,RepF.mono s1 fs ws rf⟩) (m1.grow g2)
def rY(x:y8)(S:SiD)(t:TMA):TME:=λz M R=>t z M λds M1=>S ds λfs=>∀ a,a ∉ ak M1->R (.ptr a) ((a,.ins x fs)::M1)
def rZ{S:SiD}(M:CalM X.prog X.w X.K X.mg X.base n x ps S)(hr:Room m X.A)(ha:MA X (e::es) t)(hg:Gl X x:=by rfl)(hn:n+1<=m:=by decide)(d4:zND x:=by decide)
  (he:zSE X e es:=by rfl) (c7:zPL X pos es:=by rfl):
  ME X (.Call (.Name x p) (e::es) [] pos) (rY x S t):=by
 obtain⟨C,f,fd,f9,i7,mk,F,hb⟩:=M;refine⟨(gd mk F (hr.mono hn) hg i7 hb .nil dw ha.out d4 he c7).anti λs H Q q=>?_⟩;obtain⟨F,z,M,k,rs,R,h1,h2⟩:=q;refine⟨F,z,M,k,rs,_,h1,λds vs M1 F1 H1 g1 hx rx m1=>?_⟩;intro a dx ha p6 i8;refine make_of (σ:=s) (z:=z) (x:=x) g1 m1 rx hx ha p6 i8 λfs ws dx F' H' g hR d9 ge rf=>?_;have na:a ∉ ak M1:=λz=>m1.here z ha;have m2:=m1.grow g;refine h2 (.ptr a) (.ref a) _ F' H' (g1.trans ⟨g.ff,g.fh,λb o _ q=>g.hh b o q,λb _ q1 q2=>g.out b q1 q2,λb q=>?_⟩) (hR a na) (rep_ptr.mpr rfl) ⟨yp.mpr ⟨na,m2.nd⟩,λb o q=>?_,λb q=>?_⟩
 .rcases xJ.mp q with q|q
  .exact .inr (by rw[q];exact ha)
  .exact .inl q
 .rcases xJ.mp q with q|q
  .cases q;exact⟨C,dx,ws,f9,d9,rf⟩
  .exact m2.ok b o q
 .rcases xJ.mp q with q|q
  .rw[q];exact ge
  .exact m2.fr b q
end
section
variable {X:Cx}{x:y8}{e:GI}{es:List GI}{t:TA}{p cpos pos:GV}{n m:Nat}{ps:List y8}{S:SiD}
def eK(X:Cx)(σ:L2.St)(F1 H1:Hp)(x:y8)(fs:List (y8 × D)):Prop:=∀ F' H' s' e C od,Inv X [] σ H' s'->Grow F1 H1 F' H'->ErrD X.K F' x fs C od->Exd X H' s' e C od->X.xe (.ref e) s'
def se(M:CalE X.prog X.w X.K X.mg X.base n x ps S)(hr:Room m X.A)(hc:X.calm=true)(ha:PA X (e::es) t)(hex:X.ex=[]:=by rfl)(hg:Gl X x:=by rfl)(hn:n+1<=m:=by decide)(d4:zND x:=by decide)
  (he:zSE X e es:=by rfl) (c7:zPL X cpos es:=by rfl):
  PS X (.Raise (be (.Call (.Name x p) (e::es) [] cpos)) t8 pos) (λ_ σ H=>t σ H λvs H1=>vs.length<=1000/\∃ F1 ds,Same F1 H1/\Reps X.K F1 ds vs/\∃ T:List (y8 × D)->Prop,S ds T/\∀ fs,T fs->eK X σ F1 H1 x fs):=by
 obtain⟨C,N,bm,f,fd,k,hi,AS,Fn,hb⟩:=M;intro pins s σ H D I h;obtain⟨nm,q,bs,sn,sub,ab,col,dd,k0,k1,k2,k3,k5,lk⟩:=k.obj;refine kH (nm:=nm) (q:=q) (C:=C) (N:=N) (bs:=bs) (bm:=bm) (hdct:=true) (sn:=sn) (sub:=sub) (ab:=ab) (col:=col) (dd:=dd) (k0:=k0) (k1:=k1) (k2:=k2) (k3:=k3) (k5:=k5) (newId:="ValueError.__new__") k.base (I.ok.hd hc) ?_;refine GU (bL I hg k.mg ?_ d4);refine callWith_K (h₀:=X.base) I.ok.mod.kin k.kp (thn (ha cpos pins s σ H _ I h) λus s1 hh=>⟨hh.elim λ_ h=>h.elim λ_ h=>h.1.kIn,?_⟩) he c7;obtain⟨vs,H1,I1,r,hl,F1,ds,CN,rx,T,hS,hT⟩:=hh;have hC:=I1.kIn _ _ lk;have Fv:us.length<=sizeLine:=by rw[<- L2.Vals.length r];exact sz hl
 refine qa (g:=s1.gens) (d:=s1.drawn) (t:=s1.toks) (os:=s1.os) (rest:=us) I1.kIn (tail_of_in I1.kIn k.tail) hC hi (beq_iff_eq.mp AS) (λh' ea hm=>?_) Fv;have I2:=Inv.newx I1 hex hm;have r2:Vals (V.ref ea::vs) (Value.ref ea::us):= .cons rfl r;have He:H1 ea=none:=eB I1.hok hm.new;have l9:lEi X.K C S (V.ref ea::vs) (upd H1 ea (XN ea C t8)) (λv H'=>v= .non/\∃ fs od F',Grow F1 H1 F' H'/\eK X σ F1 H1 x fs/\H' ea=be (XN ea C od)/\F' ea=t8/\ErrF X.K F' fs od) (λ_ _ _=>False):=
  ⟨ea,vs,H1,F1,ds,rfl,rfl,He,CN,rx,_,hS,λfs od F' H' g hR h1 h2 h3=>⟨rfl,fs,od,F',g,hT fs hR,h1,h2,h3⟩⟩
 have b9:(Value.ref ea::us).length=ps.length:=by rw[<- L2.Vals.length r2];exact Fn.len _ _ _ _ l9
 have gt:=hb {s1 with heap:=h'} (Value.ref ea::us) I2.kIn (by rw[yd];exact b9);rw[yd] at gt;refine Hd (Hc (Fn.run _ X.stack _ _ ⟨Value.ref ea::us,[]⟩ (Value.ref ea::us) _ _ _ ((hr.mono hn).make C us []) (I2.env0.make C us []) gt r2 l9) λrr s' hq=>?_);cases rr with
 |error e'=>exact(dw (X:=X) pins σ _ _ e' s' I2 hq:X.xe e' s')
 |ok fl=>
  cases fl with
  |next=>exact False.elim hq
  |brk=>exact False.elim hq
  |cont=>exact False.elim hq
  |ret u=>
   obtain⟨v,H',I3,rv,rfl,fs,od,F',g,hR,p7,Fw,er⟩:=I2.after hq;obtain rfl:u=Value.none:=rv;refine⟨rfl,?_⟩;have e0:X.s₀.heap.get? ea=none:=bW I1 hex hm.new;have I4:=Inv.drop I3 p7 e0;obtain⟨ta,sl,g8⟩:=XN.get I3.hok p7;have g4:Grow F1 H1 F' (del H' ea):=⟨g.ff,λb o q=>by
    have:b≠ea:=λz=>by rw[z,Fw] at q;cases q
    rw[bB this];exact g.fh b o q,λb o q=>by
    have:b≠ea:=λz=>by rw[z,He] at q;cases q
    rw[bB this];exact g.hh b o q,g.out⟩
   refine⟨ea,ta,od,sl,rfl,I3.kIn _ _ lk,g8,?_⟩;exact hR F' (del H' ea) s' ea C od (Inv.nopins I4) g4 ⟨k.ns,er⟩ ⟨dG,e0,pn_free I1 hm.new,.inl ⟨sl,_,g8,rfl⟩⟩
def sf(h:∃ C N bm,ErrK X.K X.mg x C N bm/\ErrN X.K N)(hc:X.calm=true)(ha:PA X (e::es) t)(hex:X.ex=[]:=by rfl)(hg:Gl X x:=by rfl)(d4:zND x:=by decide)
  (he:zSE X e es:=by rfl) (c7:zPL X cpos es:=by rfl):
  PS X (.Raise (be (.Call (.Name x p) (e::es) [] cpos)) t8 pos) (λ_ σ H=>t σ H λvs H1=>vs.length<=1000/\∃ F1,Same F1 H1/\eK X σ F1 H1 x []):=by
 obtain⟨C,N,bm,k,kn⟩:=h;intro pins s σ H D I h;obtain⟨nm,q,bs,sn,sub,ab,col,dd,k0,k1,k2,k3,k5,lk⟩:=k.obj;refine kH (nm:=nm) (q:=q) (C:=C) (N:=N) (bs:=bs) (bm:=bm) (hdct:=true) (sn:=sn) (sub:=sub) (ab:=ab) (col:=col) (dd:=dd) (k0:=k0) (k1:=k1) (k2:=k2) (k3:=k3) (k5:=k5) (newId:="ValueError.__new__") k.base (I.ok.hd hc) ?_;refine GU (bL I hg k.mg ?_ d4);refine callWith_K (h₀:=X.base) I.ok.mod.kin k.kp (thn (ha cpos pins s σ H _ I h) λus s1 hh=>⟨hh.elim λ_ h=>h.elim λ_ h=>h.1.kIn,?_⟩) he c7;obtain⟨vs,H1,I1,r,hl,F1,CN,hR⟩:=hh;have hC:=I1.kIn _ _ lk;obtain⟨hp,gg,dr,tk,os⟩:=s1;refine wpAny_call_exc_subT PySem.F.excBase_ValueError (tail_of_in I1.kIn k.tail) hC (.of_isNs (isNs_of_in I1.kIn kn.ok)) (nsMap_none_of_in I1.kIn kn.ok kn.no) (λh' ea hm=>?_) (by show us.length<=_;rw[<- L2.Vals.length r];exact sz hl);obtain⟨ta,h1,h2,h3⟩:=hm.there;have I2:Inv X pins σ H1 ⟨h',gg,dr,tk,os⟩:=I1.kept (t':=tk) hm.keeps;refine⟨ea,ta,t8,#[],rfl,hm.keeps _ _ hC,h1,?_⟩;exact hR F1 H1 _ ea C t8 (Inv.nopins I2) (Grow.refl CN) ⟨k.ns,[],repf_nil.mpr rfl,.inl ⟨rfl,rfl⟩⟩ ⟨eB I1.hok hm.new,bW I1 hex hm.new,pn_free I1 hm.new,.inl ⟨#[],_,h1,rfl⟩⟩
end
section
variable {X:Cx}[J:Jm]{x:y8}{e:GI}{es:List GI}{t:TMA}{p cpos pos:GV}{n m:Nat}{ps:List y8}{S:SiD}
def si(x:y8)(S:SiD)(t:TMA):TMS:=λ_ z M=>t z M λds M1=>ds.length<=1000/\S ds λfs=>J.RM z M1 x fs
def lU{σ:L2.St}{z:SD}{M M1:MS}{F H F1 H1:Hp}{fs:List (y8 × D)}(hx:XOkM X)(k:Kept J.B J.F0 F H)(rs:RepZ X.K J.B F H z σ M)(g1:GrowM M M1 F H F1 H1)(m1:RepM X.K F1 H1 M1)(hR:J.RM z M1 x fs):eK X σ F1 H1 x fs:=λF' H' s' e C od I g er ex=>
 hx σ z M1 F' H' s' e C od x fs I ((k.growM rs.mb g1).grow g) ((rs.growM k.bh g1 m1).growM (k.growM rs.mb g1).bh g.toM (m1.grow g)) hR er ex
def gH(M:CalE X.prog X.w X.K X.mg X.base n x ps S)(hr:Room m X.A)(hx:XOkM X)(hc:X.calm=true)(ha:MA X (e::es) t)(hex:X.ex=[]:=by rfl)(hg:Gl X x:=by rfl)(hn:n+1<=m:=by decide)(d4:zND x:=by decide)
  (he:zSE X e es:=by rfl) (c7:zPL X cpos es:=by rfl):
  MSt X (.Raise (be (.Call (.Name x p) (e::es) [] cpos)) t8 pos) (si x S t):=⟨(se M hr hc ha.out hex hg hn d4 he c7).anti λE s H q=>by
 obtain⟨F0,F,z,M,k,rs,ED,h,ee⟩:=q;exact⟨F,z,M,k.kf,rs,_,h,λds vs M1 F1 H1 g1 e9 rx m1=>⟨by rw[rx.length];exact e9.1,F1,ds,g1.fh,rx,_,e9.2,λfs hR=>lU hx k.kf rs g1 m1 hR⟩⟩⟩
def sj(x:y8)(t:TMA):TMS:=λ_ z M=>t z M λds M1=>ds.length<=1000/\J.RM z M1 x []
def sk(h:∃ C N bm,ErrK X.K X.mg x C N bm/\ErrN X.K N)(hx:XOkM X)(hc:X.calm=true)(ha:MA X (e::es) t)(hex:X.ex=[]:=by rfl)(hg:Gl X x:=by rfl)(d4:zND x:=by decide)
  (he:zSE X e es:=by rfl) (c7:zPL X cpos es:=by rfl):
  MSt X (.Raise (be (.Call (.Name x p) (e::es) [] cpos)) t8 pos) (sj x t):=⟨(sf h hc ha.out hex hg d4 he c7).anti λE s H q=>by
 obtain⟨F0,F,z,M,k,rs,ED,h,ee⟩:=q;exact⟨F,z,M,k.kf,rs,_,h,λds vs M1 F1 H1 g1 e9 rx m1=>⟨by rw[rx.length];exact e9.1,F1,g1.fh,lU hx k.kf rs g1 m1 e9.2⟩⟩⟩
end
section
variable {X:Cx}[J:Jm]{a b c e:GI}{ta tb tc te:TME}{pos:GV}{st:GK}{rest:List GK}{t u:TMS}
def sm:TMS:=λE z M=>E.nx z M
def mSeq(t u:TMS):TMS:=λE z M=>t {E with nx:=u E} z M
def bv:MSs X [] sm:=⟨pss_nil.anti λE s H q=>by
 obtain⟨F0,F,z,M,k,rs,ED,h,e⟩:=q;exact e.nx z s M F H k h rs⟩
def ar(h1:MSt X st t)(h2:MSs X rest u):MSs X (st::rest) (mSeq t u):=⟨(dg h1.out h2.out).anti λE s H q=>by
 obtain⟨F0,F,z,M,k,rs,ED,h,e⟩:=q;exact⟨F0,F,z,M,k,rs,{ED with nx:=u ED},h,⟨λz' s' M' F' H' k' hz r'=>⟨F0,F',z',M',k',r',ED,hz,e⟩,e.rt,e.bk,e.ct⟩⟩⟩
def aA(h1:MSt X st t):MSs X [st] t:=⟨jK h1.out⟩
def mRet(te:TME):TMS:=λE z M=>te z M E.rt
def aK(he:ME X e te):MSt X (.Return (be e) pos) (mRet te):=⟨(jL he.out).anti λE s H q=>by
 obtain⟨F0,F,z,M,k,rs,ED,h,e⟩:=q;exact⟨F,z,M,k.kf,rs,_,h,λd v M' F' H' g hd rd m'=>e.rt d v M' F' H' (k.growM rs.mb g) hd rd m' (rs.growM k.bh g m').mb⟩⟩
def so(te:TME):TMS:=λE z M=>te z M λ_ M1=>E.nx z M1
def bN(he:ME X e te)(hs:G2 e t8 pos.line X.env=pure false:=by rfl):MSt X (.Expr e pos) (so te):=⟨(fU he.out hs).anti λE s H q=>by
 obtain⟨F0,F,z,M,k,rs,ED,h,e⟩:=q;exact⟨F,z,M,k.kf,rs,_,h,λd v M' F' H' g hd rd m'=>e.nx z s M' F' H' (k.growM rs.mb g) hd (rs.growM k.bh g m')⟩⟩
def mIfS(c:TMT)(t u:TMS):TMS:=λE z M=>c z M λb M1=>if b=true then t E z M1 else u E z M1
def bC{c:GI}{l r:List GK}{tc:TMT}(hc:MT X c tc)(ha:MSs X l t)(hb:MSs X r u):MSt X (.If c l r pos) (mIfS tc t u):=⟨(jM hc.out ha.out hb.out).anti λE s H q=>by
 obtain⟨F0,F,z,M,k,rs,ED,h,e⟩:=q;refine⟨F,z,M,k.kf,rs,_,h,λb M1 F1 H1 g hk m1=>?_⟩;cases b with
 |true=>exact⟨F0,F1,z,M1,k.growM rs.mb g,rs.growM k.bh g m1,ED,hk,e⟩
 |false=>exact⟨F0,F1,z,M1,k.growM rs.mb g,rs.growM k.bh g m1,ED,hk,e⟩⟩
def mIfJ(c:TMT)(t u:TMS):TMS:=λE z M=>∃ J:SD->MS->Prop,(c z M λb M1=>if b=true then t {E with nx:=J} z M1 else u {E with nx:=J} z M1)/\∀ z' M',J z' M'->E.nx z' M'
def lV{c:GI}{l r:List GK}{tc:TMT}(hc:MT X c tc)(ha:MSs X l t)(hb:MSs X r u):MSt X (.If c l r pos) (mIfJ tc t u):=⟨(bC hc ha hb).out.anti λE s H q=>by
 obtain⟨F0,F,z,M,k,rs,ED,⟨J,h,j⟩,e⟩:=q;exact⟨F0,F,z,M,k,rs,{ED with nx:=J},h,⟨λz' s' M' F' H' k' hz r'=>e.nx z' s' M' F' H' k' (j z' M' hz) r',e.rt,e.bk,e.ct⟩⟩⟩
def mSet(i:Nat)(te:TME):TMS:=λE z M=>∃ P:D->MS->Prop,te z M P/\∀ d M',P d M'->E.nx (z.set i (be d)) M'
def aP(i:Nat){x:y8}{c8:GV}(hN:X.N.Nodup)(he:ME X e te)(hi:X.N[i]?=be x:=by rfl)(hx:Loc X.env.scope x:=by first|exact Or.inl rfl|exact Or.inr rfl)(hs:G2 e (be (.Name x c8)) pos.line X.env=pure false:=by rfl)
  (hf:zFN X x:=by first|exact .inl rfl|exact .inr rfl|assumption):MSt X (.Assign [.Name x c8] e pos) (mSet i te):=⟨(fV hN hi hx he.out hs hf).anti λE s H q=>by
 obtain⟨F0,F,z,M,k,rs,ED,⟨P,h,j⟩,e⟩:=q;exact⟨F,z,M,k.kf,rs,P,h,λd v M' F' H' g hd rd m'=>e.nx _ _ M' F' H' (k.growM rs.mb g) (j d M' hd) ((rs.growM k.bh g m').set rd)⟩⟩
def sq(x f:y8)(to te:TME):TMS:=λE z M=>te z M λd M1=>to z M1 λo M2=>match o with| .ptr a=>∃ fs,mget M2 a=be (.ins x fs)/\fs.length<1000/\E.nx z (mput M2 a (.ins x (putD f d fs)))|_=>False
def eL{x f:y8}{o:GI}{to:TME}{c8:GV}(hA:ClsA X.K x f)(ho:ME X o to)(he:ME X e te)(hs:G2 e (be (.Attribute o f c8)) pos.line X.env=pure false:=by rfl):
  MSt X (.Assign [.Attribute o f c8] e pos) (sq x f to te):=⟨(ko ho.out he.out hs).anti λE s H q=>by
 obtain⟨C,hn,hc,hf⟩:=hA;obtain⟨F0,F,z,M,k,rs,ED,h,ee⟩:=q;refine⟨F,z,M,k.kf,rs,_,h,λd v M1 F1 H1 g1 hx rd m1=>?_⟩;have k1:=k.growM rs.mb g1;have t6:=rs.growM k.bh g1 m1;refine⟨F1,z,M1,k1.kf,t6,_,hx,λo' v' M2 F2 H2 g2 hy ro m2=>?_⟩;have k2:=k1.growM t6.mb g2;have BR:=t6.growM k1.bh g2 m2;split at hy
 .rename_i a;obtain⟨fs,hm,hl,A'⟩:=hy;obtain⟨C',dx,ws,g5,hH,rf⟩:=m2.ok _ _ (bq hm);rw[hn] at g5;cases g5;have fa:=m2.fr a (bH (bq hm));refine⟨a,C,dx,ws,rep_ptr.mp ro,hH,hc,hf,by rw[rf.length];exact hl,?_⟩;have m3:RepM X.K F2 (upd H2 a (.ins C dx (putF f v ws))) (mput M2 a (.ins x (putD f d fs))):=m2.put hm ⟨C,dx,_,hn,az,RepF.put (rd.mono g2.ff) rf⟩;have g3:GrowM M2 (mput M2 a (.ins x (putD f d fs))) F2 H2 F2 (upd H2 a (.ins C dx (putF f v ws))):=GrowM.put k2.fh fa hm;exact ee.nx z s _ F2 _ (k2.growM BR.mb g3) A' (BR.growM k2.bh g3 m3)
 .exact hy.elim⟩
def sr(c:TMT)(tb:TMS):TMS:=λE z M=>∃ W:Nat->SD->MS->Prop,(∃ m,W m z M)/\∀ m z M,W m z M->
 c z M λb M1=>if b=true then tb {E with nx:=λz' M'=>∃ m',m'<m/\W m' z' M',ct:=λz' M'=>∃ m',m'<m/\W m' z' M',bk:=E.nx} z M1 else E.nx z M1
def ss{c:GI}{body:List GK}{tc:TMT}{tb:TMS}(hp:G7 (GJ X.prog X.w) X.A X.env X.xe)(hc:MT X c tc)(hb:MSs X body tb):MSt X (.While c body [] pos) (sr tc tb):=⟨(jP hp hc.out hb.out).anti λE s H q=>by
 obtain⟨F0,F,z,M,k,rs,ED,⟨W,⟨m0,w0⟩,d0⟩,e⟩:=q;refine⟨λm s' H'=>∃ F' z' M',Kept J.B F0 F' H'/\RepZ X.K J.B F' H' z' s' M'/\W m z' M',⟨m0,F,z,M,k,rs,w0⟩,?_⟩;rintro m s1 H1 ⟨F1,z1,M1,k1,r1,w1⟩;refine⟨F1,z1,M1,k1.kf,r1,_,d0 m z1 M1 w1,λb M2 F2 H2 g2 hk m2=>?_⟩;cases b with
 |true=>
  refine⟨λs3 H3=>∃ F3 z3 M3,Kept J.B F0 F3 H3/\RepZ X.K J.B F3 H3 z3 s3 M3/\∃ m',m'<m/\W m' z3 M3,λs3 H3 ⟨F3,z3,M3,k3,r3,m',l,w3⟩=>⟨m',l,F3,z3,M3,k3,r3,w3⟩,?_⟩;exact⟨F0,F2,z1,M2,k1.growM r1.mb g2,r1.growM k1.bh g2 m2,_,hk,⟨λz3 s3 M3 F3 H3 k3 h3 r3=>⟨F3,z3,M3,k3,r3,h3⟩,e.rt,e.nx,λz3 s3 M3 F3 H3 k3 h3 r3=>⟨F3,z3,M3,k3,r3,h3⟩⟩⟩
 |false=>exact e.nx z1 s1 M2 F2 H2 (k1.growM r1.mb g2) hk (r1.growM k1.bh g2 m2)⟩
end
section
variable {X:Cx}[J:Jm]{a b c e o:GI}{ta tb tc te to:TME}{pos:GV}{st:GK}{rest:List GK}{t u:TMS}
abbrev TMI:=SD->MS->(List D->MS->Prop)->Prop
def mItR(t:TME):TMI:=λz M R=>t z M λx M1=>match x with| .int n=>(0<=n/\n<2 ^ 62)/\R ((xY n.toNat).map λk=>D.int ((k:Nat):Int)) M1|_=>False
def mFor(i:Nat)(ti:TMI)(tb:TMS):TMS:=λE z M=>ti z M λds M1=>∃ W:Nat->SD->MS->Prop,W 0 z M1/\(∀ k x z M,ds[k]?=be x->W k z M->tb {E with nx:=W (k+1),ct:=W (k+1),bk:=E.nx} (z.set i (be x)) M)/\∀ z M,W ds.length z M->E.nx z M
def su(i:Nat){x:y8}{p p1 p2:GV}{body:List GK}{tb:TMS}(hp:G7 (GJ X.prog X.w) X.A X.env X.xe)(hc:X.calm=true)(hN:X.N.Nodup)(hm:X.mg "range"=t8)(he:ME X e te)(hb:MSs X body tb)(hg:Gl X "range":=by rfl)(hi:X.N[i]?=be x:=by rfl)(hx:Loc X.env.scope x:=by first|exact Or.inl rfl|exact Or.inr rfl)
  (hf:zFN X x:=by first|exact .inl rfl|exact .inr rfl|assumption) (hs:∀ y,zFS X (.Call (.Name "range" p1) [e] [] p2) y:=by exact λ_=>rfl) (n5:zSE X e []:=by rfl) (f_:GO [e] X.env=[(false,GS e X.env)]:=by rfl):
  MSt X (.For (.Name x p) (.Call (.Name "range" p1) [e] [] p2) body [] pos) (mFor i (mItR te) tb):=⟨(cO hp hc (jS hg hm (aT he.out pa_nil n5) f_) (dh hN hi hx hf) hb.out hs).anti λE s H q=>by
 obtain⟨F0,F,z,M,kp,rs,ED,h,e⟩:=q;refine⟨F,z,M,kp.kf,rs,_,h,λd v M1 F1 H1 g1 hd rd m1=>?_⟩;split at hd
 .rename_i n;obtain⟨⟨b1,b2⟩,W,w0,d0,out⟩:=hd;have hl:((xY n.toNat).map λk=>D.int ((k:Nat):Int)).length=n.toNat:=by simp
  refine⟨n,by rw[rep_int.mp rd],by lia,b2,fW (lo:=0) (n:=n.toNat) (λk s' H'=>∃ F' z' M',Kept J.B F0 F' H'/\RepZ X.K J.B F' H' z' s' M'/\W k z' M') ⟨F1,z,M1,kp.growM rs.mb g1,rs.growM kp.bh g1 m1,w0⟩ ?_ ?_⟩
  .rintro k s' H' hk ⟨F',z',M',k',r',w'⟩;have e1:(0:Int)+(k:Int)=(k:Int):=by lia
   exact⟨F0,F',_,M',k',r'.set (d:= .int (k:Int)) (rep_int.mpr (by rw[e1])),_,d0 k (.int (k:Int)) z' M' (by simp[hk]) w',⟨λz3 s3 M3 F3 H3 k3 h3 r3=>⟨F3,z3,M3,k3,r3,h3⟩,e.rt,e.nx,λz3 s3 M3 F3 H3 k3 h3 r3=>⟨F3,z3,M3,k3,r3,h3⟩⟩⟩
  .rintro s' H' ⟨F',z',M',k',r',w'⟩;exact e.nx z' s' M' F' H' k' (out z' M' (by rw[hl];exact w')) r'
 .exact hd.elim⟩
def sv(te:TME):TME:=λz M R=>te z M λd M1=>match d with| .ptr a=>∃ ds,mget M1 a=be (.lst ds)/\R (.int ds.length) M1|_=>False
def sy{p:GV}(hm:X.mg "len"=t8)(ha:ME X e te)(hg:Gl X "len":=by rfl)(he:zSE X e []:=by rfl):ME X (.Call (.Name "len" p) [e] [] pos) (sv te):=⟨(dQ fY hg hm PySem.boot_len (aT ha.out pa_nil he) (by decide) (by decide) he).anti λs H Q h=>by
 obtain⟨F,z,M,k,rs,R,h1,h2⟩:=h;refine⟨F,z,M,k,rs,_,h1,λd v M1 F1 H1 g1 hx rx m1=>?_⟩;split at hx
 .rename_i a;obtain⟨ds,hm,hR⟩:=hx;obtain⟨vs,hH,rr⟩:=m1.ok _ _ (bq hm);exact⟨.ref a,vs.length,by rw[rep_ptr.mp rx],.inl ⟨vs,SqL.of hH,rfl⟩,h2 _ _ M1 F1 H1 g1 hR (rep_int.mpr (by rw[rr.length])) m1⟩
 .exact hx.elim⟩
def mIxP(ta tb:TME):TME:=λz M R=>ta z M λx M1=>tb z M1 λy M2=>match x,y with| .ptr a,.int i=>∃ ds,mget M2 a=be (.lst ds)/\∃ d,atI ds i=be d/\R d M2|_,_=>False
def sA(ha:ME X a ta)(hb:ME X b tb)(hs:cP b:=by exact λ_ _=>rfl):ME X (.Subscript a b pos) (mIxP ta tb):=⟨(pe_ix ix_list ha.out hb.out hs).anti λs H Q h=>by
 obtain⟨F,z,M,k,rs,R,h1,h2⟩:=h;refine⟨F,z,M,k,rs,_,h1,λx u M1 F1 H1 g1 hx rx m1=>?_⟩;refine⟨F1,z,M1,k.growM rs.mb g1,rs.growM k.bh g1 m1,_,hx,λy v M2 F2 H2 g2 hy ry m2=>?_⟩;split at hy
 .rename_i p i;obtain⟨ds,hm,d,hd,hR⟩:=hy;obtain⟨vs,hH,rr⟩:=m2.ok _ _ (bq hm);obtain⟨w,e2,j6⟩:=rr.at hd;exact⟨p,vs,_,w,rep_ptr.mp rx,rep_int.mp ry,SqL.of hH,e2,h2 d w M2 F2 H2 (g1.trans g2) hR j6 m2⟩
 .exact hy.elim⟩
def sB(to te:TME):TME:=λz M R=>to z M λo M1=>match o with| .ptr a=>(∃ ds,mget M1 a=be (.lst ds))/\te z M1 λd M2=>∃ ds,mget M2 a=be (.lst ds)/\ds.length<=100000/\R .non (mput M2 a (.lst (ds++[d])))|_=>False
def sC{apos cpos:GV}(ho:ME X o to)(he:ME X e te)(l_:zSE X e []:=by rfl)
  (b7:GQ o "append" X.env (GS o X.env)=GS o X.env:=by rfl)
  (d6:zHF X cpos [e]:=by rfl)
  (b_:(apos.endLine==cpos.line)=true:=by rfl):
  ME X (.Call (.Attribute o "append" apos) [e] [] cpos) (sB to te):=⟨(cQ PySem.F.plainAttrs_list PySem.F.slot_list_append PySem.F.type_list_append kC ho.out (aT he.out pa_nil l_) b7 d6 b_ l_).anti λs H Q h=>by
 obtain⟨F,z,M,k,rs,R,h1,h2⟩:=h;refine⟨F,z,M,k,rs,_,h1,λx u M1 F1 H1 g1 hx rx m1=>?_⟩;split at hx
 .rename_i a;obtain⟨⟨Gm,CO⟩,hx⟩:=hx;obtain⟨Fx,Fy,Gn⟩:=m1.ok _ _ (bq CO);rw[rep_ptr.mp rx];refine⟨.inl ⟨rfl,Fx,SqL.of Fy⟩,?_⟩;refine⟨F1,z,M1,k.growM rs.mb g1,rs.growM k.bh g1 m1,_,hx,λd v M2 F2 H2 g2 hd rd m2=>?_⟩;obtain⟨ds,hm,hl,hR⟩:=hd;obtain⟨vs,hH,rr⟩:=m2.ok _ _ (bq hm);have hz:vs.length<sizeLine:=by
   rw[rr.length];have h2:(100000:Nat)<sizeLine:=by decide
   lia
  refine⟨a,vs,v,rfl,rfl,hH,hz,?_⟩;exact h2 _ _ _ F2 _ (g1.trans (g2.trans (GrowM.put g2.fh (m2.fr a (bH (bq hm))) hm))) hR (rep_non.mpr rfl) (m2.put hm ⟨_,az,rr.append (ei rd)⟩)
 .exact hx.elim⟩
def frzD:MO->D| .ins x fs=> .obj x fs| .lst ds=> .lst ds| .dti a8=> .dti a8
def mFrz(i:Nat)(t:TMS):TMS:=λE z M=>match z[i]? with|some (be (.ptr a))=>∃ o,mget M a=be o/\t E (z.set i (be (frzD o))) (mdel M a)|_=>False
def lW(i:Nat){A8:List GK}(h:MSs X A8 t):MSs X A8 (mFrz i t):=⟨PSs.anti h.out λE s H q=>by
 obtain⟨F0,F,z,M,k,rs,ED,h,e⟩:=q;unfold mFrz at h;split at h
 .rename_i a ez;obtain⟨o,hm,h⟩:=h;have mem:=bq hm;have fa:=rs.rm.fr a (bH mem);have ba:=rs.mb a (bH mem);obtain⟨v,hv,rv⟩:=rs.rs.val i _ ez rfl;have Fz:=rep_ptr.mp rv;subst Fz;have hok:=rs.rm.ok a o mem;obtain⟨ho,d9,CP⟩:∃ ho,H a=be ho/\∀ F',Same F F'->F' a=be ho->Rep X.K F' (frzD o) (.ref a):=by
   cases o with
   |ins x fs=>obtain⟨C,dx,ws,n,h1,h2⟩:=hok;exact⟨_,h1,λF' s' hF=>rep_obj.mpr ⟨a,C,dx,ws,rfl,n,hF,RepF.mono s' fs ws h2⟩⟩
   |lst ds=>obtain⟨vs,h1,h2⟩:=hok;exact⟨_,h1,λF' s' hF=>rep_lst.mpr ⟨a,vs,rfl,hF,h2.mono s'⟩⟩
   |dti a8=>exact⟨_,hok,λF' s' hF=>rep_dti.mpr ⟨a,rfl,hF⟩⟩
  have s1:Same F (upd F a ho):=aU fa _;have hs:s.set i (be (.ref a))=s:=by
   apply zu;intro n;by_cases hn:i=n
   .subst hn;rw[yf (xO.mp hv).1,hv]
   .rw[xL hn]
  have k1:Kept J.B F0 (upd F a ho) H:=⟨k.bh,λb u q=>by
   by_cases hb:b=a
   .subst hb;rw[az] at q;cases q;exact d9
   .rw[aj hb] at q;exact k.fh b u q,k.f0.trans s1,λb h1 h2=>by
   by_cases hb:b=a
   .subst hb;exact absurd ba h2
   .rw[aj hb];exact k.out b h1 h2,k.eb,k.jf,k.jo⟩
  have r0:RepS X.K J.B (upd F a ho) H z s:=⟨rs.rs.len,λi d e n=>let ⟨v,q1,q2⟩:=rs.rs.val i d e n;⟨v,q1,q2.mono s1⟩,λi ds e=>absurd e (rs.no i ds),rs.rs.apart⟩;have FA:RepM X.K (upd F a ho) H (mdel M a):=⟨rs.rm.nd.sublist del_sub,λb q hb=>by
   obtain⟨ne,hb⟩:=gB rs.rm.nd hb;exact(rs.rm.ok b q hb).mono s1 λ_ z=>z,λb hb=>by
   obtain⟨⟨b',q⟩,gt,rfl⟩:=yy.mp hb;obtain⟨ne,Bj⟩:=gB rs.rm.nd gt;rw[aj ne];exact rs.rm.fr _ (bH Bj)⟩
  have z0:RepZ X.K J.B (upd F a ho) H z s (mdel M a):=⟨r0,rs.no,FA,λb hb=>rs.mb b (del_sub.subset hb)⟩;have z1:=z0.set (i:=i) (CP _ s1 az);rw[hs] at z1;exact⟨F0,_,_,_,k1,z1,ED,h,e⟩
 .exact h.elim⟩
end
def lY{K:xE}{F:Hp}{N:List y8}{ds:List D}{vs:List V}(rs:Reps K F ds vs):∀ (i:Nat) d,(startD N ds)[i]?≠be (be (.own d)):=by
 intro i d e;unfold startD at e;by_cases hi:i<ds.length
 .rw[yW (by simpa using hi),yj] at e;cases q:ds[i]? with
  |none=>rw[q] at e;cases e
  |some x=>
   rw[q] at e;cases e;obtain⟨v,_,q2⟩:=rs.get q;exact rep_own q2
 .rw[zm (by simpa using hi),zn] at e;split at e
  .cases e
  .cases e
def growM_nil{M':MS}{F H F' H':Hp}(g:GrowM [] M' F H F' H'):Grow F H F' H':=⟨g.ff,g.fh,λb o h=>g.hh b o (λz=>nomatch z) h,λb h1 h2=>g.out b (λz=>nomatch z) h1 h2⟩
section
variable {P:GH}{w:GM}{K:xE}{mg:y8->Option Da}{base:Heap}
def CalMM.toX{n:Nat}{x:y8}{ps:List y8}{S:SpM}{S0:SpX}(C:CalMM P w K mg base n x ps S)(h:∀ ds R RX,S0 ds R RX->S ds [] (λd _=>R d) λx fs _=>RX x fs):CalX P w K mg base n x ps S0:=by
 obtain⟨f,fd,F,hb,hk,hm⟩:=C;refine⟨f,fd,F.imp λvs H Q E q=>?_,hb,hk,hm⟩;obtain⟨F,ds,fh,rs,R,RX,hS,q1,q2⟩:=q;exact⟨F,ds,[],fh,rs,RepM.nil,_,_,h ds R RX hS,λd v M' F' H' g hd rd _=>q1 d v F' H' (growM_nil g) hd rd,λy fs C od M' F' H' g hR er _=>q2 y fs C od F' H' (growM_nil g) hR er⟩
open Classical in
def Fun.okM{x qual:y8}{st:GK}{f:GD}{fd:GR}{N ps:List y8}{k:Nat}{S:SpM}(T:Fun K x qual st f fd)(F:FnScope N ps (ae st))(len:∀ ds M R RX,S ds M R RX->ds.length=ps.length)
  (a9:∀ (cdv:Da) (A:GN) (outer:List Hl) (s:GE) (H:Hp) (E:XK) (J:Jm),Room k (A.deeper (GX qual (ae st) s.heap.objs.size f cdv))->XOkM (cxOf (CX1 P w) P w K mg base N qual (ae st) f cdv A outer s H E)->
   ∃ t,MSs (cxOf (CX1 P w) P w K mg base N qual (ae st) f cdv A outer s H E) (aF st) t/\∀ ds M R RX,(∀ z,J.RM z=λM' x fs=>RX x fs M')->S ds M R RX->t {nx:=λ_ M'=>R .non M',rt:=R} (startD N ds) M):FnOk P w K mg base (CX1 P w) (k+1) f fd ps (lSpM K S):=by
 refine Fun.okC T F (λvs H Q E h=>?_) (λcdv A outer s H vs Q E hr h=>?_)
 .obtain⟨F,ds,M,fh,rs,rm,R,RX,h,_⟩:=h;rw[rs.length];exact len ds M R RX h
 .obtain⟨F,ds,M,fh,rs,rm,R,RX,h,q,qx⟩:=h
  let B:Hp:=λb=>if b∈ak M then t8 else H b
  have Ee:∀ {b:GD},b∈ak M->B b=none:=λ{b} h=>if_pos h;have BS:∀ {b:GD},b ∉ ak M->B b=H b:=λ{b} h=>if_neg h
  letI:Jm:={B:=B,F0:=F,RX:=λ_ _ _=>False,RM:=λ_ M' x fs=>RX x fs M'}
  have gr:∀ {M':MS} {F' H':Hp},Kept B F F' H'->(∀ a,a∈ak M'->B a=t8)->GrowM M M' F H F' H':=λ{M' F' H'} k mb=>⟨k.f0,k.fh,λb o nb e=>k.bh b o (by rw[BS nb];exact e),λb nb h1 h2=>k.out b h1 (by rw[BS nb];exact h2),λb hb=>by
   by_cases nb:b∈ak M
   .exact .inl nb
   .right;rw[<- BS nb];exact mb b hb⟩
  have hx:XOkM (cxOf (CX1 P w) P w K mg base N qual (ae st) f cdv A outer s H E):=by
   intro σ z M' F' H' s' e C od y fs I kk rr hR er ⟨He,ne,_,hx⟩;have hE:E (.ref C) od H':=qx y fs C od M' F' H' (gr kk rr.mb) hR er rr.rm;rcases hx with⟨sl,vs,h1,h2⟩|⟨T,h1,h2,h3,_⟩
   .exact qc I h1 h2 He ne hE
   .exact qY I h1 ne h2 He h3 hE
  obtain⟨t,ht,hq⟩:=a9 cdv A outer s H E inferInstance hr hx;have k0:Kept B F F H:=⟨λb o e=>by
   by_cases nb:b∈ak M
   .rw[Ee nb] at e;cases e
   .rw[BS nb] at e;exact e,fh,Same.refl F,λ_ h _=>h,rfl,Same.refl F,λ_ h _=>h⟩
  have r0:RepZ K B F H (startD N ds) (L2.start N vs) M:=⟨dz rs,lY rs,rm,λa h=>Ee h⟩;exact⟨_,ht.out,F,F,startD N ds,M,k0,r0,_,hq ds M R RX (λ_=>rfl) h,⟨λz' s' M' F' H' k hn r=>q _ _ M' F' H' (gr k r.mb) hn (rep_non.mpr rfl) r.rm,λd v M' F' H' k hd rd Ef mb=>q d v M' F' H' (gr k mb) hd rd Ef,λ_ _ _ _ _ _ h _=>h.elim,λ_ _ _ _ _ _ h _=>h.elim⟩⟩
def Tx.okM{x:y8}{st:GK}{N ps:List y8}{k:Nat}{S:SpM}(T:Tx K mg x st ps)(F:FnScope N ps (ae st))(len:∀ ds M R RX,S ds M R RX->ds.length=ps.length)
  (a9:∀ (f:GD) (cdv:Da) (A:GN) (outer:List Hl) (s:GE) (H:Hp) (E:XK) (J:Jm),Room k (A.deeper (GX x (ae st) s.heap.objs.size f cdv))->XOkM (cxOf (CX1 P w) P w K mg base N x (ae st) f cdv A outer s H E)->
   ∃ t,MSs (cxOf (CX1 P w) P w K mg base N x (ae st) f cdv A outer s H E) (aF st) t/\∀ ds M R RX,(∀ z,J.RM z=λM' x fs=>RX x fs M')->S ds M R RX->t {nx:=λ_ M'=>R .non M',rt:=R} (startD N ds) M):CalMM P w K mg base (k+1) x ps S:=by
 obtain⟨f,fd,T,hb,hm⟩:=T;exact⟨f,fd,Fun.okM T F len λcdv A outer s H E J hr hx=>a9 f cdv A outer s H E J hr hx,hb,T.kp,hm⟩
def Txm(K:xE)(x m:y8)(qual:y8)(st:GK)(ps:List y8):Prop:=
 ∃ C f fd,nsIn K GF x=be (be (.ref C))/\Cls K C/\Meth K C m f/\Fun K m qual st f fd/\Binds K fd ps []
def Txm.okM{x m qual:y8}{st:GK}{N ps:List y8}{k:Nat}{S:SpM}(T:Txm K x m qual st ps)(F:FnScope N ps (ae st))(len:∀ ds M R RX,S ds M R RX->ds.length=ps.length)
  (a9:∀ (f:GD) (cdv:Da) (A:GN) (outer:List Hl) (s:GE) (H:Hp) (E:XK) (J:Jm),Room k (A.deeper (GX qual (ae st) s.heap.objs.size f cdv))->XOkM (cxOf (CX1 P w) P w K mg base N qual (ae st) f cdv A outer s H E)->
   ∃ t,MSs (cxOf (CX1 P w) P w K mg base N qual (ae st) f cdv A outer s H E) (aF st) t/\∀ ds M R RX,(∀ z,J.RM z=λM' x fs=>RX x fs M')->S ds M R RX->t {nx:=λ_ M'=>R .non M',rt:=R} (startD N ds) M):CalMth P w K mg base (k+1) x m ps (lSpM K S):=by
 obtain⟨C,f,fd,h1,h2,h3,T,hb⟩:=T;exact⟨C,f,fd,h1,h2,h3,Fun.okM T F len λcdv A outer s H E J hr hx=>a9 f cdv A outer s H E J hr hx,hb⟩
end
end My
namespace L2
section
variable {X:Cx}{pins:List (GD × GZ)}{σ:St}{H:Hp}{s:GE}{h':Heap}
def Inv.turned2{t':Nat}{e it:GD}(I:Inv X pins σ H s)(k:∀ b o,b≠e->b≠it->s.heap.get? b=be o->h'.get? b=be o)(he:FpOk X pins H e)(hi:FpOk X pins H it):Inv X pins σ H {s with heap:=h',toks:=t'}:=by
 obtain⟨e0,e1,e2,e3,e4,e5⟩:=he;obtain⟨i0,i1,i2,i3,i4,i5⟩:=hi;have x_:∀ b u,H b=be u->b≠e/\b≠it:=λb u q=>⟨(λz=>by rw[z,e0] at q;cases q),(λz=>by rw[z,i0] at q;cases q)⟩;have nc:∀ {b:GD},b ∉ [e,it]->b≠e/\b≠it:=λ{b} h=>⟨λz=>h (by simp[z]),λz=>h (by simp[z])⟩;refine I.step (g':=s.gens) (d':=s.drawn) (ch:=[e,it]) (λb hb=>?_) (λb o _ _ hc q _=>k b o (nc hc).1 (nc hc).2 q) (λb o _ _ hc q _=>⟨o.slots,k b o (nc hc).1 (nc hc).2 q⟩) (λ_ _ _ _ n=>n)
  (λb o hc q=>⟨o,k b o (nc hc).1 (nc hc).2 q⟩) (λ_ _ q=>q) (λ_ _ _ q=>q) (λb ps q=>⟨#[],by rw[q];simp⟩) (λm hm=>?_) (λb u q=>?_) I.bare
 .rcases xJ.mp hb with z|z
  .rw[z];exact⟨e3,e1,e4,e5⟩
  .rw[xF.mp z];exact⟨i3,i1,i4,i5⟩
 .obtain⟨o,es,ep,ho,r⟩:=hm;exact⟨o,es,ep,k _ o (Ne.symm e1) (Ne.symm i1) ho,r⟩
 .refine(I.hok b u q).stay (λc v hc q'=>k c v ?_ ?_ q') (λ_ q=>q) λ_ _ q=>q
  .rcases hc with z|z
   .rw[z];exact(x_ b u q).1
   .exact(x_ c _ z).1
  .rcases hc with z|z
   .rw[z];exact(x_ b u q).2
   .exact(x_ c _ z).2
end
def Itel(K:xE)(a:GD):It:=
 ⟨λi H=>∃ xs x,SqL K H a xs/\xs[i]?=be x,λi H x H'=>∃ T v,H T=t8/\x= .ref T/\H'=upd H T (.tup [.int i,v])/\∀ xs,SqL K H a xs->xs[i]?=be v,λi H=>∃ xs,SqL K H a xs/\xs.length<=i⟩
def Ites(x:y8):It:=⟨λi _=>i<x.length,λi H v H'=>∃ T c,H T=t8/\v= .ref T/\H'=upd H T (.tup [.int i,.str ⟨#[c]⟩])/\x.cps[i]?=be c,λi _=>i=x.length⟩
def sD{P:GH}{w:GM}{H:Hp}{h:Heap}{T:GD}{i:Int}{t:Tok}{v:V}{u:Da}(r:RelV v u)(q:h.get? T=be {cls:= .type "tuple",data:= .seq #[.int i t,u]}):ObjOk P w H h T (.tup [.int i,v]):=
 ⟨by show 2<=sizeLine;decide,[.int i t,u],.cons ⟨t,rfl⟩ (.cons r .nil),⟨_,q,rfl,_,rfl⟩⟩
def lZ{X:Cx}{pins:List (GD × GZ)}{σ:St}{H:Hp}{s:GE}{h':Heap}{t':Nat}{e it:GD}{i:Int}{t:Tok}{v:V}{u:Da}(I:Inv X pins σ H s)(he:FpOk X pins H e)(hi:FpOk X pins H it)(le:e<s.heap.objs.size)(li:it<s.heap.objs.size)(r:RelV v u)
  (hT:h'.get? s.heap.objs.size=be {cls:= .type "tuple",data:= .seq #[.int i t,u]}) (hk:∀ b o,b≠e->b≠it->s.heap.get? b=be o->h'.get? b=be o):Inv X pins σ (upd H s.heap.objs.size (.tup [.int i,v])) {s with heap:=h',toks:=t'}:=by
 have I1:Inv X pins σ (upd H s.heap.objs.size (.tup [.int i,v])) {s with heap:=s.heap.push {cls:= .type "tuple",data:= .seq #[.int i t,u]},toks:=t'}:=
  I.laid (λb o q=>Heap.get?_push_of_some _ q) (xH _) (sD r (Heap.get?_push_size _ rfl))
 have fp:∀ {b:GD},FpOk X pins H b->b<s.heap.objs.size->FpOk X pins (upd H s.heap.objs.size (.tup [.int i,v])) b:=λ{b} h l=>⟨by rw[aj (xM l)];exact h.1,h.2⟩;refine I1.turned2 (h':=h') (t':=t') (λb o h1 h2 q=>?_) (fp he le) (fp hi li);rcases Heap.get?_push_cases (show(s.heap.push {cls:= .type "tuple",data:= .seq #[.int i t,u]}).get? b=be o from q) with⟨rfl,rfl⟩|q2
 .exact hT
 .exact hk b o h1 h2 q2
def sE{P:GH}{w:GM}{K:xE}{m4:List GI}{x1:Nat}{tp:GV}(a e it:GD)(AK:e≠it):Turn P w K (.Tuple m4 x1 tp) (Itel K a) [e,it] e (λi h=>(∃ i9,IsEnum h e it i i9)/\h.IsListIter it a i) where
 mem:=by simp
 obj:=λi h st b hb=>by
  obtain⟨⟨i9,he⟩,hit⟩:=st;rcases xJ.mp hb with z|z
  .rw[z];exact⟨_,he,λv z=>by cases z⟩
  .rw[xF.mp z];obtain⟨o,ho,c,d⟩:=hit;exact⟨o,ho,λv z=>by rw[d] at z;cases z⟩
 keep:=λi h h' st k=>⟨let ⟨i9,he⟩:=st.1;⟨i9,k e (by simp) _ he⟩,st.2.at λo q=>k it (by simp) o q⟩
 item:=by
  intro X hP hw hK hc i pins s σ H E I hf st hg;subst hP hw hK;obtain⟨xs,x,hq,hx⟩:=hg;obtain⟨a_,rv,p,hz⟩:=I.list hq;obtain⟨u,hu,ru⟩:=rv.get hx;obtain⟨⟨i9,he⟩,hit⟩:=st;have fe:=hf e (by simp);have fi:=hf it (by simp);have le:e<s.heap.objs.size:=Heap.lt_size he;have li:it<s.heap.objs.size:=by obtain⟨o,ho,_⟩:=hit;exact Heap.lt_size ho
  refine wpAny_pyNext_enum_item he hit p.isList (x:=u) (by simpa using hu) AK λh' s9 AB hT j4 hk=>?_;refine⟨_,rfl,HG s9 λh2 CQ h_=>?_⟩;have j7:Heap.SameBut e h' h2:=h_;have nT:s.heap.objs.size≠e:=yC le;have I1:Inv X pins σ (upd H s.heap.objs.size (.tup [.int i,x])) {s with heap:=h2,toks:=s.toks+1}:=lZ I fe fi le li ru ((j7.2 _ nT).trans hT) λb o h1 h3 q=>(j7.2 b h1).trans (hk b o h1 h3 q);refine⟨.ref s.heap.objs.size,_,I1,rfl,⟨_,x,I.hok.fresh (xH _),rfl,rfl,λys hy=>by rw[I.list_inj hy hq];exact hx⟩,⟨⟨u,by simpa using CQ⟩,AB.at λo q=>(j7.2 it (Ne.symm AK)).trans q⟩,λb hb=>?_⟩;rcases xJ.mp hb with z|z
  .rw[z,aj (xM le)];exact fe.1
  .rw[xF.mp z,aj (xM li)];exact fi.1
 done:=by
  intro X hP hw hK hc i pins s σ H E I hf st hg;subst hP hw hK;obtain⟨xs,hq,hx⟩:=hg;obtain⟨a_,rv,p,hz⟩:=I.list hq;obtain⟨⟨i9,he⟩,hit⟩:=st;have hl:=rv.length;obtain⟨f0,f1,f2,f3,f4,f5⟩:=hf it (by simp);exact wpAny_pyNext_enum_end (I.ok.hd hc) he hit p.isList (by simp;lia) λh' eb=>⟨rfl,I.turned (t':=s.toks) (λb o hb q=>eb b o hb q) f0 f1 f3 f4 f5⟩
 self:=λ_ _ _ _ _ st h=>let ⟨⟨i9,he⟩,_⟩:=st;Hh he h
def sF{P:GH}{w:GM}{K:xE}{m4:List GI}{x1:Nat}{tp:GV}(x:y8)(t:Tok)(e it:GD)(AK:e≠it):Turn P w K (.Tuple m4 x1 tp) (Ites x) [e,it] e (λi h=>(∃ i9,IsEnum h e it i i9)/\h.IsStrIter it "str_ascii_iterator" x t i) where
 mem:=by simp
 obj:=λi h st b hb=>by
  obtain⟨⟨i9,he⟩,hit⟩:=st;rcases xJ.mp hb with z|z
  .rw[z];exact⟨_,he,λv z=>by cases z⟩
  .rw[xF.mp z];obtain⟨o,ho,c,d⟩:=hit;exact⟨o,ho,λv z=>by rw[d] at z;cases z⟩
 keep:=λi h h' st k=>⟨let ⟨i9,he⟩:=st.1;⟨i9,k e (by simp) _ he⟩,let ⟨o,ho,r⟩:=st.2;⟨o,k it (by simp) o ho,r⟩⟩
 item:=by
  intro X hP hw hK hc i pins s σ H E I hf st hg;subst hP hw hK;have hi:i<x.cps.size:=hg;obtain⟨⟨i9,he⟩,hit⟩:=st;have fe:=hf e (by simp);have fi:=hf it (by simp);have le:e<s.heap.objs.size:=Heap.lt_size he;have li:it<s.heap.objs.size:=by obtain⟨o,ho,_⟩:=hit;exact Heap.lt_size ho
  refine wpAny_pyNext_enum_itemD (Draws.strAscii (A:=X.A.in1) (by exact I.ok.hd hc) it x t) he hit hi AK (by simp[AK]) λu h' tk hP s9 AB hT j4 hk=>?_;obtain⟨c,tu,AI,rfl⟩:=hP;refine⟨_,rfl,HG s9 λh2 CQ h_=>?_⟩;have j7:Heap.SameBut e h' h2:=h_;have nT:s.heap.objs.size≠e:=yC le;have I1:Inv X pins σ (upd H s.heap.objs.size (.tup [.int i,.str ⟨#[c]⟩])) {s with heap:=h2,toks:=tk+1}:=lZ I fe fi le li ⟨tu,rfl⟩ ((j7.2 _ nT).trans hT) λb o h1 h3 q=>(j7.2 b h1).trans (hk b o h1 h3 q);refine⟨.ref s.heap.objs.size,_,I1,rfl,⟨_,c,I.hok.fresh (xH _),rfl,rfl,AI⟩,⟨⟨_,by simpa using CQ⟩,let ⟨o,ho,r⟩:=AB;⟨o,(j7.2 it (Ne.symm AK)).trans ho,r⟩⟩,λb hb=>?_⟩;rcases xJ.mp hb with z|z
  .rw[z,aj (xM le)];exact fe.1
  .rw[xF.mp z,aj (xM li)];exact fi.1
 done:=by
  intro X hP hw hK hc i pins s σ H E I hf st hg;subst hP hw hK;have hi:i=x.cps.size:=hg;subst hi;obtain⟨⟨i9,he⟩,hit⟩:=st;obtain⟨f0,f1,f2,f3,f4,f5⟩:=hf it (by simp);exact wpAny_pyNext_enum_endD (Draws.strAscii (A:=X.A.in1) (by exact I.ok.hd hc) it x t) he hit λh' eb=>⟨rfl,I.turned (t':=s.toks) (λb o hb q=>eb b o hb q) f0 f1 f3 f4 f5⟩
 self:=λ_ _ _ _ _ st h=>let ⟨⟨i9,he⟩,_⟩:=st;Hh he h
def iEnL(K:xE)(ta:TA):TI:=λσ H R=>ta σ H λvs H1=>∃ a,vs=[.ref a]/\(∃ xs,SqL K H1 a xs)/\R (Itel K a) H1
def iEnS(ta:TA):TI:=λσ H R=>ta σ H λvs H1=>∃ x,vs=[.str x]/\x.cps.all (·<128)=true/\R (Ites x) H1
section
variable {X:Cx}{m4:List GI}{x1:Nat}{tp p pos:GV}{l:GI}{ta:TA}
def sG(hg:Gl X "enumerate")(hm:X.mg "enumerate"=t8)(ha:PA X [l] ta)(hs:GO [l] X.env=[(false,GS l X.env)]:=by rfl):PI X (.Tuple m4 x1 tp) (.Call (.Name "enumerate" p) [l] [] pos) (iEnL X.K ta):=by
 intro pins s σ H R I h;refine Call_ (ce I hg hm PyProof.Rows.boot_enumerate (PyProof.Rows.callWith_type1 (thn (ha pos pins s σ H _ I h) λus s1 ⟨vs,H1,I1,r1,q1⟩=>?_) hs rfl));obtain⟨a,rfl,⟨xs,hq⟩,q⟩:=q1;obtain⟨u,rfl,ru⟩:=bG r1;cases ru;obtain⟨a_,rv,pl,hz⟩:=I1.list hq;refine call_enumerate_list pl.isList λh' he hit j4 hk=>?_;have I2:Inv X pins σ H1 {s1 with heap:=h'}:=I1.kept (t':=s1.toks) hk;refine Hh he ?_;have ne:s1.heap.objs.size+1≠s1.heap.objs.size:=zY _;refine⟨s1.heap.objs.size+1,[s1.heap.objs.size+1,s1.heap.objs.size],_,_,H1,rfl,I2,sE a _ _ ne,⟨⟨_,he⟩,hit⟩,λb hb=>?_,q⟩;rcases xJ.mp hb with z|z
 .rw[z];exact I1.fpOk (yv _) (I1.hok.fresh (yv _))
 .rw[xF.mp z];exact I1.fpOk (xH _) (I1.hok.fresh (xH _))
def sH(hg:Gl X "enumerate")(hm:X.mg "enumerate"=t8)(ha:PA X [l] ta)(hs:GO [l] X.env=[(false,GS l X.env)]:=by rfl):PI X (.Tuple m4 x1 tp) (.Call (.Name "enumerate" p) [l] [] pos) (iEnS ta):=by
 intro pins s σ H R I h;refine Call_ (ce I hg hm PyProof.Rows.boot_enumerate (PyProof.Rows.callWith_type1 (thn (ha pos pins s σ H _ I h) λus s1 ⟨vs,H1,I1,r1,q1⟩=>?_) hs rfl));obtain⟨x,rfl,CS,q⟩:=q1;obtain⟨u,rfl,t,rfl⟩:=bG r1;refine call_enumerate_str λh' he hit j4 hk=>?_;have I2:Inv X pins σ H1 {s1 with heap:=h'}:=I1.kept (t':=s1.toks) hk;refine Hh he ?_;have ne:s1.heap.objs.size+1≠s1.heap.objs.size:=zY _;have FC:strIterType x="str_ascii_iterator":=by unfold strIterType;rw[CS];rfl
 rw[FC] at hit;refine⟨s1.heap.objs.size+1,[s1.heap.objs.size+1,s1.heap.objs.size],_,_,H1,rfl,I2,sF x t _ _ ne,⟨⟨_,he⟩,hit⟩,λb hb=>?_,q⟩;rcases xJ.mp hb with z|z
 .rw[z];exact I1.fpOk (yv _) (I1.hok.fresh (yv _))
 .rw[xF.mp z];exact I1.fpOk (xH _) (I1.hok.fresh (xH _))
end
end L2
namespace My
open Exc
section
variable {X:Cx}[J:Jm]{a b c e o:GI}{ta tb tc te to:TME}{pos:GV}{st:GK}{rest:List GK}{t u:TMS}
def ma{K:xE}{F:Hp}:∀ (is:List Nat) (ds:List D) (vs:List V) (z:SD),Reps K F ds vs->(∀ (i:Nat) d,z[i]?≠be (be (.own d)))->∀ (i:Nat) d,(ci is ds z)[i]?≠be (be (.own d))
 |[],_,_,z,_,h=>h
 |_::_,[],_,z,_,h=>h
 |i::is,d::ds,vs,z,r,h=>by
  obtain⟨v,vr,rfl,r1,r2⟩:=reps_cons.mp r;refine ma is ds vr _ r2 λj q e=>?_;by_cases hj:i=j
  .subst hj;rw[yD] at e;simp at e;have:=r1.noown;rw[e.2] at this;cases this
  .rw[xL hj] at e;exact h j q e
def mItE(t:TME):TMI:=λz M R=>t z M λx M1=>match x with| .lst ds=>R ds M1|_=>False
def sI(t:TME):TMI:=λz M R=>t z M λx M1=>match x with| .str x=>x.cps.all (·<128)=true/\R (cy x) M1|_=>False
def me(is:List Nat)(ti:TMI)(tb:TMS):TMS:=λE z M=>ti z M λds M1=>∃ W:Nat->SD->MS->Prop,W 0 z M1/\(∀ (k:Nat) x z M,ds[k]?=be x->W k z M->tb {E with nx:=W (k+1),ct:=W (k+1),bk:=E.nx} (ci is [.int k,x] z) M)/\∀ z M,W ds.length z M->E.nx z M
def mf{K:xE}{F0 F1 H1:Hp}{z:SD}{s:L2.St}{M1:MS}{E:Ends}{ED:EndsM}{It':It}{g:TG}{tb:TMS}{Eg:TS}{ds:List D}{is:List Nat}(hK:K=X.K)(k1:Kept J.B F0 F1 H1)(t6:RepZ K J.B F1 H1 z s M1)(e:EndsOkM K F0 ED E)(b9:is.length=2)
  (go:∀ k F' H',Same F1 F'->Same F' H'->k<ds.length->It'.go k H') (stop:∀ F' H',Same F1 F'->Same F' H'->It'.stop ds.length H')
  (yld:∀ k F' H' x AL,Same F1 F'->Same F' H'->k<ds.length->It'.yld k H' x AL->∃ T d v,H' T=t8/\x= .ref T/\AL=upd H' T (.tup [.int k,v])/\ds[k]?=be d/\Rep K F' d v)
  (hg:∀ (dd:List D) (vs:List V) (T:GD) (z:SD) (s:L2.St) (F H:Hp) (Q:L2.St->Hp->Prop),dd.length=2->H T=be (.tup vs)->Reps K F dd vs->RepS K J.B F H z s->(∀ s',RepS K J.B F H (ci is dd z) s'->Q s' H)->g (.ref T) s H Q)
  (FD:∀ E s H,mS K tb E s H->Eg E s H)
  (hd:∃ W:Nat->SD->MS->Prop,W 0 z M1/\(∀ (k:Nat) x z M,ds[k]?=be x->W k z M->tb {ED with nx:=W (k+1),ct:=W (k+1),bk:=ED.nx} (ci is [.int k,x] z) M)/\∀ z M,W ds.length z M->ED.nx z M):
  ∃ W:Nat->Nat->L2.St->Hp->Prop,(∃ m,W 0 m s H1)/\∀ i m σ H,W i m σ H->
   (It'.stop i H/\E.nx σ H)\/(It'.go i H/\∃ N:L2.St->Hp->Prop,(∀ σ' H',N σ' H'->∃ m',m'<m/\W (i+1) m' σ' H')/\∀ x H',It'.yld i H x H'->g x σ H' λσ2 H2=>Eg {E with nx:=N,ct:=N,bk:=E.nx} σ2 H2):=by
 obtain⟨W,w0,d0,out⟩:=hd;refine⟨λk m s' H'=>m=ds.length - k/\k<=ds.length/\∃ F' z' M',Kept J.B F0 F' H'/\Same F1 F'/\RepZ K J.B F' H' z' s' M'/\W k z' M',⟨ds.length,by simp,yg _,F1,z,M1,k1,Same.refl F1,t6,w0⟩,?_⟩;rintro k m s' H' ⟨rfl,hk,F',z',M',k',g',r',w'⟩;by_cases j_:k<ds.length
 .refine .inr ⟨go k F' H' g' k'.fh j_,λs3 H3=>∃ F3 z3 M3,Kept J.B F0 F3 H3/\Same F1 F3/\RepZ K J.B F3 H3 z3 s3 M3/\W (k+1) z3 M3,λs3 H3 h3=>⟨ds.length - (k+1),by lia,rfl,j_,h3⟩,λx AL hy=>?_⟩;obtain⟨T,d,v,hT,rfl,rfl,hd,rd⟩:=yld k F' H' x AL g' k'.fh j_ hy;have gn:=Grow.new k'.fh hT (.tup [.int k,v]);have k2:=k'.grow gn;have r2:=r'.growM k'.bh gn.toM (r'.rm.grow gn);have rp:Reps K (upd F' T (.tup [.int k,v])) [.int k,d] [.int k,v]:=reps_cons.mpr ⟨_,_,rfl,rep_int.mpr rfl,ei (rd.mono gn.ff)⟩;refine hg [.int k,d] _ T z' s' _ _ _ rfl az rp r2.rs λs2 BR=>FD _ _ _ ?_;have gF:Same F1 (upd F' T (.tup [.int k,v])):=g'.trans gn.ff;refine⟨upd F' T (.tup [.int k,v]),upd F' T (.tup [.int k,v]),_,M',⟨k2.bh,k2.fh,Same.refl _,λb h1 _=>h1,k2.eb,k2.jf.trans k2.f0,λb h1 h2=>k2.out b (k2.jo b h1 h2) h2⟩,⟨BR,ma is _ _ z' rp r2.no,r2.rm,r2.mb⟩,_,d0 k d z' M' hd w',?_⟩;have up:∀ {F3 H3:Hp},Kept J.B (upd F' T (.tup [.int k,v])) F3 H3->Kept J.B F0 F3 H3:=λk3=>⟨k3.bh,k3.fh,k2.f0.trans k3.f0,λb h1 h2=>k3.out b (k2.out b h1 h2) h2,k2.eb,k2.jf,k2.jo⟩;exact⟨λz3 s3 M3 F3 H3 k3 h3 r3=>⟨F3,z3,M3,up k3,gF.trans k3.f0,r3,h3⟩,λd v M3 F3 H3 k3=>e.rt d v M3 F3 H3 (up k3),λz3 s3 M3 F3 H3 k3=>e.nx z3 s3 M3 F3 H3 (up k3),λz3 s3 M3 F3 H3 k3 h3 r3=>⟨F3,z3,M3,up k3,gF.trans k3.f0,r3,h3⟩⟩
 .have ek:k=ds.length:=by lia
  subst ek;exact .inl ⟨stop F' H' g' k'.fh,e.nx z' s' M' F' H' k' (out z' M' w') r'⟩
def sJ{es:List GI}{x1:Nat}{tp p1 p2:GV}{is:List Nat}{body:List GK}{tb:TMS}(hp:G7 (GJ X.prog X.w) X.A X.env X.xe)(hc:X.calm=true)(hm:X.mg "enumerate"=t8)(he:ME X e te)(hG:DGs X es is)(hb:MSs X body tb)(b9:is.length=2:=by rfl)(hg:Gl X "enumerate":=by rfl)
  (hn:(GT es X.env).length=2:=by rfl) (n_:(GT es X.env).findIdx? (·.1)=none:=by rfl)
  (hs:∀ y,zFS X (.Call (.Name "enumerate" p1) [e] [] p2) y:=by exact λ_=>rfl) (n5:zSE X e []:=by rfl) (f_:GO [e] X.env=[(false,GS e X.env)]:=by rfl):
  MSt X (.For (.Tuple es x1 tp) (.Call (.Name "enumerate" p1) [e] [] p2) body [] pos) (me is (mItE te) tb):=by
 obtain⟨ug,CT,kk⟩:=hG;refine⟨(cO hp hc (sG hg hm (aT he.out pa_nil n5) f_) (jO hc CT hn n_) hb.out hs).anti λE s H q=>?_⟩;obtain⟨F0,F,z,M,kp,rs,ED,h,e⟩:=q;refine⟨F,z,M,kp.kf,rs,_,h,λd v M1 F1 H1 g1 hd rd m1=>?_⟩;split at hd
 .rename_i ds;obtain⟨p,vs,rfl,hq,rr⟩:=rep_lst.mp rd;refine⟨p,rfl,⟨vs,SqL.of (g1.fh _ _ hq)⟩,mf (It':=Itel X.K p) rfl (kp.growM rs.mb g1) (rs.growM kp.bh g1 m1) e b9 (λk F' H' s1 s2 hk=>?_) (λF' H' s1 s2=>?_) (λk F' H' x AL s1 s2 hk hy=>?_) (λdd k9 T z s F H Q hl hT rp AM hQ=>?_) (λ_ _ _ h=>h) hd⟩
  .have AC:k<vs.length:=by rw[rr.length];exact hk
   exact⟨vs,vs[k],SqL.of (s2 _ _ (s1 _ _ hq)),by simp[AC]⟩
  .exact⟨vs,SqL.of (s2 _ _ (s1 _ _ hq)),by rw[rr.length];exact xH _⟩
  .obtain⟨T,v,hT,e1,e2,hv⟩:=hy;obtain⟨d,hd,rd⟩:=rr.get' (hv vs (SqL.of (s2 _ _ (s1 _ _ hq))));exact⟨T,d,v,hT,e1,e2,hd,rd.mono s1⟩
  .exact⟨T,k9,rfl,SqT.of hT,by rw[rp.length];exact hl,kk dd k9 z s J.B F H Q (by rw[hl,b9]) rp AM hQ⟩
 .exact hd.elim
def sK{es:List GI}{x1:Nat}{tp p1 p2:GV}{is:List Nat}{body:List GK}{tb:TMS}(hp:G7 (GJ X.prog X.w) X.A X.env X.xe)(hc:X.calm=true)(hm:X.mg "enumerate"=t8)(he:ME X e te)(hG:DGs X es is)(hb:MSs X body tb)(b9:is.length=2:=by rfl)(hg:Gl X "enumerate":=by rfl)
  (hn:(GT es X.env).length=2:=by rfl) (n_:(GT es X.env).findIdx? (·.1)=none:=by rfl)
  (hs:∀ y,zFS X (.Call (.Name "enumerate" p1) [e] [] p2) y:=by exact λ_=>rfl) (n5:zSE X e []:=by rfl) (f_:GO [e] X.env=[(false,GS e X.env)]:=by rfl):
  MSt X (.For (.Tuple es x1 tp) (.Call (.Name "enumerate" p1) [e] [] p2) body [] pos) (me is (sI te) tb):=by
 obtain⟨ug,CT,kk⟩:=hG;refine⟨(cO hp hc (sH hg hm (aT he.out pa_nil n5) f_) (jO hc CT hn n_) hb.out hs).anti λE s H q=>?_⟩;obtain⟨F0,F,z,M,kp,rs,ED,h,e⟩:=q;refine⟨F,z,M,kp.kf,rs,_,h,λd v M1 F1 H1 g1 hd rd m1=>?_⟩;split at hd
 .rename_i x;obtain⟨ha,hd⟩:=hd;have hl:=lH x;refine⟨x,by rw[rep_str.mp rd],ha,mf (It':=Ites x) rfl (kp.growM rs.mb g1) (rs.growM kp.bh g1 m1) e b9 (λk F' H' s1 s2 hk=>?_) (λF' H' s1 s2=>?_) (λk F' H' x AL s1 s2 hk hy=>?_) (λdd k9 T z s F H Q hl hT rp AM hQ=>?_) (λ_ _ _ h=>h) hd⟩
  .rw[hl] at hk;exact hk
  .exact hl
  .obtain⟨T,c,hT,e1,e2,hc⟩:=hy;exact⟨T,.str ⟨#[c]⟩,.str ⟨#[c]⟩,hT,e1,e2,rD hc,rep_str.mpr rfl⟩
  .exact⟨T,k9,rfl,SqT.of hT,by rw[rp.length];exact hl,kk dd k9 z s J.B F H Q (by rw[hl,b9]) rp AM hQ⟩
 .exact hd.elim
end
end My
namespace L2
section
variable {prog:GH}{w:GM}{K:Type}[DecidableEq K]{g9:HeapKind prog w K}{A:GN}{E:Da->GE->Prop}{s:GE}{d a:GD}{k:K}{xs:List (K × GD × Da)}
def sL{v:Da}{Q:Da->GE->Prop}(hu:g9.room A)(j3:g9.is s.heap k a)(hm:s.heap.DictOfH g9 d xs)
  (h1:∀ p,HB xs k=be p->Q p.2 {s with toks:=s.toks+g9.draws k})
  (h2:HB xs k=t8->∀ h',h'.DictOfH g9 d (xs++[(k,a,v)])->Heap.SameBut d s.heap h'->Q v {s with heap:=h',toks:=s.toks+g9.draws k})
  (j4:xs.length<=sizeLine):GL (GJ prog w) A (HI d (.ref a) v) Q E s:=by
 obtain⟨o,es,ep,ho,hc,hd,he,Eh,hn⟩:=hm;unfold HI
 try with_reducible refine Hj ?_
 refine GG (g9.pyHash hu j3 ?_);refine GG (wpAny_dictFind_heap (s:={s with toks:=s.toks+g9.draws k}) hu j3 ho hd he Eh hn ?_ ?_)
 .intro c_;have CU:k ∉ xs.map (·.1):=not_mem_keys_of_get c_;refine GG (wpAny_rule (GG (wpAny_updateDictKeys (hz:=by have e:=size_of_entries he;lia) (s:={s with toks:=s.toks+g9.draws k}) ho hd (GP (h2 (atKey_none_of_get c_) _ ⟨_,_,ep+1,Heap.get?_update_self _ ho (Obj.isFreed_of_dict (Obj.data_mapDictKeys hd _)),
   hc.mapDictKeys _,Obj.data_mapDictKeys hd _,?_,?_,?_⟩ (Heap.SameBut.update ..))))))
  .simp[he,entryOfKey]
  .intro x hx;rcases yc.mp hx with hx|hx
   .exact g9.keeps (Eh x hx) ho hd (Heap.SameBut.update ..)
   .simp only[xF] at hx;subst hx;exact g9.keeps j3 ho hd (Heap.SameBut.update ..)
  .rw[yo,yL];refine⟨hn,by simp,?_⟩;intro x hx y hy;simp only[xN,zp,xF] at hy;subst hy;exact λe=>CU (e ▸ hx)
 .intro j p hj;refine GG (wpAny_dictEntries (s:={s with toks:=s.toks+g9.draws k}) ho hd ?_);rw[entry_at he j,hj];exact GG (wpAny_rule (GP (h1 p (atKey_of_get hn hj))))
def sM(g9:HeapKind prog w K)(d a:GD)(hd:(d==G9)=false)(v:Da):
  MeetsIn prog w (Builtin.«dict.setdefault» ⟨[.ref d,.ref a,v],[]⟩) (λA R s=>g9.room A.in1/\∃ k xs,g9.is s.heap k a/\s.heap.DictOfH g9 d xs/\xs.length<=sizeLine/\
   (∀ p,HB xs k=be p->R (.ok (.ret p.2)) {s with toks:=s.toks+g9.draws k})/\
   (HB xs k=t8->∀ h',h'.DictOfH g9 d (xs++[(k,a,v)])->Heap.SameBut d s.heap h'->R (.ok (.ret v)) {s with heap:=h',toks:=s.toks+g9.draws k})):=
 .of_wp λA R s hh=>by
  obtain⟨hu,k,xs,j3,hm,hz,h1,h2⟩:=hh;unfold Builtin.«dict.setdefault»;refine GG ?_;unfold Builtin.Dict.keyAndDefault;refine GG (wpAny_notOrdered_dict hm.typeIs ?_);show GL _ _ (pure (d,Value.ref a,be v)) _ _ s;refine GP ?_;show GL _ _ (if(d==G9)=true then _ else(HI d (.ref a) v>>=_)) _ _ s;rw[if_neg (by rw[hd];exact xK)];exact GG (sL hu j3 hm (λp hp=>GP ⟨p.2,rfl,h1 p hp⟩) (λhn h' Cm BU=>GP ⟨v,rfl,h2 hn h' Cm BU⟩) hz)
end
end L2
namespace My
open Exc
def cA:List ((Int × Int) × Int)->Int->Int->Option Int
 |[],_,_=>t8
 |((a,b),h)::r,x,y=>if a=x/\b=y then be h else cA r x y
def mh(x y:Int):∀ a8:List ((Int × Int) × Int),valV (dtiV a8) [.inl x,.inl y]=(cA a8 x y).map V.int
 |[]=>rfl
 |((a,b),h)::r=>by
  show valV (([.inl a,.inl b],V.int h)::dtiV r) _=_;unfold cA;by_cases e:a=x/\b=y
  .rw[if_pos e,gj (by rw[e.1,e.2])];rfl
  .rw[if_neg e,gk (λz=>e (by
    have z':([Sum.inl a,Sum.inl b]:List Key)=[.inl x,.inl y]:=z;injection z' with z1 z2;injection z2 with z2 _;exact⟨Sum.inl.inj z1,Sum.inl.inj z2⟩)),mh x y r]
def sdD(a8:List ((Int × Int) × Int))(x y v:Int):List ((Int × Int) × Int):=if(cA a8 x y).isSome then a8 else a8++[((x,y),v)]
def rSdT:V->List V->Hp->VK->Prop:=λx vs H Q=>∃ a b i j d a8,x= .ref a/\vs=[.ref b,.int d]/\H a=be (.dT (dtiV a8))/\H b=be (.tup [.int i,.int j])/\a8.length<100000/\∀ w,Q (.int w) (upd H a (.dT (dtiV (sdD a8 i j d))))
def sN{H:Hp}{a:GD}{o:HO}(h:H a=be o):upd H a o=H:=by
 funext b;by_cases e:b=a
 .subst e;rw[az,h]
 .rw[aj e]
def sO{X:Cx}(hu:X.A.units+1<cLine):MtR X "dict.setdefault" rSdT:=by
 intro pins s σ H x vs v us Q I rx rv h;obtain⟨a,b,i,j,d,a8,rfl,rfl,ha,hb,hl,q⟩:=h;obtain⟨u,u',rfl,ru,t,rfl⟩:=kg rv;cases(show v=Value.ref a from rx);cases(show u=Value.ref b from ru);obtain⟨z,hd,xs,rel,dd⟩:=pS I.hok ha;have b9:xs.length=a8.length:=by rw[<- Paired.length rel];simp[dtiV]
 have big:(100000:Nat)<sizeLine:=by decide
 have gt:H b=be (.tup (([.inl i,.inl j]:List Key).map kV)):=hb;have g_:=rel.val [.inl i,.inl j];rw[mh] at g_;refine call_meetsIn PySem.F.slot_dict_setdefault dd.typeIs PySem.F.entry_dict_setdefault (PySem.F.args_dict_setdefault_3 _ _ _) (sM (Hs (bx X.prog X.w)) a b hd (.int d t)) ⟨tupleKind_room_in1 hu,[.inl i,.inl j],xs,key_of I.hok gt,dd,by lia,λp hp=>?_,λhn h' Be hs=>?_⟩
 .rw[hp] at g_;cases e:cA a8 i j with
  |none=>rw[e] at g_;exact g_.elim
  |some w=>
   rw[e] at g_;have:=q w;unfold sdD at this;rw[e] at this;have e2:(if(be w:Option Int).isSome then a8 else a8++[((i,j),d)])=a8:=rfl;rw[e2,sN ha] at this;exact⟨.int w,H,I.tok _,g_,this⟩
 .rw[hn] at g_;cases e:cA a8 i j with
  |some w=>rw[e] at g_;exact g_.elim
  |none=>
   have e2:sdD a8 i j d=a8++[((i,j),d)]:=by unfold sdD;rw[e];rfl
   have e3:dtiV (sdD a8 i j d)=dtiV a8++[([.inl i,.inl j],.int d)]:=by rw[e2];simp[dtiV]
   obtain⟨o,es,ep,ho,hx,h3,h4,_,h5⟩:=Be;have new:ObjOk X.prog X.w (upd H a (.dT (dtiV (sdD a8 i j d)))) h' a (.dT (dtiV (sdD a8 i j d))):=by
    refine⟨by rw[e3,xP];simp[dtiV];lia,hd,_,?_,o,es,ep,ho,hx,h3,h4,h5⟩;rw[e3];refine KT.keeps (H:=H) (Paired.snoc (a:=(([.inl i,.inl j]:List Key),V.int d)) (b:=(([.inl i,.inl j]:List Key),b,Value.int d t)) rel ⟨rfl,gt,⟨t,rfl⟩⟩) λc ys ec=>?_;rw[aj (nI ec ha (λz=>nomatch z))];exact ec
   exact⟨.int d,_,pT I (by rw[ha];exact True.intro) hs ⟨o,ho⟩ new,⟨t,rfl⟩,q d⟩
section
variable {X:Cx}[J:Jm]{a b c e o f:GI}{ta tb tc te to:TME}{pos apos cpos:GV}{t:TMA}
def mD0:TME:=λ_ M R=>R (.dti []) M
def sP:ME X (.Dict [] [] pos) mD0:=⟨pe_dnewT.anti λs H Q q=>by
 obtain⟨F,z,M,k,rs,R,h1,h2⟩:=q;intro p hp;have gn:=Grow.new k.fh hp (.dT []);exact h2 _ _ M _ _ gn.toM h1 (rep_dti.mpr ⟨p,rfl,az⟩) (rs.rm.grow gn)⟩
def mDN:TME:=λ_ M R=>∀ p,p ∉ ak M->R (.ptr p) ((p,.dti [])::M)
def sQ:ME X (.Dict [] [] pos) mDN:=⟨pe_dnewT.anti λs H Q q=>by
 obtain⟨F,z,M,k,rs,R,h1,h2⟩:=q;intro p hp;exact h2 _ _ _ F _ (GrowM.new k.fh hp) (h1 p λz=>rs.rm.here z hp) (rep_ptr.mpr rfl) (rs.rm.new k.fh hp az)⟩
def xB(to:TME)(t:TMA):TME:=λz M R=>to z M λd M1=>match d with| .dti a8=>(t z M1 λds M2=>match ds with|[.tup [.int i,.int j],.int x]=>R (.int ((cA a8 i j).getD x)) M2|_=>False)|_=>False
def mDsd(to:TME)(t:TMA):TME:=λz M R=>to z M λd M1=>match d with| .ptr a=>(∃ a8,mget M1 a=be (.dti a8))/\(t z M1 λds M2=>match ds with|[.tup [.int i,.int j],.int x]=>∃ a8,mget M2 a=be (.dti a8)/\a8.length<100000/\∀ w,R (.int w) (mput M2 a (.dti (sdD a8 i j x)))|_=>False)|_=>False
def sR(hu:X.A.units+1<cLine)(ho:ME X o to)(ha:MA X [e,f] t)(b7:GQ o "setdefault" X.env (GS o X.env)=GS o X.env:=by rfl)
  (d6:zHF X cpos [e,f]:=by rfl)
  (b_:(apos.endLine==cpos.line)=true:=by rfl) (l_:zSE X e [f]:=by rfl) (c7:zPL X cpos [f]:=by rfl):
  ME X (.Call (.Attribute o "setdefault" apos) [e,f] [] cpos) (mDsd to t):=⟨(cQ PySem.F.plainAttrs_dict PySem.F.slot_dict_setdefault PySem.F.type_dict_setdefault (sO hu) ho.out ha.out b7 d6 b_ l_ c7).anti λs H Q h=>by
 obtain⟨F,z,M,k,rs,R,h1,h2⟩:=h;refine⟨F,z,M,k,rs,_,h1,λx u M1 F1 H1 g1 hx rx m1=>?_⟩;split at hx
 .rename_i a;obtain⟨⟨Go,CO⟩,hx⟩:=hx;rw[rep_ptr.mp rx];refine⟨.inr (.inr (.inl ⟨rfl,.inr ⟨_,m1.ok _ _ (bq CO)⟩⟩)),?_⟩;refine⟨F1,z,M1,k.growM rs.mb g1,rs.growM k.bh g1 m1,_,hx,λds vs M2 F2 H2 g2 hd rd m2=>?_⟩;split at hd
  .rename_i i j x;obtain⟨a8,hm,hl,hR⟩:=hd;obtain⟨v1,r1,rfl,q1,q2⟩:=reps_cons.mp rd;obtain⟨v2,r2,rfl,q3,q4⟩:=reps_cons.mp q2;rw[reps_nil.mp q4,rep_int.mp q3];obtain⟨b,us,rfl,hb,ru⟩:=rep_tupS.mp q1;have FE:us=[.int i,.int j]:=(Reps.ints (ns:=[i,j])).mp ru;subst FE;refine⟨a,b,i,j,x,a8,rfl,rfl,m2.ok _ _ (bq hm),g2.fh _ _ hb,hl,λw=>?_⟩;exact h2 _ _ _ F2 _ (g1.trans (g2.trans (GrowM.put g2.fh (m2.fr a (bH (bq hm))) hm))) (hR w) (rep_int.mpr rfl) (m2.put hm az)
  .exact hd.elim
 .exact hx.elim⟩
end
section
variable {P:GH}{w:GM}{K:xE}{mg:y8->Option Da}{base:Heap}
open Classical in
def Cls.okIM{x qual:y8}{st:GK}{f C:GD}{fd:GR}{N:List y8}{p0:y8}{ps:List y8}{k:Nat}{S:SiD}(T:Fun K "__init__" qual st f fd)(hb:Binds K fd (p0::ps) [])(F:FnScope N (p0::ps) (ae st))(len:∀ ds R,S ds R->ds.length=ps.length)
  (f9:nsIn K GF x=be (be (.ref C))) (i7:mg x=be (.ref C)) (mk:Mk K C f)
  (a9:∀ (cdv:Da) (A:GN) (outer:List Hl) (s:GE) (H:Hp) (E:XK) (J:Jm),Room k (A.deeper (GX qual (ae st) s.heap.objs.size f cdv))->XOkM (cxOf (CX1 P w) P w K mg base N qual (ae st) f cdv A outer s H E).nox->
   ∃ t,MSs (cxOf (CX1 P w) P w K mg base N qual (ae st) f cdv A outer s H E).nox (aF st) t/\∀ a ds R,(∀ z M x fs,¬ J.RM z M x fs)->S ds R->t {nx:=λ_ M'=>∃ fs,M'=[(a,.ins x fs)]/\R fs,rt:=λ_ _=>False} (startD N (.ptr a::ds)) [(a,.ins x [])]):CalM P w K mg base (k+1) x (p0::ps) S:=by
 refine⟨C,f,fd,f9,i7,mk,Fun.okC T F (λvs H Q E h=>?_) (λcdv A outer s H vs Q E hr h=>?_),hb⟩
 .obtain⟨a,dx,us,H1,F,ds,rfl,_,_,_,_,_,rs,R,h,_⟩:=h;rw[xG,xG,rs.length,len ds R h]
 .obtain⟨a,dx,us,H1,F1,ds,rfl,rfl,ha,p6,i8,fh,rs,R,h,q⟩:=h
  let H:Hp:=upd (upd H1 dx (.own a)) a (.ins C dx [])
  let B:Hp:=λb=>if b=a then t8 else H b
  have Ei:B a=none:=if_pos rfl;have hB:∀ {b:GD},b≠a->B b=H b:=λ{b} h=>if_neg h;have u6:∀ {b:GD} {o:HO},H1 b=be o->b≠a/\H b=be o:=λ{b o} e=>by
   have n1:b≠a:=bo e ha;exact⟨n1,by show upd _ _ _ b=_;rw[aj n1,aj (bo e p6)];exact e⟩
  letI:Jm:={B:=B,F0:=F1,RX:=λ_ _ _=>False,RM:=λ_ _ _ _=>False}
  have hx:XOkM (cxOf (CX1 P w) P w K mg base N qual (ae st) f cdv A outer s H E).nox:=λσ z M' F' H' s' e C od y fs I kk rr hR er _=>hR.elim;obtain⟨t,ht,hq⟩:=a9 cdv A outer s H E inferInstance hr hx;have Fa:F1 a=none:=fh.free ha;have k0:Kept B F1 F1 H:=⟨λb o e=>by
   by_cases n:b=a
   .rw[n,Ei] at e;cases e
   .rw[hB n] at e;exact e,λb o e=>(u6 (fh b o e)).2,Same.refl F1,λ_ h _=>h,rfl,Same.refl F1,λ_ h _=>h⟩
  have AM:Reps K F1 (.ptr a::ds) (.ref a::us):=reps_cons.mpr ⟨_,_,rfl,rep_ptr.mpr rfl,rs⟩;have FF:RepM K F1 H [(a,.ins x [])]:=⟨by simp[ak],λb o hb=>by
   have e:=xF.mp hb;cases e;exact⟨C,dx,[],f9,az,repf_nil.mpr rfl⟩,λb hb=>by
   have e:b=a:=by simpa[ak] using hb
   rw[e];exact Fa⟩
  have r0:RepZ K B F1 H (startD N (.ptr a::ds)) (L2.start N (.ref a::us)) [(a,.ins x [])]:=⟨dz AM,lY AM,FF,λb hb=>by
   have e:b=a:=by simpa[ak] using hb
   rw[e];exact Ei⟩
  refine⟨_,ht.out.nox,F1,F1,_,_,k0,r0,_,hq a ds R (λ_ _ _ _ z=>z) h,⟨λz' s' M' F' H' kk hn r=>?_,λd v M' F' H' kk hd rd Ef mb=>hd.elim,λ_ _ _ _ _ _ h _=>h.elim,λ_ _ _ _ _ _ h _=>h.elim⟩⟩;obtain⟨fs,rfl,hR⟩:=hn;obtain⟨C',u5,ws,g5,d9,rf⟩:=r.rm.ok a _ (xF.mpr rfl);have t5:nsIn K GF x=be (be (.ref C')):=g5;rw[f9] at t5;cases t5;exact q fs ws u5 F' H' ⟨kk.f0,kk.fh,λb o e=>kk.bh b o (by show B b=be o;rw[hB (u6 e).1];exact(u6 e).2),λb h1 h2=>kk.out b h1 (by
   show B b≠t8;cases e:H1 b with
   |none=>exact absurd e h2
   |some o=>rw[hB (u6 e).1,(u6 e).2];exact λz=>nomatch z)⟩ hR d9 (r.rm.fr a (by simp[ak])) rf
end
section
variable {P:GH}{w:GM}{K:xE}{mg:y8->Option Da}{base:Heap}{n:Nat}{x m:y8}{ps:List y8}
def CalMth.one{S:SpM}(h:CalMth P w K mg base n x m ps (lSpM K S)):∀ y,y∈[x]->CalMth P w K mg base n y m ps (lSpM K ((λ_=>S) y)):=λy hy=>by
 rw[xF.mp hy];exact h
def mi{f:GD}{fd:GR}{sp:Sp}(h:∀ vs H Q E,¬ sp vs H Q E):FnOk P w K mg base (CX1 P w) n f fd ps sp:=⟨λvs H Q E q=>(h _ _ _ _ q).elim,λA outer s H args us vs Q E _ _ _ _ q=>(h _ _ _ _ q).elim⟩
def mj{S:SpM}(h:∀ ds M R RX,¬ S ds M R RX):∀ vs H Q E,¬ lSpM K S vs H Q E:=by
 rintro vs H Q E ⟨F,ds,M,_,_,_,R,RX,q,_⟩;exact h ds M R RX q
def CalMth.never{qual:y8}{st:GK}{S:SpM}(T:Txm K x m qual st ps)(h:∀ ds M R RX,¬ S ds M R RX):CalMth P w K mg base n x m ps (lSpM K S):=by
 obtain⟨C,f,fd,h1,h2,h3,T,hb⟩:=T;exact⟨C,f,fd,h1,h2,h3,mi (mj h),hb⟩
def CalMM.never{st:GK}{S:SpM}(T:Tx K mg x st ps)(h:∀ ds M R RX,¬ S ds M R RX):CalMM P w K mg base n x ps S:=by
 obtain⟨f,fd,T,hb,hm⟩:=T;exact⟨f,fd,mi (mj h),hb,T.kp,hm⟩
end
def gI(S:SpM):SpM:=λds M R RX=>∃ M1 M2,M=M1++M2/\S ds M2 (λd M'=>R d (M1++M')) λx fs M'=>RX x fs (M1++M')
def keys_app{M1 M2:MS}{a:GD}:a∈ak (M1++M2)↔a∈ak M1\/a∈ak M2:=by unfold ak;rw[yo,yc]
def ml{K:xE}{S:SpM}{vs:List V}{H:Hp}{Q:VK}{E:XK}(h:lSpM K (gI S) vs H Q E):lSpM K S vs H Q E:=by
 obtain⟨F,ds,M,fh,rs,rm,R,RX,⟨M1,M2,rfl,hS⟩,q,qx⟩:=h;have nd:(ak M1++ak M2).Nodup:=by have:=rm.nd;unfold ak at this ⊢;rw[yo] at this;exact this
 have CV:∀ {a:GD},a∈ak M1->a ∉ ak M2:=λ{a} h1 h2=>(yL.mp nd).2.2 a h1 a h2 rfl;have FG:RepM K F H M2:=⟨(yL.mp nd).2.1,λa o h=>rm.ok a o (ym _ h),λa h=>rm.fr a (keys_app.mpr (.inr h))⟩;have up:∀ {M':MS} {F' H':Hp},GrowM M2 M' F H F' H'->RepM K F' H' M'->GrowM (M1++M2) (M1++M') F H F' H'/\RepM K F' H' (M1++M'):=λ{M' F' H'} g r=>by
  have q9:∀ {a:GD},a∈ak M1->H a≠none:=λ{a} h=>rm.here (keys_app.mpr (.inl h));have CW:∀ {a:GD},a∈ak M1->a ∉ ak M':=λ{a} h1 h2=>by
   rcases g.ks a h2 with z|z
   .exact CV h1 z
   .exact q9 h1 z
  refine⟨⟨g.ff,g.fh,λb o nb e=>g.hh b o (λz=>nb (keys_app.mpr (.inr z))) e,λb nb h1 h2=>g.out b (λz=>nb (keys_app.mpr (.inr z))) h1 h2,λb hb=>?_⟩,⟨?_,λa o h=>?_,λa h=>?_⟩⟩
  .rcases keys_app.mp hb with z|z
   .exact .inl (keys_app.mpr (.inl z))
   .exact(g.ks b z).imp (λz=>keys_app.mpr (.inr z)) id
  .unfold ak;rw[yo];exact yL.mpr ⟨(yL.mp nd).1,r.nd,λa h1 b h2 e=>CW h1 (e ▸ h2)⟩
  .rcases yc.mp h with z|z
   .have ka:a∈ak M1:=bH z;exact(rm.ok a o (yB _ z)).mono g.ff λo e=>g.hh a o (CV ka) e
   .exact r.ok a o z
  .rcases keys_app.mp h with z|z
   .exact g.out a (CV z) (rm.fr a (keys_app.mpr (.inl z))) (q9 z)
   .exact r.fr a z
 exact⟨F,ds,M2,fh,rs,FG,_,_,hS,λd v M' F' H' g hd rd m'=>q d v _ F' H' (up g m').1 hd rd (up g m').2,λx fs C od M' F' H' g hR er m'=>qx x fs C od _ F' H' (up g m').1 hR er (up g m').2⟩
section
variable {P:GH}{w:GM}{K:xE}{mg:y8->Option Da}{base:Heap}{n:Nat}{x m:y8}{ps:List y8}{S:SpM}
def CalMM.frame(C:CalMM P w K mg base n x ps S):CalMM P w K mg base n x ps (gI S):=C.imp λ_ _ _ _ h=>ml h
def CalMth.frame(C:CalMth P w K mg base n x m ps (lSpM K S)):CalMth P w K mg base n x m ps (lSpM K (gI S)):=C.imp λ_ _ _ _ h=>ml h
end
def nilX(S:SpX):SpM:=λds M R RX=>M=[]/\∃ (R0:D->Prop) (AD:XD),S ds R0 AD/\(∀ d M',R0 d->R d M')/\∀ x fs M',AD x fs->RX x fs M'
def CalMM.nilX{P:GH}{w:GM}{K:xE}{mg:y8->Option Da}{base:Heap}{n:Nat}{x:y8}{ps:List y8}{S:SpX}(C:CalMM P w K mg base n x ps (nilX S)):CalX P w K mg base n x ps S:=C.toX λ_ R RX h=>⟨rfl,R,RX,h,λ_ _ h=>h,λ_ _ _ h=>h⟩
end My
namespace My
section
variable {K:xE}{h:Heap}{mg:y8->Option Da}{x y m q f:y8}{st:GK}{ps:List y8}
abbrev NsC(K:xE)(x:y8)(C:GD):Prop:=nsIn K GF x=be (be (.ref C))
def NsC.uniq{C D:GD}(a:NsC K x C)(b:NsC K x D):C=D:=by
 have e:=a.symm.trans b;cases e;rfl
abbrev BindA(x q:y8)(st:GK)(ps:List y8):Prop:=∀ (kV doc pm:Da) (an:Option GD) (cdv ct:Da) (us:List Da),us.length=ps.length->Hf (fnOf x q (bb st) (aF st) (ae st) .none kV doc pm an cdv ct) ⟨us,[]⟩=pure (ps.zip us)
def FnIn(K:xE)(x:y8)(st:GK):Prop:=∃ f fd,NsC K x f/\Fun K x x st f fd
def fnIn_mk{f:GD}{oc:Da}{od an:Option GD}{sl:Array (Option Da)}{kV dc pm cd ct:Da}(a:nsIn K GF x=be (be (.ref f)))(l:K.lookup f=be ⟨oc,od,.func (fnOf x x (bb st) (aF st) (ae st) .none kV dc pm an cd ct),sl⟩)(c:codeIn K cd x=true)(k:keepIn K (.ref f)=true):FnIn K x st:=⟨f,_,a,dR l c k⟩
def FnIn.tx(T:FnIn K x st)(X:K.In h)(G:h.Ns GF mg)(b:BindA x x st ps):Tx K mg x st ps:=by
 obtain⟨f,fd,a,F⟩:=T;exact⟨f,fd,F,F.binds b,mg_of X G a⟩
def FnIn.law{p:y8}(T:FnIn K x st)(X:K.In h)(G:h.Ns GF mg){fa:GD}(A_:mg x=be (.ref fa))(b:∀ (kV doc pm:Da) (an:Option GD) (cdv ct v:Da),Hf (fnOf x x (bb st) (aF st) (ae st) .none kV doc pm an cdv ct) ⟨[v],[]⟩=pure [(p,v)]):∃ fd,(∀ (s:GE) (v:Da),Hw s fd ⟨[v],[]⟩ [(p,v)])/\Fun K x x st fa fd:=by
 obtain⟨f,fd,a,F⟩:=T;have e:=A_.symm.trans (mg_of X G a);cases e;refine⟨fd,λs v=>?_,F⟩;obtain⟨oc,od,kV,doc,pm,an,cdv,ct,osl,rfl,lk,e_⟩:=F.ex;exact .of_eq (b _ _ _ _ _ _ v)
def bf{us:List Da}{x:y8}{xs:List y8}(h:us.length=(x::xs).length):∃ u t,us=u::t/\t.length=xs.length:=by
 cases us with
 |nil=>cases h
 |cons u t=>exact⟨u,t,rfl,Nat.succ.inj h⟩
def len_0{us:List Da}(h:us.length=([]:List y8).length):us=[]:=zw h
def sS{x0:y8}(b:∀ (kV doc pm:Da) (an:Option GD) (cdv ct u0:Da),Hf (fnOf x q (bb st) (aF st) (ae st) .none kV doc pm an cdv ct) ⟨[u0],[]⟩=pure [(x0,u0)]):BindA x q st [x0]:=λkV doc pm an cdv ct us hl=>by
 obtain⟨u0,t0,rfl,h0⟩:=bf hl;cases len_0 h0;exact b kV doc pm an cdv ct u0
def bind2{x0 x1:y8}(b:∀ (kV doc pm:Da) (an:Option GD) (cdv ct u0 u1:Da),Hf (fnOf x q (bb st) (aF st) (ae st) .none kV doc pm an cdv ct) ⟨[u0,u1],[]⟩=pure [(x0,u0),(x1,u1)]):BindA x q st [x0,x1]:=λkV doc pm an cdv ct us hl=>by
 obtain⟨u0,t0,rfl,h0⟩:=bf hl;obtain⟨u1,t1,rfl,h1⟩:=bf h0;cases len_0 h1;exact b kV doc pm an cdv ct u0 u1
def bind3{x0 x1 x2:y8}(b:∀ (kV doc pm:Da) (an:Option GD) (cdv ct u0 u1 u2:Da),Hf (fnOf x q (bb st) (aF st) (ae st) .none kV doc pm an cdv ct) ⟨[u0,u1,u2],[]⟩=pure [(x0,u0),(x1,u1),(x2,u2)]):BindA x q st [x0,x1,x2]:=λkV doc pm an cdv ct us hl=>by
 obtain⟨u0,t0,rfl,h0⟩:=bf hl;obtain⟨u1,t1,rfl,h1⟩:=bf h0;obtain⟨u2,t2,rfl,h2⟩:=bf h1;cases len_0 h2;exact b kV doc pm an cdv ct u0 u1 u2
def bind4{x0 x1 x2 x3:y8}(b:∀ (kV doc pm:Da) (an:Option GD) (cdv ct u0 u1 u2 u3:Da),Hf (fnOf x q (bb st) (aF st) (ae st) .none kV doc pm an cdv ct) ⟨[u0,u1,u2,u3],[]⟩=pure [(x0,u0),(x1,u1),(x2,u2),(x3,u3)]):BindA x q st [x0,x1,x2,x3]:=λkV doc pm an cdv ct us hl=>by
 obtain⟨u0,t0,rfl,h0⟩:=bf hl;obtain⟨u1,t1,rfl,h1⟩:=bf h0;obtain⟨u2,t2,rfl,h2⟩:=bf h1;obtain⟨u3,t3,rfl,h3⟩:=bf h2;cases len_0 h3;exact b kV doc pm an cdv ct u0 u1 u2 u3
def bind5{x0 x1 x2 x3 x4:y8}(b:∀ (kV doc pm:Da) (an:Option GD) (cdv ct u0 u1 u2 u3 u4:Da),Hf (fnOf x q (bb st) (aF st) (ae st) .none kV doc pm an cdv ct) ⟨[u0,u1,u2,u3,u4],[]⟩=pure [(x0,u0),(x1,u1),(x2,u2),(x3,u3),(x4,u4)]):BindA x q st [x0,x1,x2,x3,x4]:=λkV doc pm an cdv ct us hl=>by
 obtain⟨u0,t0,rfl,h0⟩:=bf hl;obtain⟨u1,t1,rfl,h1⟩:=bf h0;obtain⟨u2,t2,rfl,h2⟩:=bf h1;obtain⟨u3,t3,rfl,h3⟩:=bf h2;obtain⟨u4,t4,rfl,h4⟩:=bf h3;cases len_0 h4;exact b kV doc pm an cdv ct u0 u1 u2 u3 u4
structure ClF(K:xE)(x:Str)(C:GD):Prop where
 ns:NsC K x C
 cl:Cls K C
 ha:xI K (.ref C) "__class__"=be (be (.builtin "object.__class__"))
 hn:specialIn K (.builtin "object.__class__") "__get__"=be (be (.builtin "getset_descriptor.__get__"))
 ht:takesIn K (.builtin "object.__class__")=be true
 hm:yn K C (.type "object")=be true
def ClIn(K:xE)(x:y8):Prop:=∃ C,ClF K x C
def clIn_mk{C:GD}(a:nsIn K GF x=be (be (.ref C)))(pg:plainGet K C Str.empty=true)(hd:hasDictIn K C=true)(po:plainOver K C=true)(sa:xI K (.ref C) "__setattr__"=be (be (.builtin "object.__setattr__")))
  (ha:xI K (.ref C) "__class__"=be (be (.builtin "object.__class__"))) (hn:specialIn K (.builtin "object.__class__") "__get__"=be (be (.builtin "getset_descriptor.__get__"))) (ht:takesIn K (.builtin "object.__class__")=be true) (hm:yn K C (.type "object")=be true):ClIn K x:=⟨C,a,⟨pg,hd,po,sa⟩,ha,hn,ht,hm⟩
def ClIn.i(c:ClIn K x)(X:K.In h)(G:h.Ns GF mg):∃ C,ClsI K mg x C:=by
 obtain⟨C,k⟩:=c;exact⟨C,k.ns,mg_of X G k.ns,k.cl,k.ha,k.hn,k.ht,k.hm,rA⟩
def NoIn(K:xE)(x f:y8):Prop:=∃ C,NsC K x C/\xI K (.ref C) f=be t8
def noIn_mk{C:GD}(a:nsIn K GF x=be (be (.ref C)))(b:xI K (.ref C) f=be t8):NoIn K x f:=⟨C,a,b⟩
def ClIn.a(c:ClIn K x)(n:NoIn K x f):ClsA K x f:=by
 obtain⟨C,k⟩:=c;obtain⟨D,a,b⟩:=n;cases NsC.uniq k.ns a;exact⟨C,a,k.cl,b⟩
def NoIn.all(n:NoIn K x f):∀ C,nsIn K GF x=be (be (.ref C))->xI K (.ref C) f=be none:=λC hC=>by
 obtain⟨D,a,b⟩:=n;cases NsC.uniq hC a;exact b
def MtIn(K:xE)(x m q:y8)(st:GK):Prop:=∃ C f fd,NsC K x C/\Meth K C m f/\Fun K m q st f fd
def mtIn_mk{C f:GD}{oc:Da}{od an:Option GD}{sl:Array (Option Da)}{kV dc pm cd ct:Da}(a:nsIn K GF x=be (be (.ref C)))(b:xI K (.ref C) m=be (be (.ref f)))(i:isFn K (.ref f)=true)(l:K.lookup f=be ⟨oc,od,.func (fnOf m q (bb st) (aF st) (ae st) .none kV dc pm an cd ct),sl⟩)(c:codeIn K cd q=true)(k:keepIn K (.ref f)=true):MtIn K x m q st:=⟨C,f,_,a,⟨b,i,k⟩,dR l c k⟩
def MtIn.txm(T:MtIn K x m q st)(c:ClIn K x)(b:BindA m q st ps):Txm K x m q st ps:=by
 obtain⟨C,k⟩:=c;obtain⟨D,f,fd,a,mt,F⟩:=T;cases NsC.uniq k.ns a;exact⟨C,f,fd,a,k.cl,mt,F,F.binds b⟩
def InIn(K:xE)(x q:y8)(st:GK):Prop:=∃ C f fd,NsC K x C/\Mk K C f/\Fun K "__init__" q st f fd
def inIn_mk{C f:GD}{oc:Da}{od an:Option GD}{sl:Array (Option Da)}{kV dc pm cd ct:Da}(a:nsIn K GF x=be (be (.ref C)))(mk:makesIn K C=true)(b:xI K (.ref C) "__init__"=be (be (.ref f)))(i:isFn K (.ref f)=true)(kp:keepIn K (.ref C)=true)(l:K.lookup f=be ⟨oc,od,.func (fnOf "__init__" q (bb st) (aF st) (ae st) .none kV dc pm an cd ct),sl⟩)(c:codeIn K cd q=true)(k:keepIn K (.ref f)=true):InIn K x q st:=⟨C,f,_,a,⟨mk,b,i,kp⟩,dR l c k⟩
def Txi(K:xE)(mg:y8->Option Da)(x q:y8)(st:GK)(ps:List y8):Prop:=∃ C f fd,NsC K x C/\mg x=be (.ref C)/\Mk K C f/\Fun K "__init__" q st f fd/\Binds K fd ps []
def InIn.txi(T:InIn K x q st)(X:K.In h)(G:h.Ns GF mg)(b:BindA "__init__" q st ps):Txi K mg x q st ps:=by
 obtain⟨C,f,fd,a,mk,F⟩:=T;exact⟨C,f,fd,a,mg_of X G a,mk,F,F.binds b⟩
def CiIn(K:xE)(x:y8)(i:Int):Prop:=∃ t,nsIn K GF x=be (be (.int i t))
def CsIn(K:xE)(x y:y8):Prop:=∃ t,nsIn K GF x=be (be (.str y t))
def ciIn_mk{i:Int}{t:Tok}(a:nsIn K GF x=be (be (.int i t))):CiIn K x i:=⟨t,a⟩
def csIn_mk{t:Tok}(a:nsIn K GF x=be (be (.str y t))):CsIn K x y:=⟨t,a⟩
def CiIn.g{i:Int}(c:CiIn K x i)(X:K.In h)(G:h.Ns GF mg):∃ t,mg x=be (.int i t):=let ⟨t,a⟩:=c;⟨t,mg_of X G a⟩
def CsIn.g(c:CsIn K x y)(X:K.In h)(G:h.Ns GF mg):∃ t,mg x=be (.str y t):=let ⟨t,a⟩:=c;⟨t,mg_of X G a⟩
def NnIn(K:xE)(x:y8):Prop:=nsIn K GF x=be t8
def nnIn_mk(a:nsIn K GF x=be t8):NnIn K x:=a
structure ErF(K:xE)(x:Str)(bm:List Da)(C N:GD):Prop where
 ns:NsC K x C
 kp:keepIn K (.ref C)=true
 ob:∃ nm q bs sn sub ab col dd k0 k1 k2 k3 k5,K.lookup C=be (G0 nm q C N bs bm true sn sub ab col dd k0 k1 k2 k3 k5 "ValueError.__new__")
structure ErN(K:xE)(N:GD):Prop where
 ok:nsOkIn K N=true
 no:nsIn K N "__init__"=be t8
def EbIn(K:xE):Prop:=∃ C N,ErF K "MotifError" Exc.veLine C N/\ErN K N
def EdIn(K:xE)(x:y8)(C N:GD):Prop:=∃ B,NsC K "MotifError" B/\ErF K x (.ref B::Exc.veLine) C N
def E0In(K:xE)(x:y8):Prop:=∃ C N,EdIn K x C N/\ErN K N
def E1In(K:xE)(x q:y8)(st:GK):Prop:=∃ C N f fd,EdIn K x C N/\xI K (.ref C) "__init__"=be (be (.ref f))/\isFn K (.ref f)=true/\Fun K "__init__" q st f fd
def EaIn(K:xE)(x:y8):Prop:=∃ C,NsC K x C/\xI K (.ref C) "__setattr__"=be (be (.builtin "object.__setattr__"))
def EgIn(K:xE)(x:y8):Prop:=∃ C,NsC K x C/\xI K (.ref C) "__getattribute__"=be (be (.builtin "BaseException.__getattribute__"))/\xI K (.ref C) "__getattr__"=be t8
def EiIn(K:xE)(x:y8):Prop:=∃ M,NsC K x M/\readsIn K M (.type "type")=true/\findCls K (.ref M) (.type "type") "__init__"=be (.val (.builtin "ValueError.__init__"))/\specialIn K (.ref M) "__getattribute__"=be (be (.builtin "type.__getattribute__"))
def EmIn(K:xE)(x y:y8):Prop:=∃ C D,NsC K x C/\NsC K y D/\yn K C (.ref D)=be (subE x y)
section
variable {B C D N:GD}{nm qn:y8}{bs:List Da}{sn:List y8}{sub:List Da}{ab:Bool}{col:Option Bool}{dd:Option GD}{k0 k1 k2 k3 k5:Option Da}{nc:Da}{nd:Option GD}{ne:Array DictEntry}{np:Nat}{nl:Array (Option Da)}
def ebIn_mk(a:nsIn K GF "MotifError"=be (be (.ref C)))(kp:keepIn K (.ref C)=true)(o:K.lookup C=be (G0 nm qn C N bs Exc.veLine true sn sub ab col dd k0 k1 k2 k3 k5 "ValueError.__new__"))(nk:K.lookup N=be ⟨nc,nd,.dict ne np,nl⟩)(al:ne.toList.all (λe=>match e.key with| .str _ _=>true|_=>false)=true)(ni:nsIn K N "__init__"=be t8):EbIn K:=⟨C,N,⟨a,kp,_,_,_,_,_,_,_,_,_,_,_,_,_,o⟩,lD nk al,ni⟩
def e0In_mk(b:nsIn K GF "MotifError"=be (be (.ref B)))(a:nsIn K GF x=be (be (.ref C)))(kp:keepIn K (.ref C)=true)(o:K.lookup C=be (G0 nm qn C N bs (.ref B::Exc.veLine) true sn sub ab col dd k0 k1 k2 k3 k5 "ValueError.__new__"))(nk:K.lookup N=be ⟨nc,nd,.dict ne np,nl⟩)(al:ne.toList.all (λe=>match e.key with| .str _ _=>true|_=>false)=true)(ni:nsIn K N "__init__"=be t8):E0In K x:=⟨C,N,⟨B,b,a,kp,_,_,_,_,_,_,_,_,_,_,_,_,_,o⟩,lD nk al,ni⟩
def e1In_mk{f:GD}{oc:Da}{od an:Option GD}{sl:Array (Option Da)}{kV dc pm cd ct:Da}(b:nsIn K GF "MotifError"=be (be (.ref B)))(a:nsIn K GF x=be (be (.ref C)))(kp:keepIn K (.ref C)=true)(o:K.lookup C=be (G0 nm qn C N bs (.ref B::Exc.veLine) true sn sub ab col dd k0 k1 k2 k3 k5 "ValueError.__new__"))
  (j:xI K (.ref C) "__init__"=be (be (.ref f))) (i:isFn K (.ref f)=true) (l:K.lookup f=be ⟨oc,od,.func (fnOf "__init__" q (bb st) (aF st) (ae st) .none kV dc pm an cd ct),sl⟩) (c:codeIn K cd q=true) (k:keepIn K (.ref f)=true):E1In K x q st:=⟨C,N,f,_,⟨B,b,a,kp,_,_,_,_,_,_,_,_,_,_,_,_,_,o⟩,j,i,dR l c k⟩
def eaIn_mk(a:nsIn K GF x=be (be (.ref C)))(b:xI K (.ref C) "__setattr__"=be (be (.builtin "object.__setattr__"))):EaIn K x:=⟨C,a,b⟩
def egIn_mk(a:nsIn K GF x=be (be (.ref C)))(b:xI K (.ref C) "__getattribute__"=be (be (.builtin "BaseException.__getattribute__")))(c:xI K (.ref C) "__getattr__"=be t8):EgIn K x:=⟨C,a,b,c⟩
def eiIn_mk(a:nsIn K GF x=be (be (.ref C)))(b:readsIn K C (.type "type")=true)(c:findCls K (.ref C) (.type "type") "__init__"=be (.val (.builtin "ValueError.__init__")))(d:specialIn K (.ref C) "__getattribute__"=be (be (.builtin "type.__getattribute__"))):EiIn K x:=⟨C,a,b,c,d⟩
def emIn_mkT(e:subE x y=true)(a:nsIn K GF x=be (be (.ref C)))(c:nsIn K GF y=be (be (.ref D)))(d:yn K C (.ref D)=be true):EmIn K x y:=⟨C,D,a,c,e ▸ d⟩
def emIn_mkF(e:subE x y=false)(a:nsIn K GF x=be (be (.ref C)))(c:nsIn K GF y=be (be (.ref D)))(d:yn K C (.ref D)=be false):EmIn K x y:=⟨C,D,a,c,e ▸ d⟩
end
def EbIn.k(e:EbIn K)(X:K.In h)(G:h.Ns GF mg):∃ C N bm,ErrK K mg "MotifError" C N bm/\ErrN K N:=by
 obtain⟨C,N,k,n⟩:=e;exact⟨C,N,_,⟨k.ns,mg_of X G k.ns,k.kp,k.ob,lC⟩,n.ok,n.no⟩
def EdIn.k{C N:GD}(e:EdIn K x C N)(b:EbIn K)(X:K.In h)(G:h.Ns GF mg):∃ bm,ErrK K mg x C N bm:=by
 obtain⟨B,hB,k⟩:=e;obtain⟨B',N',kb,n⟩:=b;cases NsC.uniq kb.ns hB;obtain⟨_,_,_,_,_,_,_,_,_,_,_,_,_,o⟩:=kb.ob;exact⟨_,k.ns,mg_of X G k.ns,k.kp,k.ob,rz o rfl n.ok n.no⟩
def E0In.k(e:E0In K x)(b:EbIn K)(X:K.In h)(G:h.Ns GF mg):∃ C N bm,ErrK K mg x C N bm/\ErrN K N:=by
 obtain⟨C,N,k,n⟩:=e;obtain⟨bm,z⟩:=k.k b X G;exact⟨C,N,bm,z,n.ok,n.no⟩
def Txe(K:xE)(mg:y8->Option Da)(x q:y8)(st:GK)(ps:List y8):Prop:=∃ C N bm f fd,ErrK K mg x C N bm/\xI K (.ref C) "__init__"=be (be (.ref f))/\isFn K (.ref f)=true/\Fun K "__init__" q st f fd/\Binds K fd ps []
def E1In.txe(e:E1In K x q st)(b:EbIn K)(X:K.In h)(G:h.Ns GF mg)(bi:BindA "__init__" q st ps):Txe K mg x q st ps:=by
 obtain⟨C,N,f,fd,k,i,j,F⟩:=e;obtain⟨bm,z⟩:=k.k b X G;exact⟨C,N,bm,f,fd,z,i,j,F,F.binds bi⟩
def ErrK.a'{C N:GD}{bm:List Da}(k:ErrK K mg x C N bm)(a:EaIn K x):∃ C cd,ErrA K x C cd:=by
 obtain⟨D,hD,sa⟩:=a;cases NsC.uniq k.ns hD;exact⟨C,k.a sa⟩
def E1In.a(e:E1In K x q st)(b:EbIn K)(a:EaIn K x)(X:K.In h)(G:h.Ns GF mg):∃ C cd,ErrA K x C cd:=by
 obtain⟨C,N,f,fd,k,_⟩:=e;obtain⟨bm,z⟩:=k.k b X G;exact z.a' a
def E1In.c(e:E1In K x q st)(b:EbIn K)(X:K.In h)(G:h.Ns GF mg):∃ C N bm,ErrK K mg x C N bm:=by
 obtain⟨C,N,f,fd,k,_⟩:=e;obtain⟨bm,z⟩:=k.k b X G;exact⟨C,N,bm,z⟩
def EiIn.b(e:EiIn K x)(X:K.In h)(G:h.Ns GF mg):∃ M,BaseK K mg x M:=by
 obtain⟨M,a,b,c,d⟩:=e;exact⟨M,mg_of X G a,b,c,d⟩
def EgIn.g(e:EgIn K x)(a:∃ C cd,ErrA K x C cd)(n:NoIn K x f):ErrG K f x:=by
 obtain⟨C,h1,h2,h3⟩:=e;obtain⟨D,cd,ea⟩:=a;cases NsC.uniq ea.ns h1;exact⟨C,cd,ea,h2,h3,n.all C h1⟩
def AllP(p:y8->Prop):List y8->Prop
 |[]=>True
 |a::l=>p a/\AllP p l
def AllP.mem{p:y8->Prop}:∀ {l:List y8},AllP p l->∀ x∈l,p x
 |_::_,h,_,.head _=>h.1
 |_::_,h,_,.tail _ m=>AllP.mem h.2 _ m
def sT{es:List y8}(c:AllP (λx=>∃ C N bm,ErrK K mg x C N bm) es)(s:AllP (λx=>AllP (λy=>EmIn K x y) es) es):ErrsK K mg es:=by
 refine⟨c.mem,λx hx y hy C C' h1 h2=>?_⟩;obtain⟨A,B,a,b,m⟩:=(s.mem x hx).mem y hy;cases NsC.uniq a h1;cases NsC.uniq b h2;exact m
end
structure Bx where
 P:GH
 w:GM
 K:xE
 mg:y8->Option Da
 base:Heap
abbrev Bx.T(V:Bx)(x:y8)(st:GK)(ps:List y8):Prop:=Tx V.K V.mg x st ps
abbrev Bx.Tm(V:Bx)(x m q:y8)(st:GK)(ps:List y8):Prop:=Txm V.K x m q st ps
abbrev Bx.Ti(V:Bx)(x q:y8)(st:GK)(ps:List y8):Prop:=Txi V.K V.mg x q st ps
abbrev Bx.Te(V:Bx)(x q:y8)(st:GK)(ps:List y8):Prop:=Txe V.K V.mg x q st ps
abbrev Bx.Ek(V:Bx)(es:List y8):Prop:=ErrsK V.K V.mg es
abbrev Bx.m(V:Bx)(x:y8):Prop:=V.mg x=t8
abbrev Bx.gi(V:Bx)(x:y8)(i:Int):Prop:=∃ t,V.mg x=be (.int i t)
abbrev Bx.gs(V:Bx)(x y:y8):Prop:=∃ t,V.mg x=be (.str y t)
abbrev Bx.a(V:Bx)(x f:y8):Prop:=ClsA V.K x f
abbrev Bx.i(V:Bx)(x:y8):Prop:=∃ C,ClsI V.K V.mg x C
abbrev Bx.D(V:Bx)(n:Nat)(x:y8)(ps:List y8)(S:SpD):Prop:=CalD V.P V.w V.K V.mg V.base n x ps S
abbrev Bx.X(V:Bx)(n:Nat)(x:y8)(ps:List y8)(S:SpX):Prop:=CalX V.P V.w V.K V.mg V.base n x ps S
abbrev Bx.MM(V:Bx)(n:Nat)(x:y8)(ps:List y8)(S:SpM):Prop:=CalMM V.P V.w V.K V.mg V.base n x ps S
abbrev Bx.M(V:Bx)(n:Nat)(x:y8)(ps:List y8)(S:SiD):Prop:=CalM V.P V.w V.K V.mg V.base n x ps S
abbrev Bx.E(V:Bx)(n:Nat)(x:y8)(ps:List y8)(S:SiD):Prop:=CalE V.P V.w V.K V.mg V.base n x ps S
abbrev Bx.Q(V:Bx)(n:Nat)(x m:y8)(ps:List y8)(S:SpM):Prop:=CalMth V.P V.w V.K V.mg V.base n x m ps (lSpM V.K S)
abbrev Bx.n(V:Bx)(x:y8):Prop:=∃ C N bm,ErrK V.K V.mg x C N bm/\ErrN V.K N
abbrev Bx.b(V:Bx)(x:y8):Prop:=∃ M,BaseK V.K V.mg x M
abbrev Bx.ea(V:Bx)(x:y8):Prop:=∃ C cd,ErrA V.K x C cd
abbrev Bx.xf(V:Bx)(x f:y8):Prop:=∀ C,nsIn V.K GF x=be (be (.ref C))->xI V.K (.ref C) f=be t8
abbrev Bx.x(V:Bx)(f:y8)(ys:List y8):Prop:=∀ y∈ys,ErrG V.K f y
section
variable {P:GH}{w:GM}{K:xE}{mg:y8->Option Da}{base:Heap}
def Txi.okI{x qual:y8}{st:GK}{N:List y8}{p0:y8}{ps:List y8}{k:Nat}{S:SiD}(T:Txi K mg x qual st (p0::ps))(F:FnScope (p0::N) (p0::ps) (ae st))(len:∀ ds R,S ds R->ds.length=ps.length)
  (a9:∀ (f:GD) (cdv:Da) (A:GN) (outer:List Hl) (s:GE) (H:Hp) (E:XK) (J:Jx),Room k (A.deeper (GX qual (ae st) s.heap.objs.size f cdv))->
   ∃ t,WDI (cxOf (Exc.CX1 P w) P w K mg base (p0::N) qual (ae st) f cdv A outer s H E).nox x (aF st) t/\∀ ds R,S ds R->t (t8::startD N ds) [] R):CalM P w K mg base (k+1) x (p0::ps) S:=by
 obtain⟨C,f,fd,a,b,c,d,e⟩:=T;exact Cls.okIW d e F len a b c (a9 f)
def Txi.okIM{x qual:y8}{st:GK}{N:List y8}{p0:y8}{ps:List y8}{k:Nat}{S:SiD}(T:Txi K mg x qual st (p0::ps))(F:FnScope N (p0::ps) (ae st))(len:∀ ds R,S ds R->ds.length=ps.length)
  (a9:∀ (f:GD) (cdv:Da) (A:GN) (outer:List Hl) (s:GE) (H:Hp) (E:XK) (J:Jm),Room k (A.deeper (GX qual (ae st) s.heap.objs.size f cdv))->XOkM (cxOf (Exc.CX1 P w) P w K mg base N qual (ae st) f cdv A outer s H E).nox->
   ∃ t,MSs (cxOf (Exc.CX1 P w) P w K mg base N qual (ae st) f cdv A outer s H E).nox (aF st) t/\∀ a ds R,(∀ z M x fs,¬ J.RM z M x fs)->S ds R->t {nx:=λ_ M'=>∃ fs,M'=[(a,.ins x fs)]/\R fs,rt:=λ_ _=>False} (startD N (.ptr a::ds)) [(a,.ins x [])]):CalM P w K mg base (k+1) x (p0::ps) S:=by
 obtain⟨C,f,fd,a,b,c,d,e⟩:=T;exact Cls.okIM d e F len a b c (a9 f)
def Txe.okE{x qual:y8}{st:GK}{N:List y8}{p0:y8}{ps:List y8}{k:Nat}{S:SiD}(T:Txe K mg x qual st (p0::ps))(F:FnScope (p0::N) (p0::ps) (ae st))(len:∀ ds R,S ds R->ds.length=ps.length)
  (a9:∀ (f:GD) (cdv:Da) (A:GN) (outer:List Hl) (s:GE) (H:Hp) (E:XK) (J:Jx),Room k (A.deeper (GX qual (ae st) s.heap.objs.size f cdv))->
   ∃ t,WDX (cxOf (Exc.CX1 P w) P w K mg base (p0::N) qual (ae st) f cdv A outer s H E).nox x (aF st) t/\∀ ds R,S ds R->t (t8::startD N ds) [] R):CalE P w K mg base (k+1) x (p0::ps) S:=by
 obtain⟨C,N',bm,f,fd,a,b,c,d,e⟩:=T;exact Cls.okEW d e F len a b c (a9 f)
end
section
variable {X:Cx}[J:Jx]{a b c e o D' iter:GI}{es:List GI}{ta tb tc te to ti tj:TD}{tt:TDT}{t:TDA}{pos px:GV}{x:y8}{scope:Hm}
def EqE(K:xE)(H:Hp)(x y:V)(b:Bool):Prop:=(aX x=true/\aX y=true/\b=eqV x y)\/∃ a a' xs ys,x= .ref a/\y= .ref a'/\((SqT K H a xs/\SqT K H a' ys)\/(SqL K H a xs/\SqL K H a' ys))/\xs.all aX=true/\ys.all aX=true/\b=eqVs xs ys
def sh2(x y:D):Bool:=(aL x && aL y)||match x,y with| .tup a,.tup b=>a.all aL && b.all aL| .lst a,.lst b=>a.all aL && b.all aL|_,_=>false
def eq2(x y:D):Bool:=match x,y with| .tup a,.tup b=>eqFs a b| .lst a,.lst b=>eqFs a b|x,y=>eqF x y
def EqE.of{K:xE}{F H:Hp}(fh:Same F H){x y:D}{u v:V}(rx:Rep K F x u)(ry:Rep K F y v)(h:sh2 x y=true):EqE K H u v (eq2 x y):=by
 unfold sh2 at h;rw[Bool.or_eq_true,yb] at h;rcases h with⟨f1,f2⟩|h
 .refine .inl ⟨cv rx f1,cv ry f2,?_⟩;rw[eqV_of rx ry f1 f2];unfold eq2;split
  .cases f1
  .cases f1
  .rfl
 .split at h
  .rw[yb] at h;obtain⟨a,us,rfl,hq,rr⟩:=rep_tup_mp rx;obtain⟨b,vs,rfl,l8,n4⟩:=rep_tup_mp ry;exact .inr ⟨a,b,us,vs,rfl,rfl,.inl ⟨fh.tup hq,fh.tup l8⟩,bV rr h.1,bV n4 h.2,(gv rr n4 h.1 h.2).symm⟩
  .rw[yb] at h;obtain⟨a,us,rfl,hq,rr⟩:=rep_lst.mp rx;obtain⟨b,vs,rfl,l8,n4⟩:=rep_lst.mp ry;exact .inr ⟨a,b,us,vs,rfl,rfl,.inr ⟨SqL.of (fh _ _ hq),SqL.of (fh _ _ l8)⟩,bV rr h.1,bV n4 h.2,(gv rr n4 h.1 h.2).symm⟩
  .cases h
def sh2s:List D->List D->Bool
 |[],[]=>true
 |x::xs,y::ys=>sh2 x y && sh2s xs ys
 |_,_=>false
def eq2s(xs ys:List D):List Bool:=List.zipWith eq2 xs ys
def EqE.all{K:xE}{F H:Hp}(fh:Same F H):∀ {xs ys:List D} {us vs:List V},Reps K F xs us->Reps K F ys vs->sh2s xs ys=true->us.length=vs.length/\(eq2s xs ys).length=us.length/\∀ j,j<us.length->EqE K H (us.getD j .non) (vs.getD j .non) ((eq2s xs ys).getD j true):=by
 intro xs;induction xs with
 |nil=>
  intro ys us vs r1 r2 h;cases ys with
  |nil=>
   rw[reps_nil.mp r1,reps_nil.mp r2];exact⟨rfl,rfl,λj h=>absurd h (zx j)⟩
  |cons y ys=>exact absurd h xK
 |cons x xs ih=>
  intro ys us vs r1 r2 h;cases ys with
  |nil=>exact absurd h xK
  |cons y ys=>
   obtain⟨u,ur,rfl,a1,a2⟩:=reps_cons.mp r1;obtain⟨v,vr,rfl,b1,b2⟩:=reps_cons.mp r2;rw[sh2s,yb] at h;obtain⟨q1,q2,q3⟩:=ih a2 b2 h.2;refine⟨by rw[xG,xG,q1],by show(eq2s xs ys).length+1=_;rw[q2,xG],λj hj=>?_⟩;cases j with
   |zero=>exact EqE.of fh a1 b1 h.1
   |succ j=>exact q3 j (Nat.lt_of_succ_lt_succ hj)
end
section
variable {X:Cx}[J:Jx]{a b c e o:GI}{es:List GI}{ta tb tc te to:TD}{t:TDA}{pos:GV}
def rSIndex2:RTx:=λy ds R=>match ds with|[.str p,.int i]=>∃ k rest,Builtin.Str.occurrences y p (PySem.fromIndex y.length i) y.length 1=k::rest/\R (.int (k:Nat))|_=>False
def sU(x y:y8)(i:Int)(t u v:Tok)(k:Nat)(rest:List Nat)(h:Builtin.Str.occurrences x y (PySem.fromIndex x.length i) x.length 1=k::rest):Gives (Builtin.«str.index» ⟨[.str x t,.str y u,.int i v],[]⟩) (.int k):=by
 show Gives (match Builtin.Str.occurrences x y (PySem.fromIndex x.length i) (min x.length x.length) 1 with|i::_=>retInt i|[]=>(do rule "str.index.not-found";raiseError "ValueError" "substring not found")) _;rw[Nat.min_self,h];exact .of_eq rfl
def sV:MtS X "str.index" rSIndex2:=by
 refine⟨λx vs H Q=>∃ y p i k rest,x= .str y/\vs=[.str p,.int i]/\Builtin.Str.occurrences y p (PySem.fromIndex y.length i) y.length 1=k::rest/\Q (.int (k:Nat)) H,?_,?_⟩
 .intro pins s σ H x vs v us Q I rx rv h;obtain⟨y,p,i,k,rest,rfl,rfl,ho,q⟩:=h;obtain⟨t,rfl⟩:=rx;obtain⟨_,_,rfl,⟨t',rfl⟩,t2,rfl⟩:=Vals.two rv;exact call_gives PySem.F.slot_str_index (Ib _ _ _) PySem.F.entry_str_index (PySem.F.args_str_index_3 _ _ _) (sU y p i t t' t2 k rest ho) ⟨.int _,H,I.tok _,⟨_,rfl⟩,q⟩
 .intro y ds vs F H R Q r h q;unfold rSIndex2 at h;split at h
  .obtain⟨k,rest,ho,h⟩:=h;obtain⟨v,vr,rfl,h1,h2⟩:=reps_cons.mp r;obtain⟨v2,Fu,rfl,h3,h4⟩:=reps_cons.mp h2;rw[reps_nil.mp h4,rep_str.mp h1,rep_int.mp h3];exact⟨_,_,_,k,rest,rfl,rfl,ho,q _ _ (λ_=>rep_int.mpr rfl) h⟩
  .exact h.elim
def sW{apos cpos:GV}(ho:WDE X o to)(ha:WDA X [a,b] t)(b7:GQ o "index" X.env (GS o X.env)=GS o X.env:=by rfl)
  (d6:zHF X cpos [a,b]:=by rfl)
  (b_:(apos.endLine==cpos.line)=true:=by rfl) (hs:zSE X a [b]:=by rfl) (f8:zPL X cpos [b]:=by rfl):WDE X (.Call (.Attribute o "index" apos) [a,b] [] cpos) (dTx rSIndex2 to t):=⟨have ho:=ho.out;have ha:=ha.out;gA PySem.F.slot_str_index PySem.F.type_str_index sV ho ha b7 d6 b_ hs f8⟩
def rLIx(K:xE):V->List V->Hp->VK->Prop:=λx vs H Q=>∃ l xs y,x= .ref l/\vs=[y]/\SqL K H l xs/\aX y=true/\xs.all aX=true/\xs.findIdx (λw=>eqV w y)<xs.length/\Q (.int (xs.findIdx (λw=>eqV w y):Nat)) H
def sX{x:V}{xs:List V}{us:List Da}(h:Vals xs us)(f:xs.all aX=true):us.findIdx (eqU x)=xs.findIdx λy=>eqV y x:=by
 induction h with
 |nil=>rfl
 |cons r _ ih=>
  rw[yq,yb] at f;rw[yz,yz,gf r f.1,ih f.2]
def sY:MtR X "list.index" (rLIx X.K):=by
 intro pins s σ H x vs v us Q I rx rv h;obtain⟨l,xs,y,rfl,rfl,hq,fy,fs,hj,q⟩:=h;cases rx;obtain⟨u,rfl,ry⟩:=Vals.one rv;obtain⟨a_,r,pl,hz⟩:=I.list hq;obtain⟨⟨cls,dd,data,sl⟩,ho,hc,n,hd⟩:=pl.isList;simp only at hc hd;subst hc hd;have e:=sX (x:=y) r fs;have hl:=r.length;rw[<- e] at hj q;have BV:a_.findIdx (eqU y)<a_.length:=by lia
 have Gp:sizeLine<2 ^ 63 - 1:=by decide
 refine Ic PySem.F.slot_list_index ⟨_,ho,rfl⟩ PySem.F.entry_list_index (PySem.F.args_list_index_2 _ _)
  (SeqAt.list_indexAt l a_.toArray n dd sl u (eqU y) (a_.findIdx (eqU y)) (by simpa using BV) (by lia) ?_ ?_) ⟨ho,λw hw=>mem_eqAt ry fy r fs w (by simpa using hw),⟨.int _,H,I.tok _,⟨_,rfl⟩,q⟩⟩
 .simpa using List.findIdx_getElem (w:=BV)
 .intro m hm j_;simpa using List.not_of_lt_findIdx j_
def dLIx(to te:TD):TD:=λz R=>to z λx=>match x with| .lst ys=>te z λy=>(aL y=true/\ys.all aL=true)/\ys.findIdx (λw=>eqF w y)<ys.length/\R (.int (ys.findIdx (λw=>eqF w y):Nat))|_=>False
def sZ{K:xE}{H:Hp}{x:D}{u:V}(rx:Rep K H x u)(fx:aL x=true){ys:List D}:∀ {vs:List V},Reps K H ys vs->ys.all aL=true->vs.findIdx (λw=>eqV w u)=ys.findIdx λy=>eqF y x:=by
 induction ys with
 |nil=>intro vs r _;rw[reps_nil.mp r];rfl
 |cons y ys ih=>
  intro vs r f;obtain⟨v,vr,rfl,r1,r2⟩:=reps_cons.mp r;rw[yq,yb] at f;rw[yz,yz,ih r2 f.2,eqV_of r1 rx f.1 fx]
def tf{apos cpos:GV}(ho:WDE X o to)(he:WDE X e te)(b7:GQ o "index" X.env (GS o X.env)=GS o X.env:=by rfl)
  (d6:zHF X cpos [e]:=by rfl)
  (b_:(apos.endLine==cpos.line)=true:=by rfl) (hs:zSE X e []:=by rfl):WDE X (.Call (.Attribute o "index" apos) [e] [] cpos) (dLIx to te):=⟨(cQ PySem.F.plainAttrs_list PySem.F.slot_list_index PySem.F.type_list_index sY ho.out (aT he.out pa_nil hs) b7 d6 b_ hs).anti λs H Q q=>by
 obtain⟨B,F,z,kf,rs,R,h1,h2⟩:=q;refine⟨B,F,z,kf,rs,_,h1,λx u F1 H1 g1 hx rx=>?_⟩;split at hx
 .obtain⟨l,vs,rfl,hq,rr⟩:=rep_lst.mp rx;refine⟨.inl ⟨rfl,vs,g1.fh.seq (SqL.of hq)⟩,B,F1,z,kf.grow g1,rs.grow g1,_,hx,λd v F2 H2 g2 hd rd=>?_⟩;obtain⟨⟨f1,f2⟩,hj,hR⟩:=hd;have CY:=rr.mono g2.ff;have e:=sZ rd f1 CY f2;have hl:=CY.length;refine⟨l,vs,v,rfl,rfl,g2.fh.seq (g2.ff.seq (SqL.of hq)),cv rd f1,bV CY f2,by rw[e];lia,?_⟩;rw[e];exact h2 _ _ F2 H2 (g1.trans g2) hR (rep_int.mpr rfl)
 .exact hx.elim⟩
def Itd(hi:Int)(n:Nat):It:=⟨λi _=>i<n,λi H x H'=>H'=H/\x= .int (hi - i),λi _=>n<=i⟩
def tm{P:GH}{w:GM}{K:xE}{tg:GI}(it:GD)(lo:Int)(n:Nat):Turn P w K tg (Itd lo n) [it] it (λi h=>HC h it (lo+(i:Nat)* -1) ((n:Int) - (i:Nat)) (-1)) where
 mem:=by simp
 obj:=λi h st b hb=>by
  have e:b=it:=by simpa using hb
  subst e;exact⟨_,st,λv z=>by
   have z':Data.fields _=Data.cell v:=z;cases z'⟩
 keep:=λi h h' st k=>k it (by simp) _ st
 item:=by
  intro X hP hw hK hc i pins s σ H E I hf st hg;subst hP hw hK;obtain⟨f0,f1,f2,f3,f4,f5⟩:=hf it (by simp);have W:=Walks.range (prog:=X.prog) (w:=X.w) (I.ok.hd hc) it lo (-1) n;refine W.item i s _ _ hg st λv h' tk hv st' kk=>?_;obtain⟨t,rfl⟩:=hv;have I1:Inv X pins σ H {s with heap:=h',toks:=tk}:=I.turned (λb o hb e=>kk b o (by simpa using hb) e) f0 f1 f3 f4 f5;refine⟨_,rfl,jQ (s:={s with heap:=h',toks:=tk}) (n:="range_iterator") st' rfl rfl (by decide) ⟨.int (lo - i),H,I1,⟨t,?_⟩,⟨rfl,rfl⟩,st',λb hb=>(hf b hb).1⟩⟩;rw[show lo+(i:Int)* -1=lo - i by lia]
 done:=by
  intro X hP hw hK hc i pins s σ H E I hf st hg;subst hP hw hK;obtain⟨f0,f1,f2,f3,f4,f5⟩:=hf it (by simp);exact HN (I.ok.hd hc) st (by have:n<=i:=hg;lia) λh' eb=>⟨rfl,I.turned (t':=s.toks) (λb o hb e=>eb b o hb e) f0 f1 f3 f4 f5⟩
 self:=λ_ _ _ _ _ st h=>HP st h
def tw(ta:TA):TI:=λσ H R=>ta σ H λvs H1=>∃ i j:Int,vs=[.int i,.int j,.int (-1)]/\(-(2 ^ 62)<=i/\i<2 ^ 62/\-(2 ^ 62)<=j/\j<2 ^ 62)/\R (Itd i (i - j).toNat) H1
def tz{tg:GI}{ta:TA}{p:GV}(hg:Gl X "range")(hm:X.mg "range"=t8)(ha:PA X [a,b,c] ta)(hs:GO [a,b,c] X.env=(false,GS a X.env)::GO [b,c] X.env:=by rfl)(h_:zPL X pos [b,c]:=by rfl):
  PI X tg (.Call (.Name "range" p) [a,b,c] [] pos) (tw ta):=by
 intro pins s σ H R I h;refine Call_ (ce I hg hm Ig (PyProof.Rows.callWith_type1 (thn (ha pos pins s σ H _ I h) λus s1 hh=>?_) hs h_));obtain⟨vs,H1,I1,r1,q1⟩:=hh;obtain⟨i,j,e,⟨q1,q2,q3,q4⟩,q⟩:=q1;subst e;cases r1 with
 |cons r rr=>
  obtain⟨_,_,rfl,⟨t',rfl⟩,t2,rfl⟩:=Vals.two rr;obtain⟨t,rfl⟩:=r;refine call_range_3 (by decide) ?_ (.inl ?_)
  .refine H9 (IsRange.new ..) (small_down q1 q2 q3 q4) ?_;have I2:Inv X pins σ H1 {s1 with heap:=s1.heap.push {cls:= .type "range",data:= .fields #[.int i t,.int j t',.int (-1) t2]},toks:=s1.toks}:=I1.kept λb o e=>Heap.get?_push_of_some _ e;refine⟨(s1.heap.push {cls:= .type "range",data:= .fields #[.int i t,.int j t',.int (-1) t2]}).objs.size,[(s1.heap.push {cls:= .type "range",data:= .fields #[.int i t,.int j t',.int (-1) t2]}).objs.size],_,_,H1,rfl,
    I2.kept (t':=s1.toks) λb o e=>Heap.get?_push_of_some _ e,tm _ i (i - j).toNat,?_,λb hb=>?_,q⟩
   .show HC _ _ (i+((0:Nat):Int)* -1) ((((i - j).toNat:Nat):Int) - ((0:Nat):Int)) (-1);rw[show i+((0:Nat):Int)* -1=i by simp,show(((i - j).toNat:Nat):Int) - ((0:Nat):Int)=Builtin.Range.rangeSize i j (-1) by rw[rangeSize_downNat];lia];exact Heap.get?_push_size _ rfl
   .have e:b=(s1.heap.push {cls:= .type "range",data:= .fields #[.int i t,.int j t',.int (-1) t2]}).objs.size:=by simpa using hb
    subst e;exact I2.fpOk (xH _) (I2.hok.fresh (xH _))
  .exact PyProof.noPylong_of_log2 (by decide+kernel)
def tD{lo:Int}{n:Nat}{g:TG}{tb:TS}{D:Ends}{σ:L2.St}{H:Hp}(Pv:Nat->L2.St->Hp->Prop)(h0:Pv 0 σ H)
  (hs:∀ i σ H,i<n->Pv i σ H->g (.int (lo - i)) σ H λσ2 H2=>tb {D with nx:=Pv (i+1),ct:=Pv (i+1),bk:=D.nx} σ2 H2) (hd:∀ σ H,Pv n σ H->D.nx σ H):
  ∃ W:Nat->Nat->L2.St->Hp->Prop,(∃ m,W 0 m σ H)/\∀ i m σ H,W i m σ H->
   ((Itd lo n).stop i H/\D.nx σ H)\/((Itd lo n).go i H/\∃ N:L2.St->Hp->Prop,(∀ σ' H',N σ' H'->∃ m',m'<m/\W (i+1) m' σ' H')/\∀ x H',(Itd lo n).yld i H x H'->g x σ H' λσ2 H2=>tb {D with nx:=N,ct:=N,bk:=D.nx} σ2 H2):=by
 refine⟨λi m σ H=>m=n - i/\i<=n/\Pv i σ H,⟨n,by simp,yg _,h0⟩,?_⟩;rintro i m σ H ⟨rfl,hi,p⟩;by_cases j_:i<n
 .refine .inr ⟨j_,Pv (i+1),λσ' H' p'=>⟨n - (i+1),by lia,rfl,j_,p'⟩,λx H' y=>?_⟩;obtain⟨e,y⟩:=y;subst e y;exact hs i σ _ j_ p
 .have e:i=n:=by lia
  subst e;exact .inl ⟨xH _,hd σ H p⟩
def dItD(t u v:TD):TDI:=λz R=>t z λx=>u z λy=>v z λw=>match x,y,w with| .int i,.int j,.int k=>(-(2 ^ 62)<=i/\i<2 ^ 62/\-(2 ^ 62)<=j/\j<2 ^ 62)/\k=-1/\R ((xY (i - j).toNat).map λk=>D.int (i - ((k:Nat):Int)))|_,_,_=>False
def tE(i:Nat){x:y8}{p p1 p2:GV}{body:List GK}{A9:TSD}(hp:G7 (GJ X.prog X.w) X.A X.env X.xe)(hc:X.calm=true)(hN:X.N.Nodup)(hm:X.mg "range"=t8)(ha:WDE X a ta)(gt:WDE X b tb)(AI:WDE X c tc)(hb:WDSs X body A9)(hg:Gl X "range":=by rfl)(hi:X.N[i]?=be x:=by rfl)(hx:Loc X.env.scope x:=by first|exact Or.inl rfl|exact Or.inr rfl)
  (hf:zFN X x:=by first|exact .inl rfl|exact .inr rfl|assumption) (hs:∀ y,zFS X (.Call (.Name "range" p1) [a,b,c] [] p2) y:=by exact λ_=>rfl) (n5:GO [a,b,c] X.env=(false,GS a X.env)::GO [b,c] X.env:=by rfl) (z_:zSE X b [c]:=by rfl) (f_:zSE X c []:=by rfl) (Ax:zPL X p2 [b,c]:=by rfl):WDS X (.For (.Name x p) (.Call (.Name "range" p1) [a,b,c] [] p2) body [] pos) (dFor i (dItD ta tb tc) A9):=⟨have ha:=ha.out;have gt:=gt.out;have hb:=hb.out;(cO hp hc (tz hg hm (aT ha (aT gt (aT AI.out pa_nil f_) z_) n5) n5 Ax) (dh hN hi hx hf) hb hs).anti λE s H q=>by
 obtain⟨B,F0,F,z,kp,rs,ED,h,e⟩:=q;refine⟨B,F,z,kp.kf,rs,_,h,λd1 v1 F1 H1 g1 h1 r1=>?_⟩;refine⟨B,F1,z,kp.kf.grow g1,rs.grow g1,_,h1,λd2 v2 F2 H2 g2 h2 r2=>?_⟩;refine⟨B,F2,z,(kp.kf.grow g1).grow g2,(rs.grow g1).grow g2,_,h2,λd3 v3 F3 H3 g3 h3 r3=>?_⟩;split at h3
 .rename_i lo k8 st;obtain⟨bd,rfl,W,w0,d0,out⟩:=h3;have hl:((xY (lo - k8).toNat).map λk=>D.int (lo - ((k:Nat):Int))).length=(lo - k8).toNat:=by simp
  refine⟨lo,k8,by rw[rep_int.mp r1,rep_int.mp r2,rep_int.mp r3],bd,tD (lo:=lo) (n:=(lo - k8).toNat) (λk s' H'=>∃ F' z',Kept B F0 F' H'/\RepS X.K B F' H' z' s'/\W k z') ⟨F3,z,((kp.grow g1).grow g2).grow g3,((rs.grow g1).grow g2).grow g3,w0⟩ ?_ ?_⟩
  .rintro k s' H' hk ⟨F',z',k',r',w'⟩;exact⟨B,F0,F',_,k',r'.set (d:= .int (lo - (k:Int))) (rep_int.mpr rfl),_,d0 k (.int (lo - (k:Int))) z' (by simp[hk]) w',⟨λz3 s3 F3 H3 k3 h3 r3=>⟨F3,z3,k3,r3,h3⟩,e.rt,e.nx,λz3 s3 F3 H3 k3 h3 r3=>⟨F3,z3,k3,r3,h3⟩⟩⟩
  .rintro s' H' ⟨F',z',k',r',w'⟩;exact e.nx z' s' F' H' k' (out z' (by rw[hl];exact w')) r'
 .exact h3.elim⟩
end
end My
end
section
namespace My
open PySem PySem.Spec PyProof.Rows L2
def b64B{w:Int}(h:0<w)(h':w<=33554432): -(2 ^ 64)<w/\w<2 ^ 64:=by lia
def s64B{s w:Int}(h:0<=s)(h':s<w)(Gq:w<=33554432): -(2 ^ 64)<s/\s<2 ^ 64:=by lia
def d30B{w:Int}(h:0<w)(h':w<=33554432):0<w/\w<1073741824:=by lia
def sq0(a:Int):0<=a*a:=(zZ 0 a).elim (λq=>Aa q q) (λq=>Int.mul_nonneg_of_nonpos_of_nonpos q q)
def i64{w:Int}{a b:Int}(h:a<=w)(h':w<=b)(ha: -1000000000001<=a:=by decide)(hb:b<=1000000000001:=by decide): -(2 ^ 64)<w/\w<2 ^ 64:=by lia
def fdm(a b:Int)(hb:b≠0):(a - a.fdiv b*b).natAbs<b.natAbs/\(a.fdiv b).natAbs<=a.natAbs+1:=by
 have e:=Int.fmod_def a b;have e2:a - a.fdiv b*b=a.fmod b:=by rw[e,yM]
 rw[e2];have r:(a.fmod b).natAbs<b.natAbs:=by
  rcases(by lia:0<b\/b<0) with h|h
  .have h1:=Ab a h;have h2:=Ac a h;lia
  .have h1:=Ab (-a) (show 0< -b by lia);have h2:=Ac (-a) (show 0< -b by lia);rw[Int.neg_fmod_neg] at h1 h2;lia
 refine⟨r,?_⟩;have e3:(b*a.fdiv b).natAbs=b.natAbs*(a.fdiv b).natAbs:=zy _ _;have e4:=Int.mul_fdiv_self a b;rcases Nat.lt_or_ge (a.natAbs+1) (a.fdiv b).natAbs with c|c
 .have h1:b.natAbs*(a.natAbs+2)<=b.natAbs*(a.fdiv b).natAbs:=Nat.mul_le_mul_left _ c;have h2:b.natAbs*(a.natAbs+2)=b.natAbs*a.natAbs+2*b.natAbs:=by rw[Nat.mul_add,Nat.mul_comm _ 2]
  have h3:1*a.natAbs<=b.natAbs*a.natAbs:=Nat.mul_le_mul_right _ (by lia);lia
 .exact c
def Uni(a b c d p0 p1 q0 q1:Int):Prop:=∃ m n k l:Int,(m*l - n*k=1\/m*l - n*k=-1)/\p0=m*a+n*c/\p1=m*b+n*d/\q0=k*a+l*c/\q1=k*b+l*d
def Uni.refl(a b c d:Int):Uni a b c d a b c d:=⟨1,0,0,1,.inl (by decide),by lia,by lia,by lia,by lia⟩
def Uni.step{a b c d p0 p1 q0 q1:Int}(t:Int)(h:Uni a b c d p0 p1 q0 q1):Uni a b c d q0 q1 (p0 - t*q0) (p1 - t*q1):=by
 obtain⟨m,n,k,l,hd,rfl,rfl,rfl,rfl⟩:=h;refine⟨k,l,m - t*k,n - t*l,?_,rfl,rfl,by grind,by grind⟩;rcases hd with h|h
 .right;grind
 .left;grind
def Uni.neg{a b c d p0 p1 q0 q1:Int}(h:Uni a b c d p0 p1 q0 q1):Uni a b c d (-p0) (-p1) q0 q1:=by
 obtain⟨m,n,k,l,hd,rfl,rfl,rfl,rfl⟩:=h;refine⟨-m,-n,k,l,?_,by grind,by grind,rfl,rfl⟩;rcases hd with h|h
 .right;grind
 .left;grind
def Uni.inv{a b c d p0 p1 q0 q1:Int}(h:Uni a b c d p0 p1 q0 q1):Uni p0 p1 q0 q1 a b c d:=by
 obtain⟨m,n,k,l,hd,rfl,rfl,rfl,rfl⟩:=h;rcases hd with h|h
 .exact⟨l,-n,-k,m,.inl (by grind),by grind,by grind,by grind,by grind⟩
 .exact⟨-l,n,k,-m,.inr (by grind),by grind,by grind,by grind,by grind⟩
def Uni.det{a b c d p0 p1 q0 q1:Int}(h:Uni a b c d p0 p1 q0 q1):p0*q1 - p1*q0=a*d - b*c\/p0*q1 - p1*q0=-(a*d - b*c):=by
 obtain⟨m,n,k,l,hd,rfl,rfl,rfl,rfl⟩:=h;rcases hd with h|h
 .left;grind
 .right;grind
def Lev(a b c d p0 p1 q0:Int):Prop:=0<=p1/\Uni a b c d p0 p1 q0 0
def FamOf(a b c d w h s:Int):Prop:=0<w/\0<h/\0<=s/\s<w/\Uni a b c d w 0 s h
def tF(x:Int):(if x<0 then -x else x)=x\/(if x<0 then -x else x)=-x:=by
 split<;>simp
def tG{x:Int}(h:x≠0):0<(if x<0 then -x else x):=by split<;>lia
def eM{a b c d p0 p1 q0:Int}(hn:¬ a*d=b*c)(h:Lev a b c d p0 p1 q0):FamOf a b c d (if q0<0 then -q0 else q0) p1 (p0 % (if q0<0 then -q0 else q0)):=by
 obtain⟨hp,hu⟩:=h;have dt:=hu.det;have FH:q0≠0:=by
  rintro rfl;simp at dt;lia
 have Gr:p1≠0:=by
  rintro rfl;simp at dt;lia
 have hw:=tG FH;have hs:=tF q0;generalize (if q0<0 then -q0 else q0)=w at hw hs;refine⟨hw,by lia,zz _ (by lia),zA _ hw,?_⟩;have em:=yN p0 w;generalize p0 % w=s at em;generalize p0 / w=t at em;obtain⟨m,n,k,l,hd,e1,e2,e3,e4⟩:=hu;rcases hs with e|e
 .refine⟨k,l,m - t*k,n - t*l,?_,by grind,by grind,by grind,by grind⟩;rcases hd with h|h
  .right;grind
  .left;grind
 .refine⟨-k,-l,m+t*k,n+t*l,?_,by grind,by grind,by grind,by grind⟩;rcases hd with h|h
  .left;grind
  .right;grind
def in_fam{w h s x y i j:Int}(hh:0<h)(ex:x=i*w+j*s)(ey:y=j*h):y % h=0/\(x - y / h*s) % w=0:=by
 subst ex ey;rw[yk _ (by lia)];refine⟨zB _ _,?_⟩;have e:i*w+j*s - j*s=i*w:=by lia
 rw[e];exact zB _ _
def FamOf.first{a b c d w h s:Int}(f:FamOf a b c d w h s):b % h=0/\(a - b / h*s) % w=0:=by
 obtain⟨hw,hh,_,_,hu⟩:=f;obtain⟨m,n,k,l,_,e1,e2,e3,e4⟩:=hu.inv;exact in_fam (i:=m) (j:=n) hh e1 (by lia)
def FamOf.second{a b c d w h s:Int}(f:FamOf a b c d w h s):d % h=0/\(c - d / h*s) % w=0:=by
 obtain⟨hw,hh,_,_,hu⟩:=f;obtain⟨m,n,k,l,_,e1,e2,e3,e4⟩:=hu.inv;exact in_fam (i:=k) (j:=l) hh e3 (by lia)
def FamOf.cells{a b c d w h s:Int}(f:FamOf a b c d w h s):w*h=a*d - b*c\/w*h=-(a*d - b*c):=by
 have:=f.2.2.2.2.det;simpa using this
def bg{a d:Int}{A B:Nat}(h1:a.natAbs<=A)(h2:d.natAbs<=B):(a*d).natAbs<=A*B:=by
 rw[zy];exact zC h1 h2
def tH{c gap g:Int}{N:Nat}(hg:0<g)(c0:0<=c)(cg:c<=g)(h:gap.natAbs<=N):(c*gap / g).natAbs<=N:=by
 have h1:(c*gap).natAbs<=g.natAbs*N:=by rw[zy];exact zC (by omega) h
 have e:((g.natAbs*N:Nat):Int)=N*g:=by rw[Int.natCast_mul,Int.natAbs_of_nonneg (by omega),yM]
 have l1:=Int.le_ediv_of_mul_le (a:=-(N:Int)) (b:=c*gap) hg (by rw[yE];omega);have l2:=Int.ediv_le_of_le_mul (a:=c*gap) (b:=(N:Int)) hg (by omega);omega
def cU{w h:Int}(hw:0<w)(hh:0<h):w<=w*h/\h<=w*h:=by
 have h1:=zD (show 1<=h by lia) (show 0<=w by lia);have h2:=xX (show 1<=w by lia) (show 0<=h by lia);lia
def FamOf.bd{a b c d w h s:Int}(f:FamOf a b c d w h s){N:Nat}(hN:(a*d - b*c).natAbs<=N):w<=N/\h<=N/\s<N:=by
 obtain⟨h1,h2⟩:=cU f.1 f.2.1;have h3:=f.cells;have h4:=f.2.2.2.1;lia
def Meas(x y g u:Int):Prop:=0<=g/\(∃ i,x=i*g)/\(∃ j,y=j*g)/\∃ n,g=u*x+n*y
def mm{x y u g q:Int}(h:0<=g/\∃ m n k l:Int,(m*l - n*k=1\/m*l - n*k=-1)/\u=m*1+n*0/\g=m*x+n*y/\q=k*1+l*0/\0=k*x+l*y):Meas x y g u:=by
 obtain⟨h0,m,n,k,l,hd,e1,e2,e3,e4⟩:=h;refine⟨h0,?_,?_,n,by grind⟩
 .rcases hd with h|h
  .exact⟨l,by grind⟩
  .exact⟨-l,by grind⟩
 .rcases hd with h|h
  .exact⟨-k,by grind⟩
  .exact⟨k,by grind⟩
def Meas.pos{x y g u:Int}(h:Meas x y g u)(hx:0<x):0<g:=by
 obtain⟨h0,⟨i,hi⟩,_⟩:=h;rcases(by lia:g=0\/0<g) with e|e
 .subst e;simp at hi;lia
 .exact e
def Meas.le{x y g u:Int}(h:Meas x y g u)(hx:0<x):g<=x:=by
 have hg:=h.pos hx;obtain⟨h0,⟨i,hi⟩,_⟩:=h;have Gs:0<i:=by
  rcases(by lia:i<=0\/0<i) with e|e
  .have:=yF e h0;lia
  .exact e
 have:=xX (show 1<=i by lia) h0;lia
structure MetR(w1 h1 s1 w2 h2 s2 w h s A:Int):Prop where
 w0:0<w
 h0:0<h
 s0:0<=s
 sw:s<w
 in1:∃ i,w=i*w1
 in2:∃ i,w=i*w2
 up1:∃ i j,s=i*w1+j*s1/\h=j*h1
 up2:∃ i j,s=i*w2+j*s2/\h=j*h2
 A0:0<A
 cells:w*h*A=w1*h1*w2*h2
 d11:A∣w1*h1
 d12:A∣w1*h2
 d21:A∣w2*h1
 d22:A∣w2*h2
 ds:A∣s1*h2 - h1*s2
 all:∀ x y:Int,(∃ i j,x=i*w1+j*s1/\y=j*h1)->(∃ i j,x=i*w2+j*s2/\y=j*h2)->∃ i j,x=i*w+j*s/\y=j*h
 comb:∀ G:Int,G∣w1*h1->G∣w1*h2->G∣w2*h1->G∣w2*h2->G∣s1*h2 - h1*s2->G∣A
def cB{x y:Int}(h:0<x*y)(hy:0<y):0<x:=by
 rcases(by lia:x<=0\/0<x) with e|e
 .have:=yF e (show 0<=y by lia);lia
 .exact e
def gJ{a b c:Int}(ha:0<a)(h:a*b=a*c):b=c:=Int.eq_of_mul_eq_mul_left (by lia) h
def r1(k j c:Int):k*(j*c)=j*(c*k):=by grind
def r2(j u c n d:Int):j*(u*c+n*d)=u*(j*c)+n*d*j:=by grind
def r3(u j d n j1:Int):u*(j*d)+n*d*j1=d*(u*j+n*j1):=by grind
def r4(j u c n d:Int):j*(u*c+n*d)=u*c*j+n*(j*d):=by grind
def r5(u c j n j1:Int):u*c*j+n*(j1*c)=c*(u*j+n*j1):=by grind
def r6(g e i1 a i2 b d T s1 c s2:Int)(q:i1*(a*(e*g))+d*T*s1=i2*(b*(e*g))+c*T*s2):g*(e*(i1*a - i2*b))=T*(c*s2 - d*s1):=by grind
def r7(g T f:Int):g*(T*f)=T*(f*g):=by grind
def r8(T v e q f:Int):T*(v*e+q*f)=v*T*e+q*(T*f):=by grind
def r9(v T e q m:Int):v*T*e+q*(e*m)=e*(v*T+q*m):=by grind
def r10(e r f:Int):e*r*f=e*(r*f):=by grind
def r11(i u a n b:Int):i*(u*a+n*b)=u*(i*a)+n*b*i:=by grind
def r12(u r f i2 b n i1:Int):u*(r*f+i2*b)+n*b*i1=u*(r*f)+b*(u*i2+n*i1):=by grind
def r13(u r f b M a e g d s1 t:Int):(u*(r*f)+b*M)*(a*(e*g))+d*(e*r)*s1=(M+r*t)*(a*b*(e*g))+r*(e*(d*s1)+f*u*(a*(e*g)) - a*b*(e*g)*t):=by grind
def r14(d e r c k:Int):d*(e*r)*(c*k)=r*(c*d*k*e):=by grind
def tI{a b c d e f k gg u n u' n' v q s1 s2 t s x y i1 j1 i2 j2:Int}(hk:0<k)(u8:0<gg)(he:0<e)
  (m5:u*a+n*b=1) (j8:u'*c+n'*d=1) (gap:c*s2 - d*s1=f*gg) (m6:v*e+q*f=1)
  (hs:s=e*(d*s1)+f*u*(a*(e*gg)) - a*b*(e*gg)*t) (x1:x=i1*(a*(e*gg))+j1*s1) (y1:y=j1*(c*k)) (x2:x=i2*(b*(e*gg))+j2*s2) (y2:y=j2*(d*k)):
  ∃ i j,x=i*(a*b*(e*gg))+j*s/\y=j*(c*d*k*e):=by
 have h1:j1*c=j2*d:=gJ hk (by rw[r1 k j1 c,r1 k j2 d,<- y1,<- y2]);have BW:j1=d*(u'*j2+n'*j1):=by
  have p:=r2 j1 u' c n' d;rw[j8,h1,r3] at p;lia
 have Ej:j2=c*(u'*j2+n'*j1):=by
  have p:=r4 j2 u' c n' d;rw[j8,<- h1,r5] at p;lia
 generalize u'*j2+n'*j1=T at BW Ej;have q1:i1*(a*(e*gg))+d*T*s1=i2*(b*(e*gg))+c*T*s2:=by rw[<- BW,<- Ej,<- x1,<- x2]
 have h2:e*(i1*a - i2*b)=T*f:=gJ u8 (by rw[r6 gg e i1 a i2 b d T s1 c s2 q1,r7,gap]);have eT:T=e*(v*T+q*(i1*a - i2*b)):=by
  have p:=r8 T v e q f;rw[m6,<- h2,r9] at p;lia
 generalize hr:v*T+q*(i1*a - i2*b)=r at eT;have h3:i1*a - i2*b=r*f:=gJ he (by rw[h2,eT,r10]);have h4:i1=u*(r*f)+b*(u*i2+n*i1):=by
  have p:=r11 i1 u a n b;have q3:i1*a=r*f+i2*b:=by lia
  rw[m5,q3,r12] at p;lia
 generalize u*i2+n*i1=M at h4;refine⟨M+r*t,r,?_,?_⟩
 .rw[hs,x1,BW,eT,<- r13,<- h4]
 .rw[y1,BW,eT,r14]
def tJ{a b c d e f k gg u n u' n' v q s1 s2 t s:Int}(ha:0<a)(hb:0<b)(hc:0<c)(hd:0<d)(he:0<e)(hk:0<k)(u8:0<gg)
  (m5:u*a+n*b=1) (j8:u'*c+n'*d=1) (gap:c*s2 - d*s1=f*gg) (m6:v*e+q*f=1)
  (hs:s=e*(d*s1)+f*u*(a*(e*gg)) - a*b*(e*gg)*t) (m1:0<=s) (m2:s<a*b*(e*gg)):
  MetR (a*(e*gg)) (c*k) s1 (b*(e*gg)) (d*k) s2 (a*b*(e*gg)) (c*d*k*e) s (k*gg):=by
 have hg:0<e*gg:=xQ he u8;have hW:0<a*b*(e*gg):=xQ (xQ ha hb) hg;have CZ:d*s1=c*s2 - f*gg:=by lia
 have ua:u*a=1 - n*b:=by lia
 refine⟨hW,xQ (xQ (xQ hc hd) hk) he,m1,m2,⟨b,?_⟩,⟨a,?_⟩,⟨f*u - t*b,d*e,?_,?_⟩,⟨-(f*n) - t*a,c*e,?_,?_⟩,xQ hk u8,?_,⟨a*e*c,?_⟩,⟨a*e*d,?_⟩,⟨b*e*c,?_⟩,⟨b*e*d,?_⟩,⟨-f,?_⟩,?_,?_⟩
 .grind
 .grind
 .grind
 .grind
 .rw[hs,CZ];have x2:f*u*(a*(e*gg))=f*(u*a)*(e*gg):=by grind
  rw[x2,ua];grind
 .grind
 .grind
 .grind
 .grind
 .grind
 .grind
 .have:s1*(d*k) - c*k*s2=-(k*(c*s2 - d*s1)):=by grind
  rw[this,gap];grind
 .rintro x y ⟨i1,j1,x1,z1⟩ ⟨i2,j2,x2,z2⟩;exact tI hk u8 he m5 j8 gap m6 hs x1 z1 x2 z2
 .rintro G ⟨y1,z1⟩ ⟨y2,z2⟩ ⟨y3,z3⟩ ⟨y4,z4⟩ ⟨y5,z5⟩;refine⟨v*(u'*u*y1+n'*u*y2+u'*n*y3+n'*n*y4) - q*y5,?_⟩;have k1:k*(e*gg)=G*(u'*u*y1+n'*u*y2+u'*n*y3+n'*n*y4):=by
   have p1:k*(e*gg)=(u'*c+n'*d)*(u*a+n*b)*(k*(e*gg)):=by rw[m5,j8];grind
   have p2:(u'*c+n'*d)*(u*a+n*b)*(k*(e*gg))=u'*u*(a*(e*gg)*(c*k))+n'*u*(a*(e*gg)*(d*k))+u'*n*(b*(e*gg)*(c*k))+n'*n*(b*(e*gg)*(d*k)):=by grind
   rw[p1,p2,z1,z2,z3,z4];grind
  have k2:k*(f*gg)=-(G*y5):=by
   rw[<- z5,<- gap];grind
  have k3:k*gg=(v*e+q*f)*(k*gg):=by rw[m6];grind
  have k4:(v*e+q*f)*(k*gg)=v*(k*(e*gg))+q*(k*(f*gg)):=by grind
  rw[k3,k4,k1,k2];grind
def gK{w1 h1 s1 w2 h2 s2 g u k u' gg n6:Int}(m7:0<w1)(w_:0<w2)(El:0<h1)(w9:0<h2)
  (M1:Meas w1 w2 g u) (M2:Meas h1 h2 k u')
  (M3:Meas g (h1*h2 / k / h2*s2 - h1*h2 / k / h1*s1) gg n6):
  MetR w1 h1 s1 w2 h2 s2 (w1*w2 / g) (h1*h2 / k*(g / gg)) ((g / gg*(h1*h2 / k / h1*s1)+g / gg*(h1*h2 / k / h2*s2 - h1*h2 / k / h1*s1) / g*u*w1) % (w1*w2 / g)) (k*gg):=by
 have hg:=M1.pos m7;have hk:=M2.pos El;have u8:=M3.pos hg;obtain⟨_,⟨a,ea⟩,⟨b,eb⟩,n,en⟩:=M1;obtain⟨_,⟨c,ec⟩,⟨d,ed⟩,n',Gu⟩:=M2;have ha:0<a:=cB (ea ▸ m7) hg;have hb:0<b:=cB (eb ▸ w_) hg;have hc:0<c:=cB (ec ▸ El) hk;have hd:0<d:=cB (ed ▸ w9) hk;have m5:u*a+n*b=1:=by
  have p:(u*a+n*b)*g=1*g:=by
   have:(u*a+n*b)*g=u*(a*g)+n*(b*g):=by grind
   rw[this,<- ea,<- eb];lia
  exact yG (by lia) p
 have j8:u'*c+n'*d=1:=by
  have p:(u'*c+n'*d)*k=1*k:=by
   have:(u'*c+n'*d)*k=u'*(c*k)+n'*(d*k):=by grind
   rw[this,<- ec,<- ed];lia
  exact yG (by lia) p
 have eW:w1*w2 / g=a*b*g:=by
  have:w1*w2=(a*b*g)*g:=by rw[ea,eb];grind
  rw[this];exact yk _ (by lia)
 have eR:h1*h2 / k=c*d*k:=by
  have:h1*h2=(c*d*k)*k:=by rw[ec,ed];grind
  rw[this];exact yk _ (by lia)
 have FI:h1*h2 / k / h1=d:=by
  rw[eR];have:c*d*k=d*h1:=by rw[ec];grind
  rw[this];exact yk _ (by lia)
 have FJ:h1*h2 / k / h2=c:=by
  rw[eR];have:c*d*k=c*h2:=by rw[ed];grind
  rw[this];exact yk _ (by lia)
 rw[FI,FJ] at M3 ⊢;obtain⟨_,⟨e,ee⟩,⟨f,ef⟩,q,eq⟩:=M3;have he:0<e:=cB (ee ▸ hg) u8;have m6:n6*e+q*f=1:=by
  have p:(n6*e+q*f)*gg=1*gg:=by
   have:(n6*e+q*f)*gg=n6*(e*gg)+q*(f*gg):=by grind
   rw[this,<- ee,<- ef];lia
  exact yG (by lia) p
 have eC:g / gg=e:=by rw[ee];exact yk _ (by lia)
 have eS:e*(c*s2 - d*s1) / g=f:=by
  have:e*(c*s2 - d*s1)=f*g:=by rw[ef,ee];grind
  rw[this];exact yk _ (by lia)
 rw[eC,eS,eW,eR];have hW:0<a*b*g:=xQ (xQ ha hb) hg;have em:=yN (e*(d*s1)+f*u*w1) (a*b*g);have m1:=zz (e*(d*s1)+f*u*w1) (show a*b*g≠0 by lia);have m2:=zA (e*(d*s1)+f*u*w1) hW;generalize (e*(d*s1)+f*u*w1) % (a*b*g)=s at em m1 m2 ⊢;generalize (e*(d*s1)+f*u*w1) / (a*b*g)=t at em;subst ea eb ec ed;subst ee;exact tJ ha hb hc hd he hk u8 m5 j8 ef m6 em m1 m2
def mn{x y g u:Int}(hx:0<x)(hy:0<y)(M:Meas x y g u):0<x*y / g/\x*y / g<=x*y/\x*y / g / x*1<=y/\0<=x*y / g / x/\x*y / g / y<=x/\0<=x*y / g / y:=by
 have hg:=M.pos hx;obtain⟨_,⟨a,ea⟩,⟨b,eb⟩,_⟩:=M;have ha:0<a:=cB (ea ▸ hx) hg;have hb:0<b:=cB (eb ▸ hy) hg;have e1:x*y / g=a*b*g:=by
  have:x*y=(a*b*g)*g:=by rw[ea,eb];grind
  rw[this];exact yk _ (by lia)
 have e2:a*b*g / x=b:=by
  have:a*b*g=b*x:=by rw[ea];grind
  rw[this];exact yk _ (by lia)
 have e3:a*b*g / y=a:=by
  have:a*b*g=a*y:=by rw[eb];grind
  rw[this];exact yk _ (by lia)
 have p1:0<a*b*g:=xQ (xQ ha hb) hg;have q1:=(cU (w:=b) (h:=g) hb hg).1;have q2:=(cU (w:=a) (h:=g) ha hg).1;have q3:x*y=a*b*g*g:=by rw[ea,eb];grind
 have q4:=(cU (w:=a*b*g) (h:=g) p1 hg).1;rw[e1,e2,e3];lia
def cell(ns:List Int)(k:Int):Int:=ns.getD k.toNat 0
def mo{ns:List Int}{k:Int}(h0:0<=k)(h1:k<(ns.length:Int)):atI (ns.map D.int) k=be (.int (cell ns k)):=by
 obtain⟨j,rfl⟩:∃ j:Nat,k=(j:Int):=⟨k.toNat,by lia⟩;have hk:j<ns.length:=by lia
 refine dn ?_;rw[yj,ya hk];simp[cell,yK,ya hk]
def tK{ns:List Int}{k:Int}(h1:(ns.length:Int)<=k):cell ns k=0:=by
 have hk:ns.length<=k.toNat:=by lia
 simp[cell,yK,Ad hk]
def xC(k:Int):∃ m,atI [D.int 12,D.int 720] (k % 2)=be (.int m)/\(m=12\/m=720):=by
 rcases(by lia:k % 2=0\/k % 2=1) with e|e
 .rw[e];exact⟨12,rfl,.inl rfl⟩
 .rw[e];exact⟨720,rfl,.inr rfl⟩
def cC{a b:Int}(h:0<b):0<=a % b:=zz a (by lia)
def cD{a b:Int}(h:0<b):a % b<b:=zA a h
def tL:SpD:=λds R=>∃ (ns:List Int) (k:Int),ds=[.rol (ns.map D.int),.int k]/\0<=k/\R (.int (cell ns k))
def tM:SpD:=λds R=>∃ i:Int,ds=[.int i]/\R (.bl true)
def tN:SpD:=λds R=>∃ w h s x y:Int,ds=[.tup [.int w,.int h,.int s],.int x,.int y]/\0<w/\0<h/\h<1073741824/\0<=s/\s<1073741824/\
 R (.tup [.int ((x - y / h*s) % w),.int (y % h)])
def tO:SpD:=λds R=>∃ a b c d:Int,ds=[.tup [.int a,.int b],.tup [.int c,.int d]]/\b.natAbs<4611686018427387904/\d.natAbs<4611686018427387904/\
 ∀ p0 p1 q0,Lev a b c d p0 p1 q0->R (.tup [.tup [.int p0,.int p1],.tup [.int q0,.int 0]])
def tQ:SpD:=λds R=>∃ a b c d:Int,ds=[.tup [.int a,.int b],.tup [.int c,.int d]]/\a.natAbs<4611686018427387904/\b.natAbs<4611686018427387904/\c.natAbs<4611686018427387904/\d.natAbs<4611686018427387904/\
 (a*d=b*c->R .non)/\(¬ a*d=b*c->∀ w h s,FamOf a b c d w h s->R (.tup [.int w,.int h,.int s]))
def tR:SpD:=λds R=>∃ w h s:Int,ds=[.tup [.int w,.int h,.int s]]/\0<w/\R (.tup [.int w,.int h,.int (-s % w)])
def tS:SpD:=λds R=>∃ w h s:Int,ds=[.tup [.int w,.int h,.int s]]/\0<w/\0<h/\w<4611686018427387904/\h<4611686018427387904/\0<=s/\s<4611686018427387904/\
 ∀ w' h' s',FamOf 0 w (-h) s w' h' s'->R (.tup [.int w',.int h',.int s'])
def tT:SpD:=λds R=>∃ x y:Int,ds=[.int x,.int y]/\x.natAbs<4611686018427387904/\y.natAbs<4611686018427387904/\∀ g u,Meas x y g u->R (.tup [.int g,.int u])
def tU:SpD:=λds R=>∃ w1 h1 s1 w2 h2 s2:Int,ds=[.tup [.int w1,.int h1,.int s1],.tup [.int w2,.int h2,.int s2]]/\0<w1/\w1<=33554432/\0<h1/\h1<=33554432/\0<=s1/\s1<w1/\0<w2/\w2<=33554432/\0<h2/\h2<=33554432/\0<=s2/\s2<w2/\
 ∀ w h s A,MetR w1 h1 s1 w2 h2 s2 w h s A->R (.tup [.int w,.int h,.int s])
def Drawn(xs:List Int):Prop:=∀ x∈xs,0<=x/\x<5040
def Drawn.at{xs:List Int}(h:Drawn xs)(k:Int):0<=cell xs k/\cell xs k<5040:=by
 by_cases hk:k.toNat<xs.length
 .have:cell xs k=xs[k.toNat]:=by simp[cell,yK,ya hk]
  rw[this];exact h _ (yO hk)
 .have:cell xs k=0:=by simp[cell,yK,Ad (zO hk)]
  lia
def bO{xs:List Int}{k:Int}(h0:0<=k)(h:k.toNat<xs.length):atI (xs.map D.int) k=be (.int (cell xs k)):=mo h0 (by lia)
def mq{xs:List Int}{v:Int}:xs.map D.int++[D.int v]=(xs++[v]).map D.int:=by simp
def ms{xs:List Int}{v:Int}(h:Drawn xs)(h1:0<=v)(h2:v<5040):Drawn (xs++[v]):=by
 intro x hx;rcases yc.mp hx with q|q
 .exact h x q
 .rw[xF.mp q];exact⟨h1,h2⟩
def tV:SpD:=λds R=>∃ (ns:List Int) (k:Int) (n:Nat),ds=[.rol (ns.map D.int),.int k,.int n]/\0<=k/\n<=100/\∀ xs:List Int,xs.length=n->Drawn xs->R (.lst (xs.map D.int))
def tW:SpD:=λds R=>∃ xs:List Int,ds=[.lst (xs.map D.int)]/\8<=xs.length/\Drawn xs/\
 ∀ a b c d:Int,(-12<=a/\a<=12)->(-12<=b/\b<=12)->(-12<=c/\c<=12)->(-12<=d/\d<=12)->¬ a*d=b*c->R (.lst [.tup [.int a,.int b],.tup [.int c,.int d]])
abbrev cs(x:y8):List Nat:=x.cps.toList
def bP(x:y8):(cs x).length=x.length:=by simp[Str.length]
def tX:cs ""=[]:=rfl
def bJ(x y:y8):cs (x++y)=cs x++cs y:=by
 show((x++y:y8)).cps.toList=_;rw[show(x++y:y8).cps=x.cps++y.cps from rfl,Array.toList_append]
def aw(x y:y8):(x++y).length=x.length+y.length:=by rw[<- bP,bJ,xP,bP,bP]
def isSign(c:Nat):Prop:=c=46\/(49<=c/\c<=54)
def mv:∀ (L:List y8),cj (L.map D.str)=be L
 |[]=>rfl
 |x::L=>by simp[cj,mv L]
def cV(x:y8):Prop:=0<x.length/\x.length<=7/\∀ c∈cs x,isSign c
def tY{x:y8}(h:cV x)(v:Int):∃ c,(x.length<=1000000/\atI (cs x) (v % (x.length:Int))=be c)/\isSign c:=by
 have h1:=cC (a:=v) (show 0<(x.length:Int) by have:=h.1;lia);have h2:=cD (a:=v) (show 0<(x.length:Int) by have:=h.1;lia);obtain⟨j,ej⟩:∃ j:Nat,v % (x.length:Int)=(j:Int):=⟨(v % (x.length:Int)).toNat,by lia⟩;have hj:j<(cs x).length:=by rw[bP];lia
 refine⟨(cs x)[j],⟨by have:=h.2.1;lia,?_⟩,h.2.2 _ (yO hj)⟩;rw[ej];exact dn (ya hj)
def tZ:cV "1.23456":=⟨by decide+kernel,by decide+kernel,by unfold isSign;decide+kernel⟩
def ub:cV "12":=⟨by decide+kernel,by decide+kernel,by unfold isSign;decide+kernel⟩
def uc:cV "1.":=⟨by decide+kernel,by decide+kernel,by unfold isSign;decide+kernel⟩
def ud:cV "...2":=⟨by decide+kernel,by decide+kernel,by unfold isSign;decide+kernel⟩
def ue(k:Int):∃ x,atI [D.str "1.23456",D.str "12",D.str "1.",D.str "...2"] (k % 4)=be (.str x)/\cV x:=by
 rcases(by lia:k % 4=0\/k % 4=1\/k % 4=2\/k % 4=3) with e|e|e|e<;>rw[e]
 .exact⟨_,rfl,tZ⟩
 .exact⟨_,rfl,ub⟩
 .exact⟨_,rfl,uc⟩
 .exact⟨_,rfl,ud⟩
def uf(k:Int):∃ m,atI [D.int 1,D.int 70] (k % 2)=be (.int m)/\(m=1\/m=70):=by
 rcases(by lia:k % 2=0\/k % 2=1) with e|e<;>rw[e]
 .exact⟨1,rfl,.inl rfl⟩
 .exact⟨70,rfl,.inr rfl⟩
structure Rows(L:List Str):Prop where
 many:1<=L.length/\L.length<=8
 wide:∃ w,(1<=w/\w<=8)/\∀ l∈L,l.length=w/\∀ c∈cs l,isSign c
def Rows.of{L:List y8}{w t:Nat}(h1:1<=t)(h2:t<=8)(hl:L.length=t)(w1:1<=w)(w2:w<=8)(h:∀ l∈L,l.length=w/\∀ c∈cs l,isSign c):Rows L:=⟨by lia,w,⟨w1,w2⟩,h⟩
def uh{x:y8}{c:Nat}{i:Nat}(h1:x.length=i)(h2:∀ c∈cs x,isSign c)(hc:isSign c):(x++⟨#[c]⟩:y8).length=i+1/\∀ c'∈cs (x++⟨#[c]⟩),isSign c':=by
 refine⟨by rw[aw,h1];rfl,λc' q=>?_⟩;rw[bJ] at q;rcases yc.mp q with q|q
 .exact h2 _ q
 .have:c'=c:=by simpa[cs] using q
  rw[this];exact hc
def ui{L:List y8}{x:y8}:L.map D.str++[D.str x]=(L++[x]).map D.str:=by simp
def cE(L:List y8)(a b c d:Int):Str:=("["++Txt.join "/" L)++((((((((";":y8)++(toString a:String))++",")++(toString b:String))++";")++(toString c:String))++",")++(toString d:String))++"]"
def bD{a:Int}(h: -12<=a/\a<=12):((toString a:String):y8).length<=3:=by
 have key:∀ k:Fin 25,((toString (((k.val:Nat):Int) - 12):String):y8).length<=3:=by decide+kernel
 have:=key ⟨(a+12).toNat,by lia⟩;have e:(((a+12).toNat:Nat):Int) - 12=a:=by lia
 rw[e] at this;exact this
def B12(a:Int):Prop:=-12<=a/\a<=12
def B12.lt{a:Int}(h:B12 a):a.natAbs<1073741824:=by unfold B12 at h;lia
def uj{L:List y8}{w:Nat}(h:∀ l∈L,l.length=w):(L.map (·.length)).sum=L.length*w:=by
 induction L with
 |nil=>simp
 |cons x L ih=>
  rw[xN,List.sum_cons,ih (λl hl=>h l (xS _ hl)),h x xT,xG,Nat.succ_mul,Nat.add_comm]
def mw{L:List y8}(h:Rows L):(L.map (·.length)).sum+L.length*("/":y8).length<=72:=by
 obtain⟨h1,w,hw,h2⟩:=h;rw[uj (λl hl=>(h2 l hl).1)];have e:("/":y8).length=1:=rfl;rw[e];have:=zC h1.2 hw.2;lia
def uk:SpD:=λds R=>∃ xs:List Int,ds=[.lst (xs.map D.int)]/\40<=xs.length/\Drawn xs/\∀ L:List y8,Rows L->R (.lst (L.map D.str))
def ul:SpD:=λds R=>∃ (L:List y8) (a b c d:Int),ds=[.lst (L.map D.str),.tup [.int a,.int b],.tup [.int c,.int d]]/\Rows L/\B12 a/\B12 b/\B12 c/\B12 d/\R (.str (cE L a b c d))
structure Leaf where
 rows:List y8
 a:Int
 b:Int
 c:Int
 d:Int
 w0:Int
 w1:Int
 w2:Int
 w3:Int
 w4:Int
 w5:Int
 hues:List Int
def Leaf.D(l:Leaf):My.D:= .tup [.lst (l.rows.map D.str),.tup [.int l.a,.int l.b],.tup [.int l.c,.int l.d],.tup [.int l.w0,.int l.w1,.int l.w2,.int l.w3,.int l.w4,.int l.w5],.lst (l.hues.map D.int)]
structure Leaf.Ok(l:Leaf):Prop where
 rows:Rows l.rows
 a:B12 l.a
 b:B12 l.b
 c:B12 l.c
 d:B12 l.d
 ne:¬ l.a*l.d=l.b*l.c
 w0:l.w0.natAbs<=1
 w1:l.w1.natAbs<=1
 w2:l.w2.natAbs<=1
 w3:l.w3.natAbs<=1
 w4:l.w4.natAbs<=1000
 w5:l.w5.natAbs<=1000
 many:l.hues.length=7
 hue:∀ h∈l.hues,0<=h/\h<=6
def onB(a b c d u v:Int):Bool:=decide ((u*d - v*c).fmod (a*d - b*c)=0/\(a*v - b*u).fmod (a*d - b*c)=0)
def mx(f:Int->Bool):Nat->List Nat->Option Nat
 |_,[]=>t8
 |i,c::r=>if c≠46/\f i=true then be c else mx f (i+1) r
def my(f:Int->Int->Bool):Nat->List y8->Option Nat
 |_,[]=>t8
 |j,l::r=>match mx (λi=>f i j) 0 (cs l) with|some c=>be c|none=>my f (j+1) r
def Leaf.hit(l:Leaf)(x y:Int):Option Nat:=my (λi j=>onB l.a l.b l.c l.d (l.w0*x+l.w1*y+l.w4 - i) (l.w2*x+l.w3*y+l.w5 - j)) 0 l.rows
def Leaf.shows(l:Leaf)(x y:Int):Int:=match l.hit x y with|some c=>cell l.hues ((c:Int) - 48)|none=>0
def um{c:Nat}:(⟨#[c]⟩:y8)="."↔c=46:=by
 constructor
 .intro h;have:(#[c]:Array Nat)=(".":y8).cps:=congrArg Str.cps h;have e:(#[c]:Array Nat).toList=(".":y8).cps.toList:=by rw[this]
  have e2:(".":y8).cps.toList=[46]:=rfl;rw[e2] at e;simpa using e
 .rintro rfl;rfl
def digit_of{c:Nat}(h:49<=c/\c<=54):PySem.intText? (⟨#[c]⟩:y8)=be ((c:Int) - 48):=by
 rcases(by lia:c=49\/c=50\/c=51\/c=52\/c=53\/c=54) with e|e|e|e|e|e<;>subst e<;>decide+kernel
def range_int{n:Int}{k:Nat}{x:D}(h:((xY n.toNat).map λk=>D.int ((k:Nat):Int))[k]?=be x):k<n.toNat/\x= .int (k:Int):=by
 have hk:k<n.toNat:=by simpa using(xO.mp h).1
 refine⟨hk,?_⟩;simp[hk] at h;exact h.symm
def gL{n:Int}:((xY n.toNat).map λk=>D.int ((k:Nat):Int)).length=n.toNat:=by simp
def gM(L:List y8)(a b c d:Int):Leaf:=⟨L,a,b,c,d,1,0,0,1,0,0,[0,1,2,3,4,5,6]⟩
inductive Pat where
 |mot (L:List Str) (a b c d:Int)
 |over (p q:Pat)
 |sh (a b:Int) (p:Pat)
 |mir (p:Pat)
 |tur (p:Pat)
 |hue (f g:Int) (p:Pat)
def Pat.text:Pat->y8
 | .mot L a b c d=>cE L a b c d
 | .over p q=>(((("(":y8)++p.text)++"|")++q.text)++")"
 | .sh a b p=>((((("s":y8)++(toString a:String))++",")++(toString b:String))++":")++p.text
 | .mir p=>("m":y8)++p.text
 | .tur p=>("t":y8)++p.text
 | .hue f g p=>((("h":y8)++(toString f:String))++(toString g:String))++p.text
def Pat.depth:Pat->Nat
 | .mot ..=>0
 | .over p q=>1+max p.depth q.depth
 | .sh _ _ p=>p.depth+1
 | .mir p=>p.depth+1
 | .tur p=>p.depth+1
 | .hue _ _ p=>p.depth+1
def Leaf.by(l:Leaf)(b0 b1 b2 b3 b4 b5:Int):Leaf:=
 {l with w0:=l.w0*b0+l.w1*b2,w1:=l.w0*b1+l.w1*b3,w2:=l.w2*b0+l.w3*b2,w3:=l.w2*b1+l.w3*b3,w4:=l.w4+l.w0*b4+l.w1*b5,w5:=l.w5+l.w2*b4+l.w3*b5}
def mz(f g h:Int):Int:=if h=f then g else h
def Leaf.dye(l:Leaf)(f g:Int):Leaf:={l with hues:=l.hues.map (mz f g)}
def Pat.leaves:Pat->List Leaf
 | .mot L a b c d=>[gM L a b c d]
 | .over p q=>p.leaves++q.leaves
 | .sh a b p=>p.leaves.map (λl=>l.by 1 0 0 1 (-a) (-b))
 | .mir p=>p.leaves.map (λl=>l.by (-1) 0 0 1 0 0)
 | .tur p=>p.leaves.map (λl=>l.by 0 1 (-1) 0 0 0)
 | .hue f g p=>p.leaves.map (λl=>(l.by 1 0 0 1 0 0).dye f g)
def Pat.show:Pat->Int->Int->Int
 | .mot L a b c d,x,y=>(gM L a b c d).shows x y
 | .over p q,x,y=>if p.show x y≠0 then p.show x y else q.show x y
 | .sh a b p,x,y=>p.show (x - a) (y - b)
 | .mir p,x,y=>p.show (-x) y
 | .tur p,x,y=>p.show y (-x)
 | .hue f g p,x,y=>mz f g (p.show x y)
def Pat.Wf:Pat->Prop
 | .mot L a b c d=>Rows L/\B12 a/\B12 b/\B12 c/\B12 d/\¬ a*d=b*c
 | .over p q=>p.Wf/\q.Wf
 | .sh a b p=>B12 a/\B12 b/\p.Wf
 | .mir p=>p.Wf
 | .tur p=>p.Wf
 | .hue f g p=>(1<=f/\f<=6)/\(1<=g/\g<=6)/\p.Wf
structure Leaf.Near(l:Leaf)(n:Nat):Prop where
 u0:(l.w0.natAbs=1/\l.w1=0/\l.w2=0/\l.w3.natAbs=1)\/(l.w0=0/\l.w1.natAbs=1/\l.w2.natAbs=1/\l.w3=0)
 w4:l.w4.natAbs<=24*n
 w5:l.w5.natAbs<=24*n
structure Leaf.Good(l:Leaf):Prop where
 rows:Rows l.rows
 a:B12 l.a
 b:B12 l.b
 c:B12 l.c
 d:B12 l.d
 ne:¬ l.a*l.d=l.b*l.c
 many:l.hues.length=7
 hue:∀ h∈l.hues,0<=h/\h<=6
def Pat.D(p:Pat):My.D:= .lst [.str p.text,.int p.depth,.lst (p.leaves.map Leaf.D)]
def Leaf.T(dy:Bool)(i9 new b0 b1 b2 b3 b4 b5:Int)(l:Leaf):Leaf:=if dy then(l.by b0 b1 b2 b3 b4 b5).dye i9 new else l.by b0 b1 b2 b3 b4 b5
def mB{a:Int}(h:1<=a/\a<=6):((toString a:String):y8).length<=3:=bD (by lia)
def Wraps(p:Pat)(H:Prop)(R:My.D->Prop):Prop:=(5<=p.depth->R p.D)/\(p.depth<5->R (Pat.mir p).D/\R (Pat.tur p).D/\(∀ a b,B12 a->B12 b->R (Pat.sh a b p).D)/\(H->∀ f g:Int,(1<=f/\f<=6)->(1<=g/\g<=6)->R (Pat.hue f g p).D))
def mC{α:Type}{xs:List α}{k:Nat}{x:α}(h:xs[k]?=be x):xs.take (k+1)=xs.take k++[x]:=by
 have hk:k<xs.length:=(xO.mp h).1;rw[List.take_succ,h];rfl
def Uni.trans{a b c d p0 p1 q0 q1 x0 x1 y0 y1:Int}(h:Uni a b c d p0 p1 q0 q1)(k:Uni p0 p1 q0 q1 x0 x1 y0 y1):Uni a b c d x0 x1 y0 y1:=by
 obtain⟨m,n,k1,l,hd,rfl,rfl,rfl,rfl⟩:=h;obtain⟨m',n',k',l',f6,rfl,rfl,rfl,rfl⟩:=k;have dt:(m'*m+n'*k1)*(k'*n+l'*l) - (m'*n+n'*l)*(k'*m+l'*k1)=(m'*l' - n'*k')*(m*l - n*k1):=by grind
 refine⟨m'*m+n'*k1,m'*n+n'*l,k'*m+l'*k1,k'*n+l'*l,?_,by grind,by grind,by grind,by grind⟩;rw[dt];rcases hd with e|e<;>rcases f6 with e'|e'<;>rw[e,e']<;>decide
def dH:∀ (n:Nat) (a b c d:Int),d.natAbs<=n->∃ p0 p1 q0,Lev a b c d p0 p1 q0
 |n,a,b,c,d,hn=>by
  by_cases hd:d=0
  .subst hd;by_cases hb:0<=b
   .exact⟨a,b,c,hb,Uni.refl a b c 0⟩
   .exact⟨-a,-b,c,by lia,(Uni.refl a b c 0).neg⟩
  .match n,hn with
   |0,hn=>exact absurd (by lia:d=0) hd
   |n+1,hn=>
    have lt:=(fdm b d hd).1;obtain⟨p0,p1,q0,h0,hu⟩:=dH n c d (a - b.fdiv d*c) (b - b.fdiv d*d) (by lia);exact⟨p0,p1,q0,h0,((Uni.refl a b c d).step (b.fdiv d)).trans hu⟩
def xD{a b c d g:Int}(hn:¬ a*d=b*c)(g0:0<=g)(g1:g∣b)(g2:g∣d)(g3:∀ e,e∣b->e∣d->e∣g):
  ∃ w s,FamOf a b c d w g s:=by
 obtain⟨p0,p1,q0,hL⟩:=dH d.natAbs a b c d (xH _);have hF:=eM hn hL;have hp:=hF.2.1;obtain⟨m,n,k,l,_,e1,e2,e3,e4⟩:=hL.2;obtain⟨m',n',k',l',_,f1,f2,f3,f4⟩:=hL.2.inv;have d1:p1∣g:=g3 p1 ⟨m',by rw[f2];grind⟩ ⟨k',by rw[f4];grind⟩;have d2:g∣p1:=by
  rw[e2];exact Int.dvd_add (Ae g1) (Ae g2)
 have:p1=g:=Int.dvd_antisymm (by lia) g0 d1 d2;subst this;exact⟨_,_,hF⟩
def FamOf.uniq_lean{a b c d w h s x i j:Int}(f:FamOf a b c d w h s)(e1:x=i*a+j*c)(e2:h=i*b+j*d)(h0:0<=x)(h1:x<=s):x=s:=by
 obtain⟨hw,hh,hs,Cq,hu⟩:=f;obtain⟨m,n,k,l,_,f1,f2,f3,f4⟩:=hu.inv;have ex:x=(i*m+j*k)*w+(i*n+j*l)*s:=by rw[e1,f1,f3];grind
 have eh:h=(i*n+j*l)*h:=by
  have:i*b+j*d=(i*n+j*l)*h:=by rw[f2,f4];grind
  rw[<- this];exact e2
 have one:i*n+j*l=1:=by
  have:(i*n+j*l)*h=1*h:=by lia
  exact yG (by lia) this
 rw[one] at ex;generalize i*m+j*k=t at ex;have:t*w=x - s:=by lia
 rcases(by lia:t<=-1\/t=0\/1<=t) with z|z|z
 .have:=xX z (show 0<=w by lia);lia
 .subst z;lia
 .have:=xX z (show 0<=w by lia);lia
def Leaf.o0(l:Leaf):Int:=l.w0*l.a+l.w2*l.b
def Leaf.o1(l:Leaf):Int:=l.w1*l.a+l.w3*l.b
def Leaf.t0(l:Leaf):Int:=l.w0*l.c+l.w2*l.d
def Leaf.t1(l:Leaf):Int:=l.w1*l.c+l.w3*l.d
def cW(x y:Int):∃ g u,Meas x y g u:=by
 obtain⟨p0,p1,q0,hL⟩:=dH y.natAbs 1 x 0 y (xH _);exact⟨p1,p0,mm ⟨hL.1,hL.2⟩⟩
structure Fm(w h s:Int):Prop where
 w0:0<w
 w1:w<=720
 h0:0<h
 h1:h<=720
 s0:0<=s
 sw:s<w
def MetR.high{w1 h1 s1 w2 h2 s2 w h s A x j:Int}(M:MetR w1 h1 s1 w2 h2 s2 w h s A)(hh:0<h1)(hj:1<=j)(e1:∃ i,x=i*w1+j*s1)(e2:∃ i k,x=i*w2+k*s2/\j*h1=k*h2):h<=j*h1/\(j*h1=h->0<=x->x<w->x=s):=by
 obtain⟨i,e1⟩:=e1;obtain⟨i',k,e3,e4⟩:=e2;obtain⟨a,b,e5,e6⟩:=M.all x (j*h1) ⟨i,j,e1,rfl⟩ ⟨i',k,e3,e4⟩;have hp:0<j*h1:=xQ (by lia) hh;have hb:1<=b:=by
  rcases(by lia:b<=0\/1<=b) with z|z
  .have:=yF z (show 0<=h by have:=M.h0;lia);lia
  .exact z
 refine⟨?_,λe x0 x1=>?_⟩
 .have:=xX hb (show 0<=h by have:=M.h0;lia);lia
 .have ob:b=1:=by
   have:b*h=1*h:=by lia
   exact yG (by have:=M.h0;lia) this
  rw[ob] at e5;have s0:=M.s0;have sw:=M.sw;have:a*w=x - s:=by lia
  rcases(by lia:a<=-1\/a=0\/1<=a) with z|z|z
  .have:=xX z (show 0<=w by lia);lia
  .subst z;lia
  .have:=xX z (show 0<=w by lia);lia
def InF(w h s x y:Int):Prop:=∃ i j,x=i*w+j*s/\y=j*h
def Leaf.Lat(l:Leaf)(x y:Int):Prop:=∃ i j,x=i*l.o0+j*l.t0/\y=i*l.o1+j*l.t1
def FamOf.lat{a b c d w h s:Int}(f:FamOf a b c d w h s)(x y:Int):InF w h s x y↔∃ i j,x=i*a+j*c/\y=i*b+j*d:=by
 obtain⟨_,_,_,_,hu⟩:=f;obtain⟨m,n,k,l,_,e1,e2,e3,e4⟩:=id hu;obtain⟨m',n',k',l',_,f1,f2,f3,f4⟩:=hu.inv;constructor
 .rintro⟨i,j,rfl,rfl⟩;refine⟨i*m+j*k,i*n+j*l,by rw[e1,e3];grind,?_⟩;have z:i*0+j*h=(i*m+j*k)*b+(i*n+j*l)*d:=by rw[e2,e4];grind
  lia
 .rintro⟨i,j,rfl,rfl⟩;refine⟨i*m'+j*k',i*n'+j*l',by rw[f1,f3];grind,by rw[f2,f4];grind⟩
def MetR.lat{w1 h1 s1 w2 h2 s2 w h s A:Int}(M:MetR w1 h1 s1 w2 h2 s2 w h s A)(x y:Int):InF w h s x y↔InF w1 h1 s1 x y/\InF w2 h2 s2 x y:=by
 constructor
 .rintro⟨i,j,rfl,rfl⟩;obtain⟨a1,e1⟩:=M.in1;obtain⟨a2,e2⟩:=M.in2;obtain⟨b1,c1,e3,e4⟩:=M.up1;obtain⟨b2,c2,e5,e6⟩:=M.up2;refine⟨⟨i*a1+j*b1,j*c1,?_,?_⟩,⟨i*a2+j*b2,j*c2,?_,?_⟩⟩
  .rw[e1,e3];grind
  .rw[e4];grind
  .rw[e2,e5];grind
  .rw[e6];grind
 .rintro⟨h1,h2⟩;exact M.all x y h1 h2
def InF.le{w h s w' h' s':Int}(hw:0<w)(hh:0<h)(C0:0<w')(C1:0<h')(sub:∀ x y,InF w' h' s' x y->InF w h s x y):w*h<=w'*h'/\w<=w'/\h<=h':=by
 obtain⟨i,j,e1,e2⟩:=sub w' 0 ⟨1,0,by lia,by lia⟩;have j0:j=0:=by
  rcases yP.mp e2.symm with z|z
  .exact z
  .lia
 subst j0;have i1:1<=i:=by
  rcases(by lia:i<=0\/1<=i) with z|z
  .have:=yF z (show 0<=w by lia);lia
  .exact z
 obtain⟨i',j',e3,e4⟩:=sub s' h' ⟨0,1,by lia,by lia⟩;have j1:1<=j':=by
  rcases(by lia:j'<=0\/1<=j') with z|z
  .have:=yF z (show 0<=h by lia);lia
  .exact z
 have a1:=xX i1 (show 0<=w by lia);have a2:=xX j1 (show 0<=h by lia);have b1:w<=w':=by lia
 have b2:h<=h':=by lia
 exact⟨Af b1 b2 (by lia) (by lia),b1,b2⟩
def InF.uniq{w h s w' h' s':Int}(hw:0<w)(hh:0<h)(hs:0<=s)(Cq:s<w)(C0:0<w')(C1:0<h')(BU:0<=s')(FK:s'<w')(e:∀ x y,InF w h s x y↔InF w' h' s' x y):w=w'/\h=h'/\s=s':=by
 obtain⟨_,a1,a2⟩:=InF.le hw hh C0 C1 (λx y q=>(e x y).mpr q);obtain⟨_,b1,b2⟩:=InF.le C0 C1 hw hh (λx y q=>(e x y).mp q);have ew:w=w':=by lia
 have eh:h=h':=by lia
 subst ew eh;refine⟨rfl,rfl,?_⟩;obtain⟨i,j,e1,e2⟩:=(e s h).mp ⟨0,1,by lia,by lia⟩;have j1:j=1:=by
  have:j*h=1*h:=by lia
  exact yG (by lia) this
 subst j1;have:i*w=s - s':=by lia
 rcases(by lia:i<=-1\/i=0\/1<=i) with z|z|z
 .have:=xX z (show 0<=w by lia);lia
 .subst z;lia
 .have:=xX z (show 0<=w by lia);lia
structure Fam0(w h s:Int):Prop where
 w0:0<w
 h0:0<h
 s0:0<=s
 sw:s<w
def uo{w1 h1 s1 w2 h2 s2:Int}(f:Fam0 w1 h1 s1)(k:Fam0 w2 h2 s2):∃ w h s,Fam0 w h s/\∀ x y,InF w h s x y↔InF w1 h1 s1 x y/\InF w2 h2 s2 x y:=by
 obtain⟨g,u,M1⟩:=cW w1 w2;obtain⟨k',u',M2⟩:=cW h1 h2;obtain⟨gg,n6,M3⟩:=cW g (h1*h2 / k' / h2*s2 - h1*h2 / k' / h1*s1);have M:=gK f.w0 k.w0 f.h0 k.h0 M1 M2 M3;exact⟨_,_,_,⟨M.w0,M.h0,M.s0,M.sw⟩,M.lat⟩
def Pat.Lat:Pat->Int->Int->Prop
 | .mot _ a b c d,x,y=>∃ i j,x=i*a+j*c/\y=i*b+j*d
 | .over p q,x,y=>p.Lat x y/\q.Lat x y
 | .sh _ _ p,x,y=>p.Lat x y
 | .mir p,x,y=>p.Lat (-x) y
 | .tur p,x,y=>p.Lat y (-x)
 | .hue _ _ p,x,y=>p.Lat x y
structure Pat.Fam(p:Pat)(w h s:Int):Prop where
 f:Fam0 w h s
 lat:∀ x y,InF w h s x y↔p.Lat x y
def Pat.Fam.uniq{p:Pat}{w h s w' h' s':Int}(a:p.Fam w h s)(b:p.Fam w' h' s'):w=w'/\h=h'/\s=s':=
 InF.uniq a.f.w0 a.f.h0 a.f.s0 a.f.sw b.f.w0 b.f.h0 b.f.s0 b.f.sw λx y=>(a.lat x y).trans (b.lat x y).symm
def Pat.Fam.mot{L:List y8}{a b c d w h s:Int}(k:FamOf a b c d w h s):(Pat.mot L a b c d).Fam w h s:=⟨⟨k.1,k.2.1,k.2.2.1,k.2.2.2.1⟩,k.lat⟩
def Pat.Fam.sh{p:Pat}{w h s:Int}(a b:Int)(k:p.Fam w h s):(Pat.sh a b p).Fam w h s:=⟨k.f,k.lat⟩
def Pat.Fam.hue{p:Pat}{w h s:Int}(a b:Int)(k:p.Fam w h s):(Pat.hue a b p).Fam w h s:=⟨k.f,k.lat⟩
def Pat.Fam.mir{p:Pat}{w h s:Int}(k:p.Fam w h s):(Pat.mir p).Fam w h (-s % w):=by
 refine⟨⟨k.f.w0,k.f.h0,cC k.f.w0,cD k.f.w0⟩,λx y=>?_⟩;show _↔p.Lat (-x) y;rw[<- k.lat];have e:=yN (-s) w;generalize -s % w=r at e;generalize -s / w=t at e;constructor
 .rintro⟨i,j,rfl,rfl⟩;exact⟨j*t - i,j,by rw[e];grind,rfl⟩
 .rintro⟨i,j,ex,rfl⟩;exact⟨j*t - i,j,by rw[e];grind,rfl⟩
def Pat.Fam.tur{p:Pat}{w h s w' h' s':Int}(k:p.Fam w h s)(f:FamOf 0 w (-h) s w' h' s'):(Pat.tur p).Fam w' h' s':=by
 refine⟨⟨f.1,f.2.1,f.2.2.1,f.2.2.2.1⟩,λx y=>?_⟩;show _↔p.Lat y (-x);rw[<- k.lat,f.lat];constructor
 .rintro⟨i,j,rfl,rfl⟩;exact⟨i,j,by grind,by grind⟩
 .rintro⟨i,j,ex,ey⟩;exact⟨i,j,by grind,by grind⟩
def Pat.Fam.over{p q:Pat}{w1 h1 s1 w2 h2 s2 w h s A:Int}(k1:p.Fam w1 h1 s1)(k2:q.Fam w2 h2 s2)(M:MetR w1 h1 s1 w2 h2 s2 w h s A):(Pat.over p q).Fam w h s:=by
 refine⟨⟨M.w0,M.h0,M.s0,M.sw⟩,λx y=>?_⟩;rw[M.lat,k1.lat,k2.lat];exact Iff.rfl
def eN{w h s:Int}(hw:0<w)(hh:0<h):∃ w' h' s',FamOf 0 w (-h) s w' h' s'/\w'*h'=w*h:=by
 have hp:0<w*h:=xQ hw hh;have hn:¬ 0*s=w* -h:=by rw[yt];lia
 obtain⟨p0,p1,q0,hL⟩:=dH s.natAbs 0 w (-h) s (xH _);have f:=eM hn hL;refine⟨_,_,_,f,?_⟩;have AJ:=xQ f.1 f.2.1;have c:=f.cells;rw[yt] at c;lia
def gN{L:List y8}{a b c d:Int}(hn:¬ a*d=b*c):∃ w h s,FamOf a b c d w h s/\(Pat.mot L a b c d).Fam w h s:=by
 obtain⟨p0,p1,q0,hL⟩:=dH d.natAbs a b c d (xH _);have f:=eM hn hL;exact⟨_,_,_,f,.mot f⟩
def Pat.fam_ex:∀ {p:Pat},p.Wf->∃ w h s,p.Fam w h s
 | .mot L a b c d,h=>by
  obtain⟨w,k,s,_,f⟩:=gN (L:=L) h.2.2.2.2.2;exact⟨w,k,s,f⟩
 | .over p q,h=>by
  obtain⟨w1,h1,s1,f1⟩:=Pat.fam_ex h.1;obtain⟨w2,h2,s2,f2⟩:=Pat.fam_ex h.2;obtain⟨w,k,s,f,e⟩:=uo f1.f f2.f;refine⟨w,k,s,f,λx y=>?_⟩;rw[e,f1.lat,f2.lat];exact Iff.rfl
 | .sh a b p,h=>by
  obtain⟨w,k,s,f⟩:=Pat.fam_ex h.2.2;exact⟨w,k,s,f.sh a b⟩
 | .mir p,h=>by
  obtain⟨w,k,s,f⟩:=Pat.fam_ex (p:=p) h;exact⟨w,k,_,f.mir⟩
 | .tur p,h=>by
  obtain⟨w,k,s,f⟩:=Pat.fam_ex (p:=p) h;obtain⟨w',k',s',f',_⟩:=eN (s:=s) f.f.w0 f.f.h0;exact⟨w',k',s',f.tur f'⟩
 | .hue a b p,h=>by
  obtain⟨w,k,s,f⟩:=Pat.fam_ex h.2.2;exact⟨w,k,s,f.hue a b⟩
def Pat.Fits(p:Pat):Prop:=∃ w h s,p.Fam w h s/\w*h<=720
def Pat.fits_mot{L:List y8}{a b c d:Int}(ha:B12 a)(hb:B12 b)(hc:B12 c)(hd:B12 d)(hn:¬ a*d=b*c):(Pat.mot L a b c d).Fits:=by
 obtain⟨w,h,s,k,f⟩:=gN (L:=L) hn;refine⟨w,h,s,f,?_⟩;have kc:=k.cells;unfold B12 at*;have m1:=bg (a:=a) (d:=d) (A:=12) (B:=12) (by lia) (by lia);have m2:=bg (a:=b) (d:=c) (A:=12) (B:=12) (by lia) (by lia);lia
def Pat.Fits.sh{p:Pat}(a b:Int)(k:p.Fits):(Pat.sh a b p).Fits:=by
 obtain⟨w,h,s,f,q⟩:=k;exact⟨w,h,s,f.sh a b,q⟩
def Pat.Fits.hue{p:Pat}(a b:Int)(k:p.Fits):(Pat.hue a b p).Fits:=by
 obtain⟨w,h,s,f,q⟩:=k;exact⟨w,h,s,f.hue a b,q⟩
def Pat.Fits.mir{p:Pat}(k:p.Fits):(Pat.mir p).Fits:=by
 obtain⟨w,h,s,f,q⟩:=k;exact⟨w,h,_,f.mir,q⟩
def Pat.Fits.tur{p:Pat}(k:p.Fits):(Pat.tur p).Fits:=by
 obtain⟨w,h,s,f,q⟩:=k;obtain⟨w',k',s',f',e⟩:=eN (s:=s) f.f.w0 f.f.h0;exact⟨w',k',s',f.tur f',by lia⟩
def uq{L:List y8}{a b c d:Int}(hL:Rows L)(ha:B12 a)(hb:B12 b)(hc:B12 c)(hd:B12 d):(cE L a b c d).length<=100:=by
 have la:=bD ha;have lb:=bD hb;have lc:=bD hc;have ld:=bD hd;have l1:(";":y8).length=1:=rfl;have l2:(",":y8).length=1:=rfl;have l3:("[":y8).length=1:=rfl;have l4:("]":y8).length=1:=rfl;have ls:=mw hL;have lj:=StrLaws.join_length_le "/" L;have lg:(Txt.join "/" L).length<=72:=by
  have e:Txt.join "/" L=Str.join "/" L:=StrLaws.glued_eq_join _ _;rw[e];exact xR lj ls
 unfold cE
 repeat rw[aw]
 lia
structure Pat.Ok(p:Pat):Prop where
 wf:p.Wf
 deep:p.depth<=5
 fits:p.Fits
def Wraps.of{p:Pat}{H:Prop}{R:My.D->Prop}(h:p.Ok)(hR:∀ q:Pat,q.Ok->R q.D):Wraps p H R:=by
 refine⟨λ_=>hR p h,λhd=>⟨hR _ ⟨h.wf,?_,h.fits.mir⟩,hR _ ⟨h.wf,?_,h.fits.tur⟩,λa b ha hb=>hR _ ⟨⟨ha,hb,h.wf⟩,?_,h.fits.sh a b⟩,λ_ f g hf hg=>hR _ ⟨⟨hf,hg,h.wf⟩,?_,h.fits.hue f g⟩⟩⟩<;>(simp only[Pat.depth];lia)
inductive Wt where
 |sign (c:Nat)|pat (d:Nat)|lin (w h k:Nat)|hue|num|fig|more
 deriving DecidableEq
abbrev isSg(c:Nat):Bool:=c==46||(49<=c && c<=54)
def motW(r:List Wt):List Wt:= .lin 0 0 0:: .num:: .sign 44:: .num:: .sign 59:: .num:: .sign 44:: .num:: .sign 93::r
def bj(d c:Nat)(r:List Wt):Option (List Wt):=
 if c=91 then be (motW r)
 else if d=5 then t8
 else if c=40 then be (.pat (d+1):: .sign 124:: .pat (d+1):: .sign 41::r)
 else if c=115 then be (.num:: .sign 44:: .num:: .sign 58:: .pat (d+1)::r)
 else if c=104 then be (.hue:: .hue:: .pat (d+1)::r)
 else if c=109\/c=116 then be (.pat (d+1)::r)
 else t8
def bX(w h k c:Nat)(r:List Wt):Option (List Wt):=
 if isSg c then(if h<(if 0<k then w else 8) then be (.lin w (h+1) k::r) else t8)
 else if h=0\/(0<k/\h<w) then t8
 else if c=47 then(if k<7 then be (.lin h 0 (k+1)::r) else t8)
 else if c=59 then be r
 else t8
def aC:List Wt->Nat->Option (List Wt)
 |[],_=>t8
 | .sign s::r,c=>if c=s then be r else t8
 | .pat d::r,c=>bj d c r
 | .lin w h k::r,c=>bX w h k c r
 | .hue::r,c=>if 49<=c/\c<=54 then be r else t8
 | .more::r,_=>be r
 | .num::r,c=>if c=49 then be (.more::r) else if c=45 then be (.fig::r) else if 48<=c/\c<=57 then be r else t8
 | .fig::r,c=>if c=49 then be (.more::r) else if 50<=c/\c<=57 then be r else t8
def aB(st:List Wt)(c:Nat):List Wt:=match st with
 | .more::r=>if 48<=c/\c<=50 then st else r
 |_=>st
def step(st:List Wt)(c:Nat):Option (List Wt):=aC (aB st c) c
def walk:List Wt->List Nat->Nat->Option Nat
 |st,[],k=>if st=[] then t8 else be k
 |st,c::l,k=>match step st c with
  |none=>be k
  |some st'=>walk st' l (k+1)
def ck(t:y8):Option Nat:=walk [.pat 0] (cs t) 0
def Pat.Syn:Pat->Prop
 | .mot L a b c d=>Rows L/\B12 a/\B12 b/\B12 c/\B12 d
 | .over p q=>p.Syn/\q.Syn
 | .sh a b p=>B12 a/\B12 b/\p.Syn
 | .mir p=>p.Syn
 | .tur p=>p.Syn
 | .hue f g p=>(1<=f/\f<=6)/\(1<=g/\g<=6)/\p.Syn
def Pat.Wf.syn:∀ {p:Pat},p.Wf->p.Syn
 | .mot ..,h=>⟨h.1,h.2.1,h.2.2.1,h.2.2.2.1,h.2.2.2.2.1⟩
 | .over p q,h=>⟨Pat.Wf.syn h.1,Pat.Wf.syn h.2⟩
 | .sh a b p,h=>⟨h.1,h.2.1,Pat.Wf.syn h.2.2⟩
 | .mir p,h=>Pat.Wf.syn (p:=p) h
 | .tur p,h=>Pat.Wf.syn (p:=p) h
 | .hue f g p,h=>⟨h.1,h.2.1,Pat.Wf.syn h.2.2⟩
def ay{st st':List Wt}{c:Nat}{l:List Nat}{k:Nat}(h:step st c=be st'):walk st (c::l) k=walk st' l (k+1):=by
 rw[walk,h]
def numL(a:Int):List Nat:=cs (toString a:String)
def mD{a:Int}(h:B12 a){P:Int->Prop}(hP:∀ k:Fin 25,P (((k.val:Nat):Int) - 12)):P a:=by
 unfold B12 at h;have:=hP ⟨(a+12).toNat,by lia⟩;have e:(((a+12).toNat:Nat):Int) - 12=a:=by lia
 rw[e] at this;exact this
def isNumL(l:List Nat):Prop:=(∃ c,(48<=c/\c<=57)/\l=[c])\/(∃ c,(48<=c/\c<=50)/\l=[49,c])\/(∃ c,(49<=c/\c<=57)/\l=[45,c])\/∃ c,(48<=c/\c<=50)/\l=[45,49,c]
def numL_is{a:Int}(h:B12 a):isNumL (numL a):=by
 have key:∀ k:Fin 25,(numL (((k.val:Nat):Int) - 12))∈([[45,49,50],[45,49,49],[45,49,48],[45,57],[45,56],[45,55],[45,54],[45,53],[45,52],[45,51],[45,50],[45,49],[48],[49],[50],[51],[52],[53],[54],[55],[56],[57],[49,48],[49,49],[49,50]]:List (List Nat)):=by decide+kernel
 have h1:=mD (P:=λa=>numL a∈([[45,49,50],[45,49,49],[45,49,48],[45,57],[45,56],[45,55],[45,54],[45,53],[45,52],[45,51],[45,50],[45,49],[48],[49],[50],[51],[52],[53],[54],[55],[56],[57],[49,48],[49,49],[49,50]]:List (List Nat))) h key;revert h1;generalize numL a=l;intro h1;unfold isNumL;simp only[xJ,yQ,or_false] at h1;rcases h1 with e|e|e|e|e|e|e|e|e|e|e|e|e|e|e|e|e|e|e|e|e|e|e|e|e<;>subst e
 all_goals first
  |exact .inl ⟨_,by decide,rfl⟩
  |exact .inr (.inl ⟨_,by decide,rfl⟩)
  |exact .inr (.inr (.inl ⟨_,by decide,rfl⟩))
  |exact .inr (.inr (.inr ⟨_,by decide,rfl⟩))
def ut{l:List Nat}(h:isNumL l):∃ a,B12 a/\numL a=l:=by
 have key:∀ c:Fin 58,(48<=c.val->∃ k:Fin 25,numL (((k.val:Nat):Int) - 12)=[c.val])/\(48<=c.val->c.val<=50->∃ k:Fin 25,numL (((k.val:Nat):Int) - 12)=[49,c.val])/\(49<=c.val->∃ k:Fin 25,numL (((k.val:Nat):Int) - 12)=[45,c.val])/\(48<=c.val->c.val<=50->∃ k:Fin 25,numL (((k.val:Nat):Int) - 12)=[45,49,c.val]):=by decide+kernel
 have e8:∀ k:Fin 25,B12 (((k.val:Nat):Int) - 12):=λk=>by unfold B12;have:=k.isLt;lia
 rcases h with⟨c,hc,rfl⟩|⟨c,hc,rfl⟩|⟨c,hc,rfl⟩|⟨c,hc,rfl⟩
 .obtain⟨k,e⟩:=(key ⟨c,by lia⟩).1 (by show 48<=c;lia);exact⟨_,e8 k,e⟩
 .obtain⟨k,e⟩:=(key ⟨c,by lia⟩).2.1 (by show 48<=c;lia) (by show c<=50;lia);exact⟨_,e8 k,e⟩
 .obtain⟨k,e⟩:=(key ⟨c,by lia⟩).2.2.1 (by show 49<=c;lia);exact⟨_,e8 k,e⟩
 .obtain⟨k,e⟩:=(key ⟨c,by lia⟩).2.2.2 (by show 48<=c;lia) (by show c<=50;lia);exact⟨_,e8 k,e⟩
def endS(c:Nat):Prop:=c=44\/c=59\/c=58\/c=93
def cX{l:List Nat}(h:isNumL l){c:Nat}(hc:endS c)(r:List Wt)(t:List Nat)(k:Nat):walk (.num:: .sign c::r) (l++c::t) k=walk r t (k+l.length+1):=by
 unfold endS at hc;have FL:¬ (48<=c/\c<=50):=by lia
 have e8:∀ k,walk (.sign c::r) (c::t) k=walk r t (k+1):=λk=>ay (by simp[step,aB,aC]);have Bk:∀ k,walk (.more:: .sign c::r) (c::t) k=walk r t (k+1):=λk=>ay (by simp[step,aB,aC,FL]);rcases h with⟨x,hx,rfl⟩|⟨x,hx,rfl⟩|⟨x,hx,rfl⟩|⟨x,hx,rfl⟩
 .by_cases e:x=49
  .subst e;show walk _ (49::c::t) k=_;rw[ay (st':= .more:: .sign c::r) (by simp[step,aB,aC]),Bk];simp
  .show walk _ (x::c::t) k=_;rw[ay (st':= .sign c::r) (by simp[step,aB,aC,e,hx,show¬ x=45 by lia]),e8];simp
 .show walk _ (49::x::c::t) k=_;rw[ay (st':= .more:: .sign c::r) (by simp[step,aB,aC]),ay (st':= .sign c::r) (by simp[step,aB,aC,hx]),e8];simp
 .show walk _ (45::x::c::t) k=_;rw[ay (st':= .fig:: .sign c::r) (by simp[step,aB,aC])];by_cases e:x=49
  .subst e;rw[ay (st':= .more:: .sign c::r) (by simp[step,aB,aC]),Bk];simp
  .rw[ay (st':= .sign c::r) (by simp[step,aB,aC,e,show 50<=x/\x<=57 by lia]),e8];simp
 .show walk _ (45::49::x::c::t) k=_;rw[ay (st':= .fig:: .sign c::r) (by simp[step,aB,aC]),ay (st':= .more:: .sign c::r) (by simp[step,aB,aC]),ay (st':= .sign c::r) (by simp[step,aB,aC,hx]),e8];simp
def rowsL:List (List Nat)->List Nat
 |[]=>[]
 |[x]=>x
 |x::y::r=>x++47::rowsL (y::r)
def uu{c:Nat}(h:isSign c):isSg c=true:=by
 unfold isSign at h;unfold isSg;rcases h with h|h
 .subst h;rfl
 .have:(decide (49<=c) && decide (c<=54))=true:=by simp[h]
  rw[this,yZ]
def isSign_of{c:Nat}(h:isSg c=true):isSign c:=by
 unfold isSg at h;unfold isSign;simp at h;lia
def cF{w h k c:Nat}{r:List Wt}:step (.lin w h k::r) c=bX w h k c r:=by simp[step,aB,aC]
def cY{w k:Nat}{r:List Wt}:∀ (x:List Nat) (h:Nat) (t:List Nat) (j:Nat),(∀ c∈x,isSign c)->h+x.length<=(if 0<k then w else 8)->walk (.lin w h k::r) (x++t) j=walk (.lin w (h+x.length) k::r) t (j+x.length)
 |[],h,t,j,_,_=>rfl
 |c::x,h,t,j,hs,hl=>by
  rw[xG] at hl ⊢;have h1:step (.lin w h k::r) c=be (.lin w (h+1) k::r):=by
   rw[cF];unfold bX;rw[if_pos (uu (hs c xT)),if_pos (by lia)]
  rw[yl,ay h1,cY x (h+1) t (j+1) (λc q=>hs c (xS _ q)) (by lia)];rw[show h+1+x.length=h+(x.length+1) by lia,show j+1+x.length=j+(x.length+1) by lia]
def mF{wd:Nat}(hw:1<=wd/\wd<=8){r:List Wt}:∀ (L:List (List Nat)) (w0 k:Nat) (t:List Nat) (j:Nat),L≠[]->(∀ x∈L,x.length=wd/\∀ c∈x,isSign c)->k+L.length<=8->(0<k->w0=wd)->walk (.lin w0 0 k::r) (rowsL L++59::t) j=walk r t (j+(rowsL L).length+1)
 |[],_,_,_,_,ne,_,_,_=>absurd rfl ne
 |[x],w0,k,t,j,_,hs,hl,hk=>by
  obtain⟨h1,h2⟩:=hs x xT;have hb:0+x.length<=(if 0<k then w0 else 8):=by split<;>lia
  have ns:isSg 59=false:=rfl;have h3:step (.lin w0 (0+x.length) k::r) 59=be r:=by
   rw[cF];unfold bX;rw[ns,if_neg xK,if_neg (by lia),if_neg (by decide),if_pos rfl]
  show walk (.lin w0 0 k::r) (x++59::t) j=walk r t (j+x.length+1);rw[cY x 0 _ j h2 hb,ay h3]
 |x::y::L,w0,k,t,j,_,hs,hl,hk=>by
  obtain⟨h1,h2⟩:=hs x xT;rw[xG,xG] at hl;have hb:0+x.length<=(if 0<k then w0 else 8):=by split<;>lia
  have ns:isSg 47=false:=rfl;have h3:step (.lin w0 (0+x.length) k::r) 47=be (.lin (0+x.length) 0 (k+1)::r):=by
   rw[cF];unfold bX;rw[ns,if_neg xK,if_neg (by lia),if_pos rfl,if_pos (by lia)]
  show walk (.lin w0 0 k::r) ((x++47::rowsL (y::L))++59::t) j=walk r t (j+(x++47::rowsL (y::L)).length+1);rw[ye,yl,cY x 0 _ j h2 hb,ay h3,mF hw (y::L) (0+x.length) (k+1) t _ (λz=>nomatch z) (λz q=>hs z (xS _ q)) (by rw[xG];lia) (λ_=>by lia)];rw[xP,xG];congr 1;lia
def motL(L:List (List Nat))(a b c d:Int):List Nat:=91::(rowsL L++59::(numL a++44::(numL b++59::(numL c++44::(numL d++[93])))))
def Pat.tl:Pat->List Nat
 | .mot L a b c d=>motL (L.map cs) a b c d
 | .over p q=>40::(p.tl++124::(q.tl++[41]))
 | .sh a b p=>115::(numL a++44::(numL b++58::p.tl))
 | .mir p=>109::p.tl
 | .tur p=>116::p.tl
 | .hue f g p=>104::(numL f++(numL g++p.tl))
def mG:∀ L:List y8,cs (Str.join "/" L)=rowsL (L.map cs)
 |[]=>rfl
 |[x]=>rfl
 |x::y::L=>by
  show cs (x++"/"++Str.join "/" (y::L))=cs x++47::rowsL ((y::L).map cs);rw[bJ,bJ,mG (y::L),ye];rfl
def bY:∀ p:Pat,cs p.text=p.tl
 | .mot L a b c d=>by
  show cs (cE L a b c d)=motL (L.map cs) a b c d;unfold cE motL;have e:Txt.join "/" L=Str.join "/" L:=StrLaws.glued_eq_join _ _;rw[e]
  repeat rw[bJ]
  rw[mG];simp only[ye];rfl
 | .over p q=>by
  rw[Pat.text,Pat.tl]
  repeat rw[bJ]
  rw[bY p,bY q];simp only[ye];rfl
 | .sh a b p=>by
  rw[Pat.text,Pat.tl]
  repeat rw[bJ]
  rw[bY p];simp only[ye];rfl
 | .mir p=>by
  rw[Pat.text,Pat.tl,bJ,bY p];rfl
 | .tur p=>by
  rw[Pat.text,Pat.tl,bJ,bY p];rfl
 | .hue f g p=>by
  rw[Pat.text,Pat.tl]
  repeat rw[bJ]
  rw[bY p];simp only[ye];rfl
def hueL{f:Int}(h:1<=f/\f<=6):numL f=[(48+f).toNat]:=by
 have key:∀ k:Fin 6,numL (((k.val:Nat):Int)+1)=[49+k.val]:=by decide+kernel
 have:=key ⟨(f - 1).toNat,by lia⟩;have e:(((f - 1).toNat:Nat):Int)+1=f:=by lia
 rw[e] at this;rw[this];congr 1;show 49+(f - 1).toNat=(48+f).toNat;lia
def bn{d c:Nat}{r:List Wt}:step (.pat d::r) c=bj d c r:=by simp[step,aB,aC]
def mH{f:Int}(h:1<=f/\f<=6)(r:List Wt)(t:List Nat)(k:Nat):walk (.hue::r) (numL f++t) k=walk r t (k+1):=by
 rw[hueL h];show walk (.hue::r) ((48+f).toNat::t) k=_;exact ay (by simp[step,aB,aC];lia)
def uw{L:List y8}{a b c d:Int}(hL:Rows L)(ha:B12 a)(hb:B12 b)(hc:B12 c)(hd:B12 d)(n:Nat)(r:List Wt)(t:List Nat)(k:Nat):walk (.pat n::r) (motL (L.map cs) a b c d++t) k=walk r t (k+(motL (L.map cs) a b c d).length):=by
 obtain⟨h1,w,hw,hs⟩:=hL;have BU:∀ x∈L.map cs,x.length=w/\∀ c∈x,isSign c:=λx hx=>by
  obtain⟨l,q1,q2⟩:=yy.mp hx;subst q2;exact⟨by rw[bP];exact(hs l q1).1,(hs l q1).2⟩
 have i8:L.map cs≠[]:=λz=>by have:=congrArg yI z;simp at this;subst this;simp at h1
 unfold motL;simp only[yl,ye,zc];have e8:∀ k,walk (.sign 93::r) (93::t) k=walk r t (k+1):=λk=>ay (by simp[step,aB,aC]);rw[ay (st':=motW r) (by rw[bn];simp[bj])];unfold motW;rw[mF hw (L.map cs) 0 0 _ _ i8 BU (by rw[xU];lia) (λz=>absurd z (by lia))];rw[cX (numL_is ha) (.inl rfl),cX (numL_is hb) (.inr (.inl rfl)),cX (numL_is hc) (.inl rfl),cX (numL_is hd) (.inr (.inr (.inr rfl)))];congr 1;simp only[xG,xP,yJ];lia
def bQ:∀ {p:Pat},p.Syn->∀ (d:Nat) (r:List Wt) (t:List Nat) (k:Nat),p.depth+d<=5->walk (.pat d::r) (p.tl++t) k=walk r t (k+p.tl.length)
 | .mot L a b c e,h,d,r,t,k,_=>uw h.1 h.2.1 h.2.2.1 h.2.2.2.1 h.2.2.2.2 d r t k
 | .over p q,h,d,r,t,k,hd=>by
  rw[Pat.depth] at hd;have h1:step (.pat d::r) 40=be (.pat (d+1):: .sign 124:: .pat (d+1):: .sign 41::r):=by rw[bn];simp[bj,show¬ d=5 by lia]
  rw[Pat.tl];simp only[yl,ye,zc];rw[ay h1,bQ h.1 (d+1) _ _ _ (by lia),ay (st':= .pat (d+1):: .sign 41::r) (by simp[step,aB,aC]),bQ h.2 (d+1) _ _ _ (by lia),ay (st':=r) (by simp[step,aB,aC])];congr 1;simp only[xG,xP,yJ];lia
 | .sh a b p,h,d,r,t,k,hd=>by
  rw[Pat.depth] at hd;have h1:step (.pat d::r) 115=be (.num:: .sign 44:: .num:: .sign 58:: .pat (d+1)::r):=by rw[bn];simp[bj,show¬ d=5 by lia]
  rw[Pat.tl];simp only[yl,ye];rw[ay h1,cX (numL_is h.1) (.inl rfl),cX (numL_is h.2.1) (.inr (.inr (.inl rfl))),bQ h.2.2 (d+1) _ _ _ (by lia)];congr 1;simp only[xG,xP];lia
 | .mir p,h,d,r,t,k,hd=>by
  rw[Pat.depth] at hd;have h1:step (.pat d::r) 109=be (.pat (d+1)::r):=by rw[bn];simp[bj,show¬ d=5 by lia]
  rw[Pat.tl,yl,ay h1,bQ (p:=p) h (d+1) _ _ _ (by lia),xG];congr 1;lia
 | .tur p,h,d,r,t,k,hd=>by
  rw[Pat.depth] at hd;have h1:step (.pat d::r) 116=be (.pat (d+1)::r):=by rw[bn];simp[bj,show¬ d=5 by lia]
  rw[Pat.tl,yl,ay h1,bQ (p:=p) h (d+1) _ _ _ (by lia),xG];congr 1;lia
 | .hue f g p,h,d,r,t,k,hd=>by
  rw[Pat.depth] at hd;have h1:step (.pat d::r) 104=be (.hue:: .hue:: .pat (d+1)::r):=by rw[bn];simp[bj,show¬ d=5 by lia]
  rw[Pat.tl];simp only[yl,ye];rw[ay h1,mH h.1,mH h.2.1,bQ h.2.2 (d+1) _ _ _ (by lia)];rw[hueL h.1,hueL h.2.1];congr 1;simp only[xG,xP,yJ];lia
def mI{p:Pat}(h:p.Syn)(hd:p.depth<=5):ck p.text=none:=by
 unfold ck;rw[bY];have:=bQ h 0 [] [] 0 (by lia);rw[yd] at this;rw[this];rfl
def mJ{x y:y8}(h:cs x=cs y):x=y:=by
 obtain⟨a⟩:=x;obtain⟨b⟩:=y;have:a=b:=Ag.mp h;rw[this]
def Pat.lineAt:Pat->Nat->Option Nat
 | .mot _ a b c d,k=>if a*d=b*c then be k else t8
 | .over p q,k=>match p.lineAt (k+1) with
  |some j=>be j
  |none=>q.lineAt (k+1+p.tl.length+1)
 | .sh a b p,k=>p.lineAt (k+1+(numL a).length+1+(numL b).length+1)
 | .mir p,k=>p.lineAt (k+1)
 | .tur p,k=>p.lineAt (k+1)
 | .hue _ _ p,k=>p.lineAt (k+3)
def Pat.line_wf:∀ {p:Pat} (k:Nat),p.Syn->p.lineAt k=t8->p.Wf
 | .mot L a b c d,k,h,e=>by
  refine⟨h.1,h.2.1,h.2.2.1,h.2.2.2.1,h.2.2.2.2,λz=>?_⟩;rw[Pat.lineAt,if_pos z] at e;cases e
 | .over p q,k,h,e=>by
  rw[Pat.lineAt] at e;cases hp:p.lineAt (k+1) with
  |some j=>rw[hp] at e;cases e
  |none=>rw[hp] at e;exact⟨Pat.line_wf _ h.1 hp,Pat.line_wf _ h.2 e⟩
 | .sh a b p,k,h,e=>⟨h.1,h.2.1,Pat.line_wf _ h.2.2 (by rw[Pat.lineAt] at e;exact e)⟩
 | .mir p,k,h,e=>Pat.line_wf (p:=p) (k+1) h (by rw[Pat.lineAt] at e;exact e)
 | .tur p,k,h,e=>Pat.line_wf (p:=p) (k+1) h (by rw[Pat.lineAt] at e;exact e)
 | .hue f g p,k,h,e=>⟨h.1,h.2.1,Pat.line_wf _ h.2.2 (by rw[Pat.lineAt] at e;exact e)⟩
def Pat.syn_len:∀ {p:Pat},p.Syn->p.text.length+10<=110*2 ^ p.depth
 | .mot L a b c d,h=>by
  have:=uq h.1 h.2.1 h.2.2.1 h.2.2.2.1 h.2.2.2.2;show(cE L a b c d).length+10<=110*2 ^ 0;lia
 | .over p q,h=>by
  have h1:=Pat.syn_len h.1;have h2:=Pat.syn_len h.2;have m1:2 ^ p.depth<=2 ^ (max p.depth q.depth):=zE (by decide) (Nat.le_max_left _ _);have m2:2 ^ q.depth<=2 ^ (max p.depth q.depth):=zE (by decide) (Nat.le_max_right _ _);have l1:("(":y8).length=1:=rfl;have l2:("|":y8).length=1:=rfl;have l3:(")":y8).length=1:=rfl;rw[Pat.text,Pat.depth,Nat.pow_add]
  repeat rw[aw]
  lia
 | .sh a b p,h=>by
  have h1:=Pat.syn_len h.2.2;have la:=bD h.1;have lb:=bD h.2.1;have l1:("s":y8).length=1:=rfl;have l2:(",":y8).length=1:=rfl;have l3:(":":y8).length=1:=rfl;have:0<2 ^ p.depth:=zd (by decide);rw[Pat.text,Pat.depth,ze]
  repeat rw[aw]
  lia
 | .mir p,h=>by
  have h1:=Pat.syn_len (p:=p) h;have l1:("m":y8).length=1:=rfl;have:0<2 ^ p.depth:=zd (by decide);rw[Pat.text,Pat.depth,ze,aw];lia
 | .tur p,h=>by
  have h1:=Pat.syn_len (p:=p) h;have l1:("t":y8).length=1:=rfl;have:0<2 ^ p.depth:=zd (by decide);rw[Pat.text,Pat.depth,ze,aw];lia
 | .hue f g p,h=>by
  have h1:=Pat.syn_len h.2.2;have la:=mB h.1;have lb:=mB h.2.1;have l1:("h":y8).length=1:=rfl;have:0<2 ^ p.depth:=zd (by decide);rw[Pat.text,Pat.depth,ze]
  repeat rw[aw]
  lia
def Pat.syn_short{p:Pat}(h:p.Syn)(hd:p.depth<=5):p.text.length<=3510:=by
 have h1:=Pat.syn_len h;have h2:2 ^ p.depth<=2 ^ 5:=zE (by decide) hd;lia
def ifT{c A B:Prop}[Decidable c](h:c)(a:A):if c then A else B:=by rw[if_pos h];exact a
def ifdT{p A B:Prop}[Decidable p](h:p)(a:A):if decide p=true then A else B:=by rw[if_pos (decide_eq_true h)];exact a
def ifdF{p A B:Prop}[Decidable p](h:¬ p)(b:B):if decide p=true then A else B:=by rw[if_neg (by simpa using h)];exact b
def rdF(t:y8)(k:Nat):List (y8 × D):=[("text",.str t),("place",.int k)]
def RdM(a:GD)(t:y8)(k:Nat):MS:=[(a,.ins "Reading" (rdF t k))]
def bR{a:GD}{o:MO}:mget [(a,o)] a=be o:=by unfold mget;rw[if_pos rfl]
def cZ{a:GD}{o o':MO}:mput [(a,o)] a o'=[(a,o')]:=by unfold mput;rw[if_pos rfl]
def aG{a:GD}{t:y8}{k:Nat}:mget (RdM a t k) a=be (.ins "Reading" (rdF t k)):=bR
def gO{t:y8}{k:Nat}:(rdF t k).lookup ("text":y8)=be (.str t):=rfl
def cm{t:y8}{k:Nat}:(rdF t k).lookup ("place":y8)=be (.int k):=by
 unfold rdF;rw[xZ,show(("place":y8)==("text":y8))=false by decide+kernel];rfl
def ux{t:y8}{k:Nat}:putD ("place":y8) (.int ((k:Int)+1)) (rdF t k)=rdF t (k+1):=by
 unfold rdF putD;rw[if_neg (by decide+kernel)];unfold putD;rw[if_pos rfl];rfl
def bZ{t:y8}{k:Nat}:(rdF t k).lookup ("may_take":y8)=none:=by
 unfold rdF;rw[xZ,show(("may_take":y8)==("text":y8))=false by decide+kernel,xZ,show(("may_take":y8)==("place":y8))=false by decide+kernel];rfl
def bw{t:y8}{k:Nat}:(rdF t k).lookup ("take":y8)=none:=by
 unfold rdF;rw[xZ,show(("take":y8)==("text":y8))=false by decide+kernel,xZ,show(("take":y8)==("place":y8))=false by decide+kernel];rfl
structure At(t:Str)(k:Nat)(l:List Nat):Prop where
 eq:(cs t).drop k=l
 le:k<=t.length
 sz:t.length<=100000
def At.nil{t:y8}{k:Nat}(h:At t k []):k=t.length:=by
 have h1:=congrArg yI h.eq;rw[Ah,bP] at h1;have:=h.le;simp at h1;lia
def At.lt{t:y8}{k c:Nat}{l:List Nat}(h:At t k (c::l)):k<t.length:=by
 have h1:=congrArg yI h.eq;rw[Ah,bP] at h1;simp at h1;lia
def At.get{t:y8}{k c:Nat}{l:List Nat}(h:At t k (c::l)):(cs t)[k]?=be c:=by
 have h1:=congrArg (·[0]?) h.eq;simpa using h1
def At.next{t:y8}{k c:Nat}{l:List Nat}(h:At t k (c::l)):At t (k+1) l:=by
 refine⟨?_,h.lt,h.sz⟩;have h1:=congrArg (List.drop 1) h.eq;rw[Ai] at h1;simpa using h1
def At.app{t:y8}:∀ {x l:List Nat} {k:Nat},At t k (x++l)->At t (k+x.length) l
 |[],_,_,h=>h
 |c::x,l,k,h=>by
  have h1:At t (k+1+x.length) l:=At.app (At.next h);have e:k+1+x.length=k+(c::x).length:=by rw[xG];lia
  rw[e] at h1;exact h1
def mK{c:Nat}{al:y8}:(!(!(Builtin.Str.occurrences al ⟨#[c]⟩ 0 al.length 1).isEmpty))=!decide (c∈cs al):=by
 rw[StrLaws.found_one]
def mayS(al:y8):List Nat->y8|c::_=>if c∈cs al then⟨#[c]⟩ else ""|[]=>""
def mayN(al:y8):List Nat->Nat|c::_=>if c∈cs al then 1 else 0|[]=>0
def cG{al:y8}{c:Nat}{l:List Nat}(h:c∈cs al):mayS al (c::l)=⟨#[c]⟩:=if_pos h
def cH{al:y8}{c:Nat}{l:List Nat}(h:c∈cs al):mayN al (c::l)=1:=if_pos h
def cn{al:y8}{c:Nat}{l:List Nat}(h:c ∉ cs al):mayS al (c::l)="":=if_neg h
def cq{al:y8}{c:Nat}{l:List Nat}(h:c ∉ cs al):mayN al (c::l)=0:=if_neg h
def uy:SiD:=λds R=>∃ t:y8,ds=[.str t]/\R (rdF t 0)
def uz:SpM:=λds M R RX=>∃ (a:GD) (t:y8) (k:Nat) (l:List Nat) (al:y8),ds=[.ptr a,.str al]/\M=RdM a t k/\At t k l/\R (.str (mayS al l)) (RdM a t (k+mayN al l))
def va:SpM:=λds M R RX=>∃ (a:GD) (t:y8) (k:Nat) (l:List Nat) (al:y8),ds=[.ptr a,.str al]/\M=RdM a t k/\At t k l/\
 (∀ c l',l=c::l'->c∈cs al->R (.str ⟨#[c]⟩) (RdM a t (k+1)))/\((∀ c l',l=c::l'->c ∉ cs al)->∀ M',RX "WrongSign" [("place",.int k)] M')
def walk_bad{st:List Wt}{l:List Nat}{k:Nat}(h1:st≠[])(h:∀ c l',l=c::l'->step st c=t8):walk st l k=be k:=by
 cases l with
 |nil=>rw[walk,if_neg h1]
 |cons c l=>rw[walk,h c l rfl]
def cI{e:Nat}{r:List Wt}{l:List Nat}{k:Nat}(h:∀ l',l≠e::l'):walk (.sign e::r) l k=be k:=
 walk_bad (λz=>nomatch z) λc l' q=>by
  have:c≠e:=λz=>h l' (z ▸ q);simp[step,aB,aC,this]
def cJ{e:Nat}{r:List Wt}{l:List Nat}{k:Nat}:walk (.sign e::r) (e::l) k=walk r l (k+1):=ay (by simp[step,aB,aC])
def vb{e:Nat}{r:List Wt}{l:List Nat}{k:Nat}(h:∀ d l',l=d::l'->¬ (48<=d/\d<=50)):walk (.more:: .sign e::r) l k=walk (.sign e::r) l k:=by
 cases l with
 |nil=>simp[walk]
 |cons d l=>
  have:step (.more:: .sign e::r) d=step (.sign e::r) d:=by simp[step,aB,h d l rfl]
  rw[walk,walk,this]
def vc{pre:List Nat}(hp:pre=[]\/pre=[45]){c:Nat}(hc:49<=c/\c<=57){x l3 l:List Nat}(hx:(c=49/\∃ d,(48<=d/\d<=50)/\x=[d])\/(x=[]/\(c=49->∀ d l',l3=d::l'->¬ (48<=d/\d<=50))))(k e:Nat)(r:List Wt)(hl:l=pre++c::(x++l3)):
  walk (.num:: .sign e::r) l k=walk (.sign e::r) l3 (k+(pre++c::x).length):=by
 subst hl;have fig:∀ k,walk (.fig:: .sign e::r) (c::(x++l3)) k=walk (.sign e::r) l3 (k+(c::x).length):=λk=>by
  rcases hx with⟨rfl,d,hd,rfl⟩|⟨rfl,h⟩
  .rw[ay (st':= .more:: .sign e::r) (by simp[step,aB,aC])];show walk _ (d::l3) _=_;rw[ay (st':= .sign e::r) (by simp[step,aB,aC,hd])];rfl
  .by_cases e1:c=49
   .subst e1;rw[ay (st':= .more:: .sign e::r) (by simp[step,aB,aC])];show walk _ l3 _=_;rw[vb (h rfl)];rfl
   .rw[ay (st':= .sign e::r) (by simp[step,aB,aC,e1,show 50<=c/\c<=57 by lia])];rfl
 rcases hp with rfl|rfl
 .have HR:step (.num:: .sign e::r) c=step (.fig:: .sign e::r) c:=by
   by_cases e1:c=49
   .subst e1;simp[step,aB,aC]
   .simp[step,aB,aC,e1,show¬ c=45 by lia,show 48<=c/\c<=57 by lia,show 50<=c/\c<=57 by lia]
  have:=fig k;rw[walk] at this;show walk _ (c::(x++l3)) k=_;rw[walk,HR,this];simp
 .show walk _ (45::c::(x++l3)) k=_;rw[ay (st':= .fig:: .sign e::r) (by simp[step,aB,aC]),fig];congr 1;simp only[xP,xG,yJ];lia
def vd{pre:List Nat}(hp:pre=[]\/pre=[45]){l l1:List Nat}(hl:l=pre++l1)(h:∀ c l',l1=c::l'->¬ (49<=c/\c<=57))(h0:pre=[]->∀ c l',l1=c::l'->c≠48/\c≠45)(k:Nat)(r:List Wt):walk (.num::r) l k=be (k+pre.length):=by
 subst hl;rcases hp with rfl|rfl
 .refine walk_bad (λz=>nomatch z) λc l' q=>?_;have h1:=h c l' q;have h2:=h0 rfl c l' q;simp[step,aB,aC,h2.2,show¬ c=49 by lia,show¬ (48<=c/\c<=57) by lia]
 .show walk _ (45::l1) k=_;rw[ay (st':= .fig::r) (by simp[step,aB,aC])];refine walk_bad (λz=>nomatch z) λc l' q=>?_;have h1:=h c l' q;simp[step,aB,aC,show¬ c=49 by lia,show¬ (50<=c/\c<=57) by lia]
def gP{x:Int}(h:B12 x):PySem.intText? ⟨(numL x).toArray⟩=be x:=
 mD (P:=λx=>PySem.intText? ⟨(numL x).toArray⟩=be x) h (by decide+kernel)
def da(x y:List Nat):((⟨x.toArray⟩:y8)++⟨y.toArray⟩:y8)=⟨(x++y).toArray⟩:=by
 apply mJ;rw[bJ]
def digits19{c:Nat}:c∈cs "123456789"↔49<=c/\c<=57:=by
 have e:cs "123456789"=[49,50,51,52,53,54,55,56,57]:=rfl;rw[e];simp;lia
def digits02{c:Nat}:c∈cs "012"↔48<=c/\c<=50:=by
 have e:cs "012"=[48,49,50]:=rfl;rw[e];simp;lia
def ve(w:List Nat)(c:Nat):Txt.endswith ⟨(w++[c]).toArray⟩ "1"=decide (c=49):=by
 unfold Txt.endswith;have e1:("1":y8).length=1:=rfl;have e2:(⟨(w++[c]).toArray⟩:y8).length=w.length+1:=by simp[Str.length]
 rw[e1,e2];have e3:decide (0+1<=w.length+1)=true:=by simp
 rw[e3,Bool.true_and,zF];unfold Builtin.Str.subAt;have e4:(⟨(w++[c]).toArray⟩:y8).cps.extract w.length (w.length+("1":y8).length)=#[c]:=by
  apply Ag.mp;simp[Array.toList_extract,e1]
 rw[e4];have e5:("1":y8).cps=#[49]:=rfl;rw[e5];by_cases h:c=49
 .subst h;rfl
 .simp[h]
def vf:SpM:=λds M R RX=>∃ (a:GD) (t:y8) (k:Nat) (l:List Nat),ds=[.ptr a]/\M=RdM a t k/\At t k l/\
 (∀ x l',B12 x->l=numL x++l'->(∀ e r,walk (.num:: .sign e::r) l k=walk (.sign e::r) l' (k+(numL x).length))->R (.int x) (RdM a t (k+(numL x).length)))/\
 (∀ j:Nat,(∀ r,walk (.num::r) l k=be j)->∀ M',RX "WrongSign" [("place",.int j)] M')
def vg:SpM:=λds M R RX=>∃ (a:GD) (t:y8) (k:Nat) (l:List Nat),ds=[.ptr a]/\M=RdM a t k/\At t k l/\
 (∀ x y l',B12 x->B12 y->l=numL x++44::(numL y++l')->(∀ e r,walk (.num:: .sign 44:: .num:: .sign e::r) l k=walk (.sign e::r) l' (k+(numL x).length+1+(numL y).length))->R (.tup [.int x,.int y]) (RdM a t (k+(numL x).length+1+(numL y).length)))/\
 (∀ j:Nat,(∀ r,walk (.num:: .sign 44:: .num::r) l k=be j)->∀ M',RX "WrongSign" [("place",.int j)] M')
def sgPre:Nat->List Nat->List Nat
 |0,_=>[]
 |_+1,[]=>[]
 |n+1,c::l=>if isSg c=true then c::sgPre n l else[]
def db(n c:Nat)(l:List Nat):sgPre (n+1) (c::l)=if isSg c=true then c::sgPre n l else[]:=rfl
def sgPre_succ:∀ (n:Nat) (l:List Nat),(∃ c l',l=sgPre n l++c::l'/\(sgPre n l).length=n/\isSg c=true/\sgPre (n+1) l=sgPre n l++[c])\/(∃ l',l=sgPre n l++l'/\(∀ c C3,l'=c::C3->isSg c=false)/\∀ m,n<=m->sgPre m l=sgPre n l)
 |0,[]=> .inr ⟨[],rfl,(λ_ _ q=>nomatch q),λm _=>by cases m<;>rfl⟩
 |0,c::l=>by
  by_cases h:isSg c=true
  .exact .inl ⟨c,l,rfl,rfl,h,by rw[db,if_pos h];rfl⟩
  .refine .inr ⟨c::l,rfl,λ_ _ q=>?_,λm _=>?_⟩
   .cases q;simpa using h
   .cases m with
    |zero=>rfl
    |succ m=>rw[db,if_neg h];rfl
 |n+1,[]=> .inr ⟨[],rfl,(λ_ _ q=>nomatch q),λm _=>by cases m<;>rfl⟩
 |n+1,c::l=>by
  by_cases h:isSg c=true
  .have e:∀ m,sgPre (m+1) (c::l)=c::sgPre m l:=λm=>by rw[db,if_pos h]
   rcases sgPre_succ n l with⟨d,l',h1,h2,h3,h4⟩|⟨l',h1,h2,h3⟩
   .refine .inl ⟨d,l',?_,by rw[e,xG,h2],h3,by rw[e,e,h4];rfl⟩;rw[e];exact congrArg (c::·) h1
   .refine .inr ⟨l',?_,h2,λm hm=>?_⟩
    .rw[e];exact congrArg (c::·) h1
    .cases m with
     |zero=>lia
     |succ m=>rw[e,e,h3 m (by lia)]
  .refine .inr ⟨c::l,?_,λ_ _ q=>?_,λm hm=>?_⟩
   .rw[db,if_neg h];rfl
   .cases q;simpa using h
   .cases m with
    |zero=>lia
    |succ m=>rw[db,if_neg h,db,if_neg h]
def eO:∀ (n:Nat) (l:List Nat),(sgPre n l).length<=n
 |0,_=>xH _
 |n+1,[]=>yg _
 |n+1,c::l=>by
  rw[sgPre];split
  .rw[xG];exact Nat.succ_le_succ (eO n l)
  .exact yg _
def sgPre_sign:∀ (n:Nat) (l:List Nat),∀ c∈sgPre n l,isSign c
 |0,_,_,h=>by cases h
 |n+1,[],_,h=>by cases h
 |n+1,c::l,d,h=>by
  rw[sgPre] at h;split at h
  .rename_i q;rcases xJ.mp h with e|e
   .rw[e];exact isSign_of q
   .exact sgPre_sign n l d e
  .cases h
def sgPre_split(n:Nat)(l:List Nat):∃ l',l=sgPre n l++l'/\((sgPre n l).length=n\/∀ c C3,l'=c::C3->isSg c=false):=by
 rcases sgPre_succ n l with⟨d,l',h1,h2,h3,h4⟩|⟨l',h1,h2,h3⟩
 .exact⟨d::l',h1,.inl h2⟩
 .exact⟨l',h1,.inr h2⟩
def signs_is{c:Nat}:c∈cs ".123456"↔isSg c=true:=by
 have e:cs ".123456"=[46,49,50,51,52,53,54]:=rfl;rw[e];simp;lia
def cK(x:List Nat):(⟨x.toArray⟩:y8).length=x.length:=by simp[Str.length]
def vh:SpM:=λds M R RX=>∃ (a:GD) (t:y8) (k:Nat) (l:List Nat) (n m:Nat),ds=[.ptr a,.int n,.int m]/\M=RdM a t k/\At t k l/\n<=m/\m<=8/\
 (n<=(sgPre m l).length->R (.str ⟨(sgPre m l).toArray⟩) (RdM a t (k+(sgPre m l).length)))/\((sgPre m l).length<n->∀ M',RX "WrongSign" [("place",.int ((k+(sgPre m l).length:Nat):Int))] M')
def vi{p a:GD}{o:MO}{t:y8}{k:Nat}(h:p≠a):mget ((p,o)::RdM a t k) a=be (.ins "Reading" (rdF t k)):=by
 unfold mget;rw[if_neg h];exact bR
def ca{p:GD}{o:MO}{M:MS}:mget ((p,o)::M) p=be o:=by unfold mget;rw[if_pos rfl]
def mL{p:GD}{o o':MO}{M:MS}:mput ((p,o)::M) p o'=(p,o')::M:=by unfold mput;rw[if_pos rfl]
def gQ{p:GD}{o:MO}{M:MS}:mdel ((p,o)::M) p=M:=by unfold mdel;rw[if_pos rfl]
structure RowsL(L:List (List Nat))(w:Nat):Prop where
 many:1<=L.length/\L.length<=8
 w1:1<=w
 w8:w<=8
 each:∀ x∈L,x.length=w/\∀ c∈x,isSign c
def eQ:∀ (L:List (List Nat)) (x:List Nat),L≠[]->rowsL (L++[x])=rowsL L++47::x
 |[],_,h=>absurd rfl h
 |[y],x,_=>rfl
 |y::z::L,x,_=>by
  show y++47::rowsL ((z::L)++[x])=(y++47::rowsL (z::L))++47::x;rw[eQ (z::L) x (λq=>nomatch q)];simp
structure LinAt(w h n:Nat)(l:List Nat):Prop where
 h1:1<=h
 n1:1<=n
 one:n=1->h=8\/∀ c l',l=c::l'->isSg c=false
 more:2<=n->w=h
def vj{w h n:Nat}{l:List Nat}(H:LinAt w h n l)(hn:n<=8)(stop:n=8\/∀ l',l≠47::l')(r:List Wt)(p:Nat):walk (.lin w h (n - 1)::r) l p=walk (.sign 59::r) l p:=by
 cases l with
 |nil=>simp[walk]
 |cons c l=>
  have key:step (.lin w h (n - 1)::r) c=step (.sign 59::r) c:=by
   rw[cF];unfold bX;have FM:step (.sign 59::r) c=if c=59 then be r else none:=by simp[step,aB,aC]
   rw[FM];have h1:=H.h1;by_cases hs:isSg c=true
   .rw[if_pos hs];have nc:¬ c=59:=by rintro rfl;cases hs
    rw[if_neg nc];refine if_neg ?_;by_cases n1:n=1
    .rcases H.one n1 with e|e
     .subst n1;simp;lia
     .rw[e c l rfl] at hs;cases hs
    .have Em:=H.n1;have:=H.more (by lia);rw[if_pos (by lia)];lia
   .rw[if_neg hs];have g:¬ (h=0\/(0<n - 1/\h<w)):=by
     have Em:=H.n1;rintro(z|⟨z1,z2⟩)
     .lia
     .have:=H.more (by lia);lia
    rw[if_neg g];by_cases En:c=47
    .subst En;rw[if_pos rfl,if_neg (c:=47=59) (by decide)];refine if_neg ?_;rcases stop with e|e
     .lia
     .exact absurd rfl (e l)
    .rw[if_neg En]
  rw[walk,walk,key]
def mM{w h n:Nat}{l:List Nat}(H:LinAt w h n (47::l))(hn:n<8)(r:List Wt)(p:Nat):walk (.lin w h (n - 1)::r) (47::l) p=walk (.lin h 0 n::r) l (p+1):=by
 refine ay ?_;rw[cF];unfold bX;have h1:=H.h1;have Em:=H.n1;have ns:isSg 47=false:=rfl;rw[ns,if_neg xK,if_neg (by
  rintro(z|⟨z1,z2⟩)
  .lia
  .have:=H.more (by lia);lia),if_pos rfl,if_pos (by lia)]
 congr 3;lia
def mN{w n:Nat}{x l:List Nat}(hs:∀ c∈x,isSign c)(hx:x.length<w)(hw:w<=8)(hn:n=0->x=[])(hl:∀ c l',l=c::l'->isSg c=false)(r:List Wt)(p:Nat):walk (.lin w 0 n::r) (x++l) p=be (p+x.length):=by
 rw[cY x 0 l p hs (by split<;>lia)];refine walk_bad (λz=>nomatch z) λc l' q=>?_;rw[cF];unfold bX;rw[hl c l' q,if_neg xK];refine if_pos ?_;by_cases n0:n=0
 .left;rw[hn n0];rfl
 .right;exact⟨by lia,by lia⟩
def lstD(L:List (List Nat)):List D:=L.map λx=>D.str ⟨x.toArray⟩
def vk:SpM:=λds M R RX=>∃ (a:GD) (t:y8) (k:Nat) (l:List Nat),ds=[.ptr a]/\M=RdM a t k/\At t k l/\
 (∀ (L:List (List Nat)) (w:Nat) l',RowsL L w->l=rowsL L++l'->(∀ r,walk (.lin 0 0 0::r) l k=walk (.sign 59::r) l' (k+(rowsL L).length))->R (.lst (lstD L)) (RdM a t (k+(rowsL L).length)))/\
 (∀ j:Nat,(∀ r,walk (.lin 0 0 0::r) l k=be j)->∀ M',RX "WrongSign" [("place",.int j)] M')
def hmX(w h s:Int)(i j:Int):Int:=(i - j / h*s) % w
def hRow(w h s:Int)(j:Nat):Nat->List Nat->List ((Int × Int) × Int)->List ((Int × Int) × Int)
 |_,[],kv=>kv
 |i,c::r,kv=>hRow w h s j (i+1) r (if c=46 then kv else sdD kv (hmX w h s i j) ((j:Int) % h) ((c:Int) - 48))
def hAll(w h s:Int):Nat->List (List Nat)->List ((Int × Int) × Int)->List ((Int × Int) × Int)
 |_,[],kv=>kv
 |j,x::r,kv=>hAll w h s (j+1) r (hRow w h s j 0 x kv)
def mO(kv:List ((Int × Int) × Int))(x y v:Int):(sdD kv x y v).length<=kv.length+1:=by
 unfold sdD;split
 .lia
 .rw[xP];simp
def vl{c:Nat}(h:49<=c/\c<=54):∃ i rest,Builtin.Str.occurrences ".123456" ⟨#[c]⟩ 0 (".123456":y8).length 1=i::rest/\((i:Nat):Int)=(c:Int) - 48:=by
 rcases(by lia:c=49\/c=50\/c=51\/c=52\/c=53\/c=54) with e|e|e|e|e|e<;>subst e
 .exact⟨1,[],by decide+kernel,by decide⟩
 .exact⟨2,[],by decide+kernel,by decide⟩
 .exact⟨3,[],by decide+kernel,by decide⟩
 .exact⟨4,[],by decide+kernel,by decide⟩
 .exact⟨5,[],by decide+kernel,by decide⟩
 .exact⟨6,[],by decide+kernel,by decide⟩
def vm{x:List Nat}(h:∀ c∈x,isSign c):(⟨x.toArray⟩:y8).cps.all (·<128)=true:=by
 rw[<- zW,List.all_eq_true];intro c hc;have:=h c hc;unfold isSign at this;simp;lia
def vn{L:List (List Nat)}{j:Nat}{d:D}(h:(lstD L)[j]?=be d):∃ x,L[j]?=be x/\d= .str ⟨x.toArray⟩:=by
 unfold lstD at h;rw[yj] at h;cases e:L[j]? with
 |none=>rw[e] at h;cases h
 |some x=>rw[e] at h;cases h;exact⟨x,rfl,rfl⟩
def vo{x:List Nat}{i:Nat}{d:D}(h:(cy ⟨x.toArray⟩)[i]?=be d):∃ c,x[i]?=be c/\d= .str ⟨#[c]⟩:=by
 unfold cy at h;rw[yj] at h;cases e:x[i]? with
 |none=>simp[e] at h
 |some c=>simp[e] at h;exact⟨c,rfl,h.symm⟩
def mQ{α:Type}{l:List α}{i:Nat}{x:α}(h:l[i]?=be x):l.drop i=x::l.drop (i+1):=by
 have hi:i<l.length:=(xO.mp h).1;rw[zf hi];congr 1;rw[ya hi] at h;exact Option.some.inj h
def vp:SpM:=λds M R RX=>∃ (L:List (List Nat)) (wd:Nat) (w h s:Int),ds=[.lst (lstD L),.tup [.int w,.int h,.int s]]/\RowsL L wd/\0<w/\0<h/\h<1073741824/\0<=s/\s<1073741824/\R (.dti (hAll w h s 0 L [])) M
def moF(k:Nat)(sh:D)(hu:List ((Int × Int) × Int)):List (y8 × D):=[("place",.int k),("shifts",sh),("hues",.dti hu)]
def vq:SiD:=λds R=>∃ (k:Nat) (L:List (List Nat)) (wd:Nat) (a b c d:Int),ds=[.int k,.lst (lstD L),.tup [.int a,.int b],.tup [.int c,.int d]]/\RowsL L wd/\B12 a/\B12 b/\B12 c/\B12 d/\
 (a*d=b*c->R (moF k .non []))/\(¬ a*d=b*c->∀ w h s,FamOf a b c d w h s->R (moF k (.tup [.int w,.int h,.int s]) (hAll w h s 0 L [])))
def vt{v:D}:putD ("place":y8) v []=([("place",v)]:List (y8 × D)):=rfl
def mR{u v:D}:putD ("shifts":y8) v [("place",u)]=([("place",u),("shifts",v)]:List (y8 × D)):=by
 unfold putD;rw[if_neg (by decide+kernel)];rfl
def mU{t u v:D}:putD ("hues":y8) v [("place",t),("shifts",u)]=([("place",t),("shifts",u),("hues",v)]:List (y8 × D)):=by
 unfold putD;rw[if_neg (by decide+kernel)];unfold putD;rw[if_neg (by decide+kernel)];rfl
def gR{u v:D}:([("place",u),("shifts",v)]:List (y8 × D)).lookup ("shifts":y8)=be v:=by
 rw[xZ,show(("shifts":y8)==("place":y8))=false by decide+kernel];rfl
def vu:SiD:=λds R=>∃ (x y:y8) (fs gs:List (y8 × D)),ds=[.obj x fs,.obj y gs]/\R [("above",.obj x fs),("below",.obj y gs)]
def vv:SiD:=λds R=>∃ (x:y8) (fs:List (y8 × D)) (a b:Int),ds=[.obj x fs,.int a,.int b]/\R [("form",.obj x fs),("x",.int a),("y",.int b)]
def vw:SiD:=λds R=>∃ (x:y8) (fs:List (y8 × D)),ds=[.obj x fs]/\R [("form",.obj x fs)]
def vx:SiD:=λds R=>∃ (x:y8) (fs:List (y8 × D)),ds=[.obj x fs]/\R [("form",.obj x fs)]
def vy:SiD:=λds R=>∃ (x:y8) (fs:List (y8 × D)) (a b:Int),ds=[.obj x fs,.int a,.int b]/\R [("form",.obj x fs),("old",.int a),("new",.int b)]
def FormOf:Pat->Nat->D->Prop
 | .mot L a b c d,k,v=>∃ sh hu,v= .obj "Motif" (moF k sh hu)/\(a*d=b*c->sh= .non)/\(¬ a*d=b*c->∃ w h s,FamOf a b c d w h s/\sh= .tup [.int w,.int h,.int s]/\hu=hAll w h s 0 (L.map cs) [])
 | .over p q,k,v=>∃ u u',v= .obj "Over" [("above",u),("below",u')]/\FormOf p (k+1) u/\FormOf q (k+1+p.tl.length+1) u'
 | .sh a b p,k,v=>∃ u,v= .obj "Shifted" [("form",u),("x",.int a),("y",.int b)]/\FormOf p (k+1+(numL a).length+1+(numL b).length+1) u
 | .mir p,k,v=>∃ u,v= .obj "Mirror" [("form",u)]/\FormOf p (k+1) u
 | .tur p,k,v=>∃ u,v= .obj "Turn" [("form",u)]/\FormOf p (k+1) u
 | .hue f g p,k,v=>∃ u,v= .obj "Rehue" [("form",u),("old",.int f),("new",.int g)]/\FormOf p (k+3) u
def Pat.cls:Pat->y8
 | .mot ..=>"Motif"| .over ..=>"Over"| .sh ..=>"Shifted"| .mir ..=>"Mirror"| .tur ..=>"Turn"| .hue ..=>"Rehue"
def FormOf.obj{p:Pat}{k:Nat}{v:D}(h:FormOf p k v):∃ fs,v= .obj p.cls fs:=by
 cases p with
 |mot L a b c d=>obtain⟨sh,hu,rfl,_⟩:=h;exact⟨_,rfl⟩
 |over p q=>obtain⟨_,_,rfl,_⟩:=h;exact⟨_,rfl⟩
 |sh a b p=>obtain⟨_,rfl,_⟩:=h;exact⟨_,rfl⟩
 |mir p=>obtain⟨_,rfl,_⟩:=h;exact⟨_,rfl⟩
 |tur p=>obtain⟨_,rfl,_⟩:=h;exact⟨_,rfl⟩
 |hue f g p=>obtain⟨_,rfl,_⟩:=h;exact⟨_,rfl⟩
def vz{L:List (List Nat)}{w:Nat}(h:RowsL L w):Rows (L.map λx=>(⟨x.toArray⟩:y8))/\(L.map λx=>(⟨x.toArray⟩:y8)).map cs=L:=by
 refine⟨⟨by rw[xU];exact h.many,w,⟨h.w1,h.w8⟩,λl hl=>?_⟩,?_⟩
 .obtain⟨x,hx,rfl⟩:=yy.mp hl;obtain⟨h1,h2⟩:=h.each x hx;exact⟨by rw[cK];exact h1,h2⟩
 .rw[List.map_map];simp[Function.comp_def,cs]
def vA:SpM:=λds M R RX=>∃ (a:GD) (t:y8) (k:Nat) (l:List Nat),ds=[.ptr a]/\M=RdM a t k/\At t k l/\
 (∀ p l',p.Syn->p.depth=0->l=p.tl++l'->∀ v,FormOf p k v->R v (RdM a t (k+p.tl.length)))/\
 (∀ j:Nat,(∀ r,walk (.pat 5::r) l k=be j)->∀ M',RX "WrongSign" [("place",.int j)] M')
def vB{d:Nat}{l:List Nat}{k:Nat}{r:List Wt}(h:d=5\/∀ c l',l=c::l'->c ∉ cs "(smth"):walk (.pat d::r) l k=walk (.pat 5::r) l k:=by
 rcases h with rfl|h
 .rfl
 .cases l with
  |nil=>simp[walk]
  |cons c l=>
   have hc:=h c l rfl;have e:cs "(smth"=[40,115,109,116,104]:=rfl;rw[e] at hc;simp only[xJ,yQ,or_false,not_or] at hc;have:step (.pat d::r) c=step (.pat 5::r) c:=by
    rw[bn,bn];unfold bj;by_cases BX:c=91
    .rw[if_pos BX,if_pos BX]
    .rw[if_neg BX,if_neg BX,if_pos rfl];split
     .rfl
     .rw[if_neg hc.1,if_neg hc.2.1,if_neg hc.2.2.2.2,if_neg (by rintro(z|z);exact hc.2.2.1 z;exact hc.2.2.2.1 z)]
   rw[walk,walk,this]
def hue_dig{c:Nat}:c∈cs "123456"↔49<=c/\c<=54:=by
 have e:cs "123456"=[49,50,51,52,53,54]:=rfl;rw[e];simp;lia
def eU{c:Nat}(h:49<=c/\c<=54):numL ((c:Int) - 48)=[c]:=by
 rw[hueL (by lia)];congr 1;lia
def gS{c:Nat}(h:49<=c/\c<=54){r:List Wt}{l:List Nat}{k:Nat}:walk (.hue::r) (c::l) k=walk r l (k+1):=ay (by simp[step,aB,aC,h])
def mV{r:List Wt}{l:List Nat}{k:Nat}(h:∀ c l',l=c::l'->c ∉ cs "123456"):walk (.hue::r) l k=be k:=
 walk_bad (λz=>nomatch z) λc l' q=>by
  have:=λz=>h c l' q (hue_dig.mpr z);simp only[step,aB,aC];exact if_neg this
def cr(j:Nat):SpM:=λds M R RX=>∃ (a:GD) (t:y8) (k:Nat) (l:List Nat) (d:Nat),ds=[.ptr a,.int d]/\M=RdM a t k/\At t k l/\d+j=6/\1<=j/\
 (∀ p l',p.Syn->p.depth+d<=5->l=p.tl++l'->∀ v,FormOf p k v->R v (RdM a t (k+p.tl.length)))/\(∀ i:Nat,(∀ r,walk (.pat d::r) l k=be i)->∀ M',RX "WrongSign" [("place",.int i)] M')
def vC{ds:List D}{M:MS}{R:D->MS->Prop}{RX:XDM}:¬ cr 0 ds M R RX:=by
 rintro⟨_,_,_,_,_,_,_,_,_,h,_⟩;exact absurd h (by decide)
def mW(j:Nat):SpM:=λds M R RX=>∃ (a:GD) (t:y8) (k:Nat) (l:List Nat) (d:Nat),ds=[.ptr a,.int d]/\M=RdM a t k/\At t k l/\d+j=6/\1<=j/\
 (∀ p q l',p.Syn->q.Syn->p.depth+d<=5->q.depth+d<=5->l=p.tl++124::(q.tl++41::l')->∀ u u',FormOf p k u->FormOf q (k+p.tl.length+1) u'->R (.obj "Over" [("above",u),("below",u')]) (RdM a t (k+p.tl.length+1+q.tl.length+1)))/\
 (∀ i:Nat,(∀ r,walk (.pat d:: .sign 124:: .pat d:: .sign 41::r) l k=be i)->∀ M',RX "WrongSign" [("place",.int i)] M')
def mX(j:Nat):SpM:=λds M R RX=>∃ (a:GD) (t:y8) (k:Nat) (l:List Nat) (d:Nat),ds=[.ptr a,.int d]/\M=RdM a t k/\At t k l/\d+j=6/\1<=j/\
 (∀ x y p l',B12 x->B12 y->p.Syn->p.depth+d<=5->l=numL x++44::(numL y++58::(p.tl++l'))->∀ u,FormOf p (k+(numL x).length+1+(numL y).length+1) u->R (.obj "Shifted" [("form",u),("x",.int x),("y",.int y)]) (RdM a t (k+(numL x).length+1+(numL y).length+1+p.tl.length)))/\
 (∀ i:Nat,(∀ r,walk (.num:: .sign 44:: .num:: .sign 58:: .pat d::r) l k=be i)->∀ M',RX "WrongSign" [("place",.int i)] M')
def mY(j:Nat):SpM:=λds M R RX=>∃ (a:GD) (t:y8) (k:Nat) (l:List Nat) (d:Nat),ds=[.ptr a,.int d]/\M=RdM a t k/\At t k l/\d+j=6/\1<=j/\
 (∀ c e p l',(49<=c/\c<=54)->(49<=e/\e<=54)->p.Syn->p.depth+d<=5->l=c::e::(p.tl++l')->∀ u,FormOf p (k+2) u->R (.obj "Rehue" [("form",u),("old",.int ((c:Int) - 48)),("new",.int ((e:Int) - 48))]) (RdM a t (k+2+p.tl.length)))/\
 (∀ i:Nat,(∀ r,walk (.hue:: .hue:: .pat d::r) l k=be i)->∀ M',RX "WrongSign" [("place",.int i)] M')
def Pat.Area(p:Pat)(N:Int):Prop:=∃ w h s,p.Fam w h s/\w*h<=N
def Pat.Fits.wide{p:Pat}(h:p.Fits):p.Area 33554432:=by
 obtain⟨w,k,s,f,b⟩:=h;exact⟨w,k,s,f,by lia⟩
def Pat.Area.small{p:Pat}{N:Int}(h:p.Area N){w k s:Int}(f:p.Fam w k s):0<w/\w<=N/\0<k/\k<=N/\0<=s/\s<w:=by
 obtain⟨w',k',s',f',hb⟩:=h;obtain⟨rfl,rfl,rfl⟩:=f.uniq f';obtain⟨h1,h2⟩:=cU f.f.w0 f.f.h0;exact⟨f.f.w0,by lia,f.f.h0,by lia,f.f.s0,f.f.sw⟩
def Pat.Area.tur{p:Pat}{N:Int}(h:p.Area N):(Pat.tur p).Area N:=by
 obtain⟨w,k,s,f,b⟩:=h;obtain⟨w2,h2,s2,g,e⟩:=eN (s:=s) f.f.w0 f.f.h0;exact⟨_,_,_,f.tur g,by lia⟩
def Pat.Cal:Pat->Prop
 | .mot ..=>True
 | .over p q=>p.Cal/\q.Cal/\(p.Wf->q.Wf->p.Area 33554432/\q.Area 33554432)
 | .sh _ _ p=>p.Cal
 | .mir p=>p.Cal
 | .tur p=>p.Cal/\(p.Wf->p.Area 33554432)
 | .hue _ _ p=>p.Cal
def Pat.cls_mem(p:Pat):p.cls∈(["Motif","Over","Shifted","Mirror","Turn","Rehue"]:List y8):=by
 cases p<;>simp[Pat.cls]
def no_look{f g:y8}{v:D}{r:List (y8 × D)}(h:(f==g)=false)(hr:r.lookup f=t8):(((g,v)::r:List (y8 × D))).lookup f=none:=by
 rw[xZ,h];exact hr
def FormOf.objm{p:Pat}{k:Nat}{v:D}(h:FormOf p k v):∃ fs,v= .obj p.cls fs/\fs.lookup ("family":y8)=t8/\fs.lookup ("shows":y8)=none:=by
 cases p with
 |mot L a b c d=>obtain⟨sh,hu,rfl,_⟩:=h;exact⟨_,rfl,no_look (by decide+kernel) (no_look (by decide+kernel) (no_look (by decide+kernel) rfl)),no_look (by decide+kernel) (no_look (by decide+kernel) (no_look (by decide+kernel) rfl))⟩
 |over p q=>obtain⟨_,_,rfl,_⟩:=h;exact⟨_,rfl,no_look (by decide+kernel) (no_look (by decide+kernel) rfl),no_look (by decide+kernel) (no_look (by decide+kernel) rfl)⟩
 |sh a b p=>obtain⟨_,rfl,_⟩:=h;exact⟨_,rfl,no_look (by decide+kernel) (no_look (by decide+kernel) (no_look (by decide+kernel) rfl)),no_look (by decide+kernel) (no_look (by decide+kernel) (no_look (by decide+kernel) rfl))⟩
 |mir p=>obtain⟨_,rfl,_⟩:=h;exact⟨_,rfl,no_look (by decide+kernel) rfl,no_look (by decide+kernel) rfl⟩
 |tur p=>obtain⟨_,rfl,_⟩:=h;exact⟨_,rfl,no_look (by decide+kernel) rfl,no_look (by decide+kernel) rfl⟩
 |hue f g p=>obtain⟨_,rfl,_⟩:=h;exact⟨_,rfl,no_look (by decide+kernel) (no_look (by decide+kernel) (no_look (by decide+kernel) rfl)),no_look (by decide+kernel) (no_look (by decide+kernel) (no_look (by decide+kernel) rfl))⟩
def mZ{k:Nat}{sh:D}{hu:List ((Int × Int) × Int)}:(moF k sh hu).lookup ("shifts":y8)=be sh:=by
 unfold moF;rw[xZ,show(("shifts":y8)==("place":y8))=false by decide+kernel];rfl
def vD{k:Nat}{sh:D}{hu:List ((Int × Int) × Int)}:(moF k sh hu).lookup ("place":y8)=be (.int k):=rfl
def gT{f g:y8}{u v:D}{r:List (y8 × D)}(h:(g==f)=false):(((f,u)::(g,v)::r:List (y8 × D))).lookup g=be v:=by
 rw[xZ,h,xZ,beq_self_eq_true]
def vE{e f g:y8}{t u v:D}{r:List (y8 × D)}(h1:(g==e)=false)(h2:(g==f)=false):(((e,t)::(f,u)::(g,v)::r:List (y8 × D))).lookup g=be v:=by
 rw[xZ,h1];exact gT h2
def Pat.Fits.small{p:Pat}(h:p.Fits){w k s:Int}(f:p.Fam w k s):0<w/\w<=720/\0<k/\k<=720/\0<=s/\s<w:=by
 obtain⟨w',k',s',f',hb⟩:=h;obtain⟨rfl,rfl,rfl⟩:=f.uniq f';obtain⟨h1,h2⟩:=cU f.f.w0 f.f.h0;exact⟨f.f.w0,by lia,f.f.h0,by lia,f.f.s0,f.f.sw⟩
def br(j:Nat)(x:y8):SpX:=λds R RX=>∃ (p:Pat) (k:Nat) (v:D),ds=[v]/\FormOf p k v/\p.Syn/\p.depth<j/\p.cls=x/\p.Cal/\(∀ i:Nat,p.lineAt k=be i->RX "OneLine" [("place",.int i)])/\(p.lineAt k=t8->∀ w h s,p.Fam w h s->R (.tup [.int w,.int h,.int s]))
def de{x:y8}{ds:List D}{M:MS}{R:D->MS->Prop}{RX:XDM}:¬ ofX (br 0 x) ds M R RX:=by
 rintro⟨_,_,_,_,_,_,h,_⟩;exact absurd h (zx _)
structure PatOf(p:Pat)(w h s:Int)(fs:List (Str × D)):Prop extends Pat.Fam p w h s where
 form:∃ k v,fs.lookup ("form":y8)=be v/\FormOf p k v
def ng(p:Pat)(d:D):Prop:=∃ w h s fs,d= .obj "Pattern" fs/\fs.lookup ("text":y8)=be (.str p.text)/\fs.lookup ("shifts":y8)=be (.tup [.int w,.int h,.int s])/\PatOf p w h s fs
def eV(x:Int):Prop:=-1000000000000<=x/\x<=1000000000000
def vF{i j:Int}{k:Nat}{x:D}(h:((xY (j - i).toNat).map λk=>D.int (i+((k:Nat):Int)))[k]?=be x):k<(j - i).toNat/\x= .int (i+(k:Int)):=by
 have hk:k<(j - i).toNat:=by simpa using(xO.mp h).1
 refine⟨hk,?_⟩;simp[hk] at h;exact h.symm
def Pat.cal_w:∀ {p:Pat} {w h s:Int},p.Wf->p.Cal->p.Fam w h s->w<=1125899906842624
 | .mot L a b c d,w,h,s,gV,_,f=>by
  have:=(Pat.fits_mot (L:=L) gV.2.1 gV.2.2.1 gV.2.2.2.1 gV.2.2.2.2.1 gV.2.2.2.2.2).small f;lia
 | .over p q,w,h,s,gV,hc,f=>by
  obtain⟨f1,f2⟩:=hc.2.2 gV.1 gV.2;obtain⟨w1,k1,s1,g1⟩:=Pat.fam_ex gV.1;obtain⟨w2,k2,s2,g2⟩:=Pat.fam_ex gV.2;have a1:=f1.small g1;have a2:=f2.small g2;have n8:InF w h s (w1*w2) 0:=(f.lat _ _).mpr ⟨(g1.lat _ _).mp ⟨w2,0,by rw[yM];lia,by lia⟩,(g2.lat _ _).mp ⟨w1,0,by lia,by lia⟩⟩;obtain⟨i,j,e1,e2⟩:=n8;have hj:j=0:=by
   rcases yP.mp e2.symm with z|z
   .exact z
   .have:=f.f.h0;lia
  subst hj;have hp:0<w1*w2:=xQ a1.1 a2.1;have e3:w1*w2=i*w:=by lia
  have hi:0<i:=by
   have:=f.f.w0;rcases(by lia:i<=0\/0<i) with z|z
   .have:=yF z (show 0<=w by lia);lia
   .exact z
  have h1:=xX (show 1<=i by lia) (show 0<=w by have:=f.f.w0;lia);have h2:=bg (a:=w1) (d:=w2) (A:=33554432) (B:=33554432) (by lia) (by lia);lia
 | .sh a b p,w,h,s,gV,hc,f=>Pat.cal_w (p:=p) gV.2.2 hc ⟨f.f,f.lat⟩
 | .mir p,w,h,s,gV,hc,f=>by
  obtain⟨w1,k1,s1,f1⟩:=Pat.fam_ex (p:=p) gV;obtain⟨rfl,_,_⟩:=f.uniq f1.mir;exact Pat.cal_w (p:=p) gV hc f1
 | .tur p,w,h,s,gV,hc,f=>by
  have:=(hc.2 gV).tur.small f;lia
 | .hue a b p,w,h,s,gV,hc,f=>Pat.cal_w (p:=p) gV.2.2 hc ⟨f.f,f.lat⟩
def cb{e:Nat}:∀ {a b x y:List Nat},e ∉ a->e ∉ b->a++e::x=b++e::y->a=b/\x=y
 |[],[],x,y,_,_,h=>by cases h;exact⟨rfl,rfl⟩
 |[],c::b,x,y,_,hb,h=>by
  cases h;exact absurd xT hb
 |c::a,[],x,y,ha,_,h=>by
  cases h;exact absurd xT ha
 |c::a,d::b,x,y,ha,hb,h=>by
  have h':c::(a++e::x)=d::(b++e::y):=h;injection h' with h1 h2;obtain⟨e1,e2⟩:=cb (λz=>ha (xS _ z)) (λz=>hb (xS _ z)) h2;exact⟨by rw[h1,e1],e2⟩
def df{a b:Int}(ha:B12 a)(hb:B12 b)(h:numL a=numL b):a=b:=by
 have h1:=gP ha;rw[h,gP hb] at h1;exact(Option.some.inj h1).symm
def num_chars{a:Int}(ha:B12 a):∀ c∈numL a,c=45\/(48<=c/\c<=57):=by
 rcases numL_is ha with⟨c,hc,e⟩|⟨c,hc,e⟩|⟨c,hc,e⟩|⟨c,hc,e⟩<;>rw[e]<;>simp<;>lia
def bE{a:Int}(ha:B12 a){e:Nat}(he:endS e):e ∉ numL a:=λz=>by
 have:=num_chars ha e z;unfold endS at he;lia
def rowsL_chars:∀ {L:List (List Nat)},(∀ x∈L,∀ c∈x,isSign c)->∀ c∈rowsL L,isSign c\/c=47
 |[],_,c,h=>by cases h
 |[x],hx,c,h=> .inl (hx x xT c h)
 |x::y::L,hx,c,h=>by
  have h':c∈x++47::rowsL (y::L):=h;rcases yc.mp h' with z|z
  .exact .inl (hx x xT c z)
  .rcases xJ.mp z with z|z
   .exact .inr z
   .exact rowsL_chars (λx q=>hx x (xS _ q)) c z
def dI{c:Nat}(h:isSign c):c≠47/\c≠59:=by unfold isSign at h;lia
def nh:∀ {L M:List (List Nat)},L≠[]->M≠[]->(∀ x∈L,∀ c∈x,isSign c)->(∀ x∈M,∀ c∈x,isSign c)->rowsL L=rowsL M->L=M
 |[],_,h,_,_,_,_=>absurd rfl h
 |_,[],_,h,_,_,_=>absurd rfl h
 |[x],[y],_,_,_,_,h=>by rw[show x=y from h]
 |[x],y::z::M,_,_,hx,_,h=>by
  have h':x=y++47::rowsL (z::M):=h;have:(47:Nat)∈x:=by rw[h'];simp
  exact absurd rfl (dI (hx x xT 47 this)).1
 |x::z::L,[y],_,_,_,hy,h=>by
  have h':x++47::rowsL (z::L)=y:=h;have:(47:Nat)∈y:=by rw[<- h'];simp
  exact absurd rfl (dI (hy y xT 47 this)).1
 |x::z::L,y::z'::M,_,_,hx,hy,h=>by
  have h':x++47::rowsL (z::L)=y++47::rowsL (z'::M):=h;obtain⟨e1,e2⟩:=cb (λq=>(dI (hx x xT 47 q)).1 rfl) (λq=>(dI (hy y xT 47 q)).1 rfl) h';rw[e1,nh (L:=z::L) (M:=z'::M) (λq=>nomatch q) (λq=>nomatch q) (λx q=>hx x (xS _ q)) (λx q=>hy x (xS _ q)) e2]
def nj:∀ {L M:List y8},L.map cs=M.map cs->L=M
 |[],[],_=>rfl
 |[],_::_,h=>by cases h
 |_::_,[],h=>by cases h
 |x::L,y::M,h=>by
  rw[xN,xN] at h;injection h with h1 h2;rw[mJ h1,nj h2]
def vG{L L':List y8}{a b c d a' b' c' d':Int}{x y:List Nat}(h:(Pat.mot L a b c d).Syn)(h':(Pat.mot L' a' b' c' d').Syn)(e:(Pat.mot L a b c d).tl++x=(Pat.mot L' a' b' c' d').tl++y):Pat.mot L a b c d=Pat.mot L' a' b' c' d'/\x=y:=by
 have e0:91::(rowsL (L.map cs)++59::(numL a++44::(numL b++59::(numL c++44::(numL d++93::x)))))=91::(rowsL (L'.map cs)++59::(numL a'++44::(numL b'++59::(numL c'++44::(numL d'++93::y))))):=by
  simpa[Pat.tl,motL] using e
 injection e0 with _ e1;have sg:∀ {L:List y8},Rows L->∀ x∈L.map cs,∀ c∈x,isSign c:=λ{L} hL x hx=>by
  obtain⟨l,hl,rfl⟩:=yy.mp hx;obtain⟨_,w,_,q⟩:=hL;exact(q l hl).2
 have Eo:∀ {L:List y8},Rows L->(59:Nat) ∉ rowsL (L.map cs):=λ{L} hL z=>by
  rcases rowsL_chars (sg hL) 59 z with q|q
  .exact(dI q).2 rfl
  .cases q
 have ne:∀ {L:List y8},Rows L->L.map cs≠[]:=λ{L} hL z=>by
  have h1:=hL.many.1;have h2:=congrArg yI z;rw[xU] at h2;simp at h2;rw[h2] at h1;simp at h1
 obtain⟨q1,e2⟩:=cb (Eo h.1) (Eo h'.1) e1;obtain⟨q2,e3⟩:=cb (bE h.2.1 (.inl rfl)) (bE h'.2.1 (.inl rfl)) e2;obtain⟨q3,e4⟩:=cb (bE h.2.2.1 (.inr (.inl rfl))) (bE h'.2.2.1 (.inr (.inl rfl))) e3;obtain⟨q4,e5⟩:=cb (bE h.2.2.2.1 (.inl rfl)) (bE h'.2.2.2.1 (.inl rfl)) e4;obtain⟨q5,e6⟩:=cb (bE h.2.2.2.2 (.inr (.inr (.inr rfl)))) (bE h'.2.2.2.2 (.inr (.inr (.inr rfl)))) e5;rw[nj (nh (ne h.1) (ne h'.1) (sg h.1) (sg h'.1) q1),df h.2.1 h'.2.1 q2,df h.2.2.1 h'.2.2.1 q3,df h.2.2.2.1 h'.2.2.2.1 q4,df h.2.2.2.2 h'.2.2.2.2 q5];exact⟨rfl,e6⟩
def Pat.head:Pat->Nat
 | .mot ..=>91| .over ..=>40| .sh ..=>115| .mir ..=>109| .tur ..=>116| .hue ..=>104
def Pat.tl_head(p:Pat):∃ l,p.tl=p.head::l:=by cases p<;>exact⟨_,rfl⟩
def cL{p q:Pat}{x y:List Nat}(e:p.tl++x=q.tl++y):p.head=q.head:=by
 obtain⟨l1,e1⟩:=p.tl_head;obtain⟨l2,e2⟩:=q.tl_head;rw[e1,e2] at e;have e':p.head::(l1++x)=q.head::(l2++y):=e;injection e'
def nn{f g:Int}(h:1<=f/\f<=6)(h':1<=g/\g<=6)(e:(48+f).toNat=(48+g).toNat):f=g:=by lia
def vH{p q:Pat}{x y:List Nat}(hp:p.Syn)(hq:q.Syn)(e:p.tl++x=q.tl++y):p=q/\x=y:=by
 have hh:=cL e;induction p generalizing q x y with
 |mot=>
  cases q with
  |mot=>exact vG hp hq e
  |_=>simp[Pat.head] at hh
 |over p q i1 i2=>
  cases q with
  |over p' q'=>
   have e0:40::(p.tl++124::(q.tl++41::x))=40::(p'.tl++124::(q'.tl++41::y)):=by simpa[Pat.tl] using e
   injection e0 with _ e1;obtain⟨rfl,e2⟩:=i1 hp.1 hq.1 e1 (cL e1);injection e2 with _ e3;obtain⟨rfl,e4⟩:=i2 hp.2 hq.2 e3 (cL e3);injection e4 with _ e5;exact⟨rfl,e5⟩
  |_=>simp[Pat.head] at hh
 |sh a b p i=>
  cases q with
  |sh a' b' p'=>
   have e0:115::(numL a++44::(numL b++58::(p.tl++x)))=115::(numL a'++44::(numL b'++58::(p'.tl++y))):=by simpa[Pat.tl] using e
   injection e0 with _ e1;obtain⟨q2,e3⟩:=cb (bE hp.1 (.inl rfl)) (bE hq.1 (.inl rfl)) e1;obtain⟨q3,e4⟩:=cb (bE hp.2.1 (.inr (.inr (.inl rfl)))) (bE hq.2.1 (.inr (.inr (.inl rfl)))) e3;obtain⟨rfl,e5⟩:=i hp.2.2 hq.2.2 e4 (cL e4);rw[df hp.1 hq.1 q2,df hp.2.1 hq.2.1 q3];exact⟨rfl,e5⟩
  |_=>simp[Pat.head] at hh
 |mir p i=>
  cases q with
  |mir p'=>
   have e0:109::(p.tl++x)=109::(p'.tl++y):=e;injection e0 with _ e1;obtain⟨rfl,e5⟩:=i (q:=p') hp hq e1 (cL e1);exact⟨rfl,e5⟩
  |_=>simp[Pat.head] at hh
 |tur p i=>
  cases q with
  |tur p'=>
   have e0:116::(p.tl++x)=116::(p'.tl++y):=e;injection e0 with _ e1;obtain⟨rfl,e5⟩:=i (q:=p') hp hq e1 (cL e1);exact⟨rfl,e5⟩
  |_=>simp[Pat.head] at hh
 |hue f g p i=>
  cases q with
  |hue f' g' p'=>
   have e0:104::(numL f++(numL g++(p.tl++x)))=104::(numL f'++(numL g'++(p'.tl++y))):=by simpa[Pat.tl] using e
   rw[hueL hp.1,hueL hp.2.1,hueL hq.1,hueL hq.2.1] at e0;have e1:104::(48+f).toNat::(48+g).toNat::(p.tl++x)=104::(48+f').toNat::(48+g').toNat::(p'.tl++y):=e0;injection e1 with _ e2;injection e2 with e3 e4;injection e4 with e5 e6;obtain⟨rfl,e7⟩:=i hp.2.2 hq.2.2 e6 (cL e6);rw[nn hp.1 hq.1 e3,nn hp.2.1 hq.2.1 e5];exact⟨rfl,e7⟩
  |_=>simp[Pat.head] at hh
def vI:SiD:=λds R=>∃ (t:y8) (w h s:Int) (x:y8) (fs:List (y8 × D)),ds=[.str t,.tup [.int w,.int h,.int s],.obj x fs]/\R [("text",.str t),("shifts",.tup [.int w,.int h,.int s]),("form",.obj x fs)]
def vJ:SiD:=λds R=>∃ i:Int,ds=[.int i]/\R [("place",.int i)]
def vK:SiD:=λds R=>∃ i:Int,ds=[.int i]/\R [("place",.int i)]
def nq:SpX:=λds R RX=>(∃ (t:y8) (k:Nat),ds=[.str t]/\t.length<=100000/\ck t=be k/\RX "WrongSign" [("place",.int k)])\/
 ∃ p:Pat,ds=[.str p.text]/\p.Syn/\p.depth<=5/\p.Cal/\(∀ k:Nat,p.lineAt 0=be k->RX "OneLine" [("place",.int k)])/\(p.lineAt 0=t8->¬ p.Fits->RX "TooGreat" [])/\(p.lineAt 0=t8->p.Fits->∀ d,ng p d->R d)
def vL{x n:Int}:x.fmod n=0↔n∣x:=⟨Int.dvd_of_fmod_eq_zero,Int.fmod_eq_zero_of_dvd⟩
def vM(a b c d u v i j:Int):onB a b c d (u+(i*a+j*c)) (v+(i*b+j*d))=onB a b c d u v:=by
 unfold onB;have e1:(u+(i*a+j*c))*d - (v+(i*b+j*d))*c=(u*d - v*c)+(a*d - b*c)*i:=by grind
 have e2:a*(v+(i*b+j*d)) - b*(u+(i*a+j*c))=(a*v - b*u)+(a*d - b*c)*j:=by grind
 rw[e1,e2];simp only[vL];have h1:(a*d - b*c∣u*d - v*c+(a*d - b*c)*i)↔a*d - b*c∣u*d - v*c:=Aj (Ak _ _);have h2:(a*d - b*c∣a*v - b*u+(a*d - b*c)*j)↔a*d - b*c∣a*v - b*u:=Aj (Ak _ _);simp only[h1,h2]
def Pat.Keeps(p:Pat)(X Y:Int):Prop:=∀ x y,p.show (x+X) (y+Y)=p.show x y
def Pat.lat_keeps:∀ {p:Pat} {X Y:Int},p.Lat X Y->p.Keeps X Y
 | .mot L a b c d,_,_,⟨i,j,rfl,rfl⟩,x,y=>by
  have e:∀ u v:Int,onB a b c d (1*(x+(i*a+j*c))+0*(y+(i*b+j*d))+0 - u) (0*(x+(i*a+j*c))+1*(y+(i*b+j*d))+0 - v)=onB a b c d (1*x+0*y+0 - u) (0*x+1*y+0 - v):=λu v=>by
   rw[<- vM a b c d (1*x+0*y+0 - u) (0*x+1*y+0 - v) i j];congr 1<;>lia
  show Leaf.shows _ _ _=Leaf.shows _ _ _;unfold Leaf.shows Leaf.hit;simp only[gM,e]
 | .over p q,X,Y,h,x,y=>by
  simp only[Pat.show];rw[Pat.lat_keeps h.1 x y,Pat.lat_keeps h.2 x y]
 | .sh a b p,X,Y,h,x,y=>by
  have:=Pat.lat_keeps (p:=p) h (x - a) (y - b);simp only[Pat.show];rw[<- this];congr 1<;>lia
 | .mir p,X,Y,h,x,y=>by
  have:=Pat.lat_keeps (p:=p) h (-x) y;simp only[Pat.show];rw[<- this];congr 1;lia
 | .tur p,X,Y,h,x,y=>by
  have:=Pat.lat_keeps (p:=p) h y (-x);simp only[Pat.show];rw[<- this];congr 1;lia
 | .hue f g p,X,Y,h,x,y=>by
  simp only[Pat.show];rw[Pat.lat_keeps (p:=p) h x y]
namespace Pat.Keeps
variable {p:Pat}{X Y U V:Int}
def zero:p.Keeps 0 0:=λx y=>by rw[zg,zg]
def add(h:p.Keeps X Y)(k:p.Keeps U V):p.Keeps (X+U) (Y+V):=λx y=>by
 rw[<- Al,<- Al,k,h]
def neg(h:p.Keeps X Y):p.Keeps (-X) (-Y):=λx y=>by
 have:=h (x+-X) (y+-Y);rw[<- this];congr 1<;>lia
def sub(h:p.Keeps X Y)(k:p.Keeps U V):p.Keeps (X - U) (Y - V):=by
 have:=h.add k.neg;rwa [<- Am,<- Am] at this
def nat(h:p.Keeps X Y):∀ n:Nat,p.Keeps ((n:Int)*X) ((n:Int)*Y)
 |0=>by simpa using zero
 |n+1=>by
  have:=(nat h n).add h;have e:∀ z:Int,((n+1:Nat):Int)*z=(n:Int)*z+z:=λz=>by rw[Int.natCast_add,Int.add_mul];simp
  rw[e,e];exact this
def mul(h:p.Keeps X Y)(n:Int):p.Keeps (n*X) (n*Y):=by
 rcases zZ 0 n with q|q
 .have:=h.nat n.toNat;rwa [yH q] at this
 .have:=(h.nat (-n).toNat).neg;rw[yH (by lia)] at this;simpa[yE] using this
end Pat.Keeps
def InF.keeps{p:Pat}{w h s x y:Int}(a:p.Keeps w 0)(b:p.Keeps s h)(q:InF w h s x y):p.Keeps x y:=by
 obtain⟨i,j,rfl,rfl⟩:=q;have:=(a.mul i).add (b.mul j);rwa [An,Int.zero_add] at this
def InF.one(w h s:Int):InF w h s w 0:=⟨1,0,by lia,by lia⟩
def InF.two(w h s:Int):InF w h s s h:=⟨0,1,by lia,by lia⟩
def Pat.Fam.keeps{p:Pat}{w h s x y:Int}(f:p.Fam w h s)(q:InF w h s x y):p.Keeps x y:=Pat.lat_keeps ((f.lat x y).mp q)
structure Pat.Least(p:Pat)(w h s:Int):Prop where
 f:Fam0 w h s
 lat:∀ x y,InF w h s x y↔p.Keeps x y
structure Pat.LeastW(p:Pat)(w m:Int):Prop where
 lo:1<=m
 hi:m<=w
 md:w % m=0
 k:p.Keeps m 0
 l:∀ d,1<=d->d<=w->w % d=0->p.Keeps d 0->m<=d
def Pat.LeastW.eq{p:Pat}{w h s w' h' s' m:Int}(F:p.Fam w h s)(L:p.Least w' h' s')(a:p.LeastW w m):m=w':=by
 have w0:=L.f.w0;have k:p.Keeps w' 0:=(L.lat _ _).mp (InF.one _ _ _);obtain⟨i,j,e1,e2⟩:=(L.lat m 0).mpr a.k;have h0:=L.f.h0;have j0:j=0:=by
  rcases zh j 0 with q|q|q
  .have:=zG q h0;lia
  .exact q
  .have:=xQ q h0;lia
 subst j0;rw[Ao,zg] at e1;have lo:=a.lo;have i0:0<i:=by
  rcases zh i 0 with q|q|q
  .have:=zG q w0;lia
  .subst q;lia
  .exact q
 have h1:w'<=m:=by
  rw[e1];have:=xX (show 1<=i by lia) (show 0<=w' by lia);lia
 obtain⟨i2,j2,f1,f2⟩:=(L.lat w 0).mpr (F.keeps (InF.one w h s));have FN:j2=0:=by
  rcases zh j2 0 with q|q|q
  .have:=zG q h0;lia
  .exact q
  .have:=xQ q h0;lia
 subst FN;have h2:=a.l w' (by lia) (by have:=a.hi;lia) (by rw[f1,Ao,zg];exact zB _ _) k;lia
def vN{j h:Int}(h0:0<h)(e:h=j*h):j=1:=by
 have:(j - 1)*h=0:=by rw[Int.sub_mul,<- e];lia
 rcases yP.mp this with q|q<;>lia
def small_mul{i w:Int}(w0:0<w)(a: -w<i*w)(b:i*w<w):i=0:=by
 rcases zh i 0 with q|q|q
 .have:=xX (show i<=-1 by lia) (show 0<=w by lia);lia
 .exact q
 .have:=xX (show 1<=i by lia) (show 0<=w by lia);lia
def Pat.Least.slant{p:Pat}{w h s t:Int}(L:p.Least w h s)(a:0<=t)(b:t<w)(k:p.Keeps t h):t=s:=by
 obtain⟨i,j,e1,e2⟩:=(L.lat t h).mpr k;have j1:=vN L.f.h0 e2;subst j1;have s0:=L.f.s0;have sw:=L.f.sw;have:=small_mul (i:=i) L.f.w0 (by lia) (by lia);subst this;lia
def Pat.Least.row{p:Pat}{w h s x y:Int}(L:p.Least w h s)(k:p.Keeps x y):p.Keeps (x % w) y:=by
 have e:=yN x w;have:=k.sub (((L.lat _ _).mp (InF.one w h s)).mul (x / w));rw[An,Int.sub_zero] at this;rw[e,yM];exact this
def Pat.Least.le{p:Pat}{w h s w' h' s':Int}(F:p.Fam w h s)(L:p.Least w' h' s'):w'*h'<=w*h:=(InF.le L.f.w0 L.f.h0 F.f.w0 F.f.h0 (λx y q=>(L.lat x y).mpr (F.keeps q))).1
def Pat.Least.first{p:Pat}{w h s x y:Int}(L:p.Least w h s)(k:p.Keeps x y)(y0:0<=y)(yh:y<h)(x0:0<=x)(xw:x<w):x=0/\y=0:=by
 obtain⟨i,j,e1,e2⟩:=(L.lat x y).mpr k;have h0:=L.f.h0;have j0:=small_mul (i:=j) h0 (by lia) (by lia);subst j0;have i0:=small_mul (i:=i) L.f.w0 (by lia) (by lia);subst i0;lia
def nr{p:Pat}(X Y:Int):(Pat.mir p).Keeps X Y↔p.Keeps (-X) Y:=by
 constructor<;>intro h x y
 .have:=h (-x) y;simp only[Pat.show,zi,Ap] at this;exact this
 .have:=h (-x) y;simp only[Pat.show,zi];exact this
def nt{p:Pat}(X Y:Int):(Pat.tur p).Keeps X Y↔p.Keeps Y (-X):=by
 constructor<;>intro h x y
 .have:=h (-y) x;simp only[Pat.show,zi,Ap] at this;exact this
 .have:=h y (-x);simp only[Pat.show,zi];exact this
def nu{p:Pat}(a b X Y:Int):(Pat.sh a b p).Keeps X Y↔p.Keeps X Y:=by
 constructor<;>intro h x y
 .have:=h (x+a) (y+b);simp only[Pat.show] at this;rw[show x+a+X - a=x+X by lia,show y+b+Y - b=y+Y by lia,show x+a - a=x by lia,show y+b - b=y by lia] at this;exact this
 .have:=h (x - a) (y - b);simp only[Pat.show];rw[show x+X - a=x - a+X by lia,show y+Y - b=y - b+Y by lia];exact this
def Pat.Least.mir{p:Pat}{w h s:Int}(k:p.Least w h s):(Pat.mir p).Least w h (-s % w):=by
 refine⟨⟨k.f.w0,k.f.h0,cC k.f.w0,cD k.f.w0⟩,λx y=>?_⟩;rw[nr,<- k.lat];have e:=yN (-s) w;generalize -s % w=r at e;generalize -s / w=t at e;constructor
 .rintro⟨i,j,rfl,rfl⟩;exact⟨j*t - i,j,by rw[e];grind,rfl⟩
 .rintro⟨i,j,ex,rfl⟩;exact⟨j*t - i,j,by rw[e];grind,rfl⟩
def Pat.Least.tur{p:Pat}{w h s w' h' s':Int}(k:p.Least w h s)(f:FamOf 0 w (-h) s w' h' s'):(Pat.tur p).Least w' h' s':=by
 refine⟨⟨f.1,f.2.1,f.2.2.1,f.2.2.2.1⟩,λx y=>?_⟩;rw[nt,<- k.lat,f.lat];constructor
 .rintro⟨i,j,rfl,rfl⟩;exact⟨i,j,by grind,by grind⟩
 .rintro⟨i,j,ex,ey⟩;exact⟨i,j,by grind,by grind⟩
def Pat.Least.sh{p:Pat}{w h s:Int}(a b:Int)(k:p.Least w h s):(Pat.sh a b p).Least w h s:=⟨k.f,λx y=>by rw[nu,k.lat]⟩
structure Mv(p q:Pat)(b0 b1 b2 b3:Int):Prop where
 keeps:∀ X Y,q.Keeps X Y↔p.Keeps (b0*X+b1*Y) (b2*X+b3*Y)
 leaf:∀ l ls,p.leaves=l::ls->∃ l' ls',q.leaves=l'::ls'/\l'.w0=l.w0*b0+l.w1*b2/\l'.w1=l.w0*b1+l.w1*b3/\l'.w2=l.w2*b0+l.w3*b2/\l'.w3=l.w2*b1+l.w3*b3
 area:∀ w h s,p.Least w h s->∃ w' h' s',q.Least w' h' s'/\w'*h'=w*h
def Mv.mir{p q:Pat}{b0 b1 b2 b3:Int}(m:Mv p q b0 b1 b2 b3):Mv p (.mir q) (-b0) b1 (-b2) b3:=by
 refine⟨λX Y=>?_,λl ls e=>?_,λw h s L=>?_⟩
 .rw[nr,m.keeps,yt,yt,yE,yE]
 .obtain⟨l',ls',e',h0,h1,h2,h3⟩:=m.leaf l ls e;refine⟨_,_,by rw[Pat.leaves,e',xN],?_,?_,?_,?_⟩<;>simp only[Leaf.by,h0,h1,h2,h3]<;>grind
 .obtain⟨w',h',s',L',e⟩:=m.area w h s L;exact⟨_,_,_,L'.mir,e⟩
def Mv.tur{p q:Pat}{b0 b1 b2 b3:Int}(m:Mv p q b0 b1 b2 b3):Mv p (.tur q) (-b1) b0 (-b3) b2:=by
 refine⟨λX Y=>?_,λl ls e=>?_,λw h s L=>?_⟩
 .rw[nt,m.keeps,yt,yt,yE,yE,Aq (b0*Y),Aq (b2*Y)]
 .obtain⟨l',ls',e',h0,h1,h2,h3⟩:=m.leaf l ls e;refine⟨_,_,by rw[Pat.leaves,e',xN],?_,?_,?_,?_⟩<;>simp only[Leaf.by,h0,h1,h2,h3]<;>grind
 .obtain⟨w',h',s',L',e⟩:=m.area w h s L;obtain⟨w2,h2,s2,f,e2⟩:=eN (s:=s') L'.f.w0 L'.f.h0;exact⟨_,_,_,L'.tur f,by lia⟩
def Mv.sh{p q:Pat}{b0 b1 b2 b3:Int}(a b:Int)(m:Mv p q b0 b1 b2 b3):Mv p (.sh a b q) b0 b1 b2 b3:=by
 refine⟨λX Y=>?_,λl ls e=>?_,λw h s L=>?_⟩
 .rw[nu,m.keeps]
 .obtain⟨l',ls',e',h0,h1,h2,h3⟩:=m.leaf l ls e;refine⟨_,_,by rw[Pat.leaves,e',xN],?_,?_,?_,?_⟩<;>simp only[Leaf.by,h0,h1,h2,h3]<;>grind
 .obtain⟨w',h',s',L',e⟩:=m.area w h s L;exact⟨_,_,_,L'.sh a b,e⟩
structure Side(a w:Int)(A t:Nat):Prop where
 n:eV a
 A4:A<=4000000000000
 t1:t<=1000
 e:eV (a+A*w+t - 1)
def Side.of{a w:Int}{A t:Nat}(n:eV a)(w0:0<w)(hA:(A:Int)<=(1000000000000 - a+1) / w)(h:(t<=720/\(t:Int)<=1000000000000 - a+1 - A*w/\¬ (a=-1000000000000/\A=0))\/(a=-1000000000000/\A=0/\1<=t/\t<=720)):Side a w A t:=by
 have h1:=xX hA (show 0<=w by omega);have h2:=Int.ediv_mul_le (1000000000000 - a+1) (show w≠0 by omega);have h3:(A:Int)<=A*w:=by
  have:=zD (show 1<=w by omega) (show 0<=(A:Int) by omega);omega
 unfold eV at n;rcases h with⟨t7,ht,ne⟩|⟨e1,rfl,t0,t7⟩
 .refine⟨n,by omega,by omega,?_,by omega⟩;by_cases z:A=0
  .subst z;simp at ne ⊢;omega
  .omega
 .refine⟨n,by omega,by omega,?_,?_⟩<;>simp<;>omega
end My
end
section
namespace My
local macro_rules | `(tactic| k_memK) => `(tactic| exact⟨rfl, rfl, rfl, by decide +kernel, rfl, by decide +kernel, by decide +kernel⟩)
local macro_rules | `(tactic| k_places) => `(tactic| try simp only[List.set_cons_succ, List.set_cons_zero, My.ci])
open PySem PySem.Spec PyProof.Rows L2
def top(i:Nat):Stmt:=PySem.Challenge.pw_motiffield_k10_one_line.main.body.getD i (.Pass ⟨0,0,0,0⟩)
abbrev gU:GK:=top 39
abbrev gW:List Str:=["_law_script","_law_k"]
def vO:FnScope ["_law_script","_law_k"] gW (ae gU):=by k_memK
abbrev gX:GK:=top 41
abbrev gY:List Str:=["_law_script","_law_k","_law_many"]
def sc__law_draws:FnScope ["_law_script","_law_k","_law_many","_law_left","_law_drawn","_law_turn","_law_seed"] gY (ae gX):=by k_memK
abbrev gZ:GK:=top 42
abbrev hI:List Str:=["_law_draws_here"]
def sc__law_shift_pair:FnScope ["_law_draws_here","_law_a","_law_b","_law_c","_law_d"] hI (ae gZ):=by k_memK
abbrev hU:GK:=top 45
abbrev hV:List Str:=["_law_draws_here","_law_cell"]
def sc__law_pair:FnScope ["_law_draws_here","_law_cell","_law_one","_law_two","_law_times","_law_a","_law_b"] hV (ae hU):=by k_memK
abbrev hZ:GK:=top 46
abbrev ia:List Str:=["_law_text","_law_draw"]
def sc__law_dressed:FnScope ["_law_text","_law_draw","_law_k"] ia (ae hZ):=by k_memK
abbrev ib:GK:=top 43
abbrev ic:List Str:=["_law_lines_here","_law_one","_law_two"]
def sc__law_motif_text:FnScope ["_law_lines_here","_law_one","_law_two","_law_tail"] ic (ae ib):=by k_memK
abbrev ie:GK:=top 44
abbrev ig:List Str:=["_law_draws_here"]
def sc__law_lines:FnScope ["_law_draws_here","_law_wide","_law_tall","_law_signs","_law_lines_here","_law_j","_law_line","_law_i","_law_place","_law_value"] ig (ae ie):=by k_memK
abbrev ii:GK:=aW (top 2) 0
abbrev ij:List Str:=["self","place"]
def vP:FnScope ["self","place"] ij (ae ii):=by k_memK
abbrev ik:GK:=aW (top 27) 1
abbrev il:List Str:=["self","allowed"]
def vQ:FnScope ["self","allowed"] il (ae ik):=by k_memK
abbrev im:GK:=aW (top 27) 2
abbrev io:List Str:=["self","allowed"]
def sc_Reading_take:FnScope ["self","allowed","sign"] io (ae im):=by k_memK
abbrev ip:GK:=top 30
abbrev iq:List Str:=["reading","least","most"]
def sc_line_from:FnScope ["reading","least","most","line","column"] iq (ae ip):=by k_memK
abbrev ir:GK:=top 31
abbrev iu:List Str:=["reading"]
def sc_lines_from:FnScope ["reading","lines","width"] iu (ae ir):=by k_memK
abbrev iv:GK:=top 28
abbrev iw:List Str:=["reading"]
def sc_number_from:FnScope ["reading","written"] iw (ae iv):=by k_memK
abbrev iy:GK:=top 29
abbrev iz:List Str:=["reading"]
def sc_shift_from:FnScope ["reading","x"] iz (ae iy):=by k_memK
abbrev iA:GK:=top 6
abbrev iB:List Str:=["first","second"]
def sc_levelled:FnScope ["first","second","times","rest"] iB (ae iA):=by k_memK
abbrev iC:GK:=top 8
abbrev iD:List Str:=["first","second"]
def sc_spread:FnScope ["first","second","pair","width"] iD (ae iC):=by k_memK
abbrev iE:GK:=top 9
abbrev iF:List Str:=["family","x","y"]
def sc_home:FnScope ["family","x","y","width","height","slant"] iF (ae iE):=by k_memK
abbrev iG:GK:=top 15
abbrev iH:List Str:=["lines","family"]
def sc_hues_by_home:FnScope ["lines","family","hues","row","line","column","sign"] iH (ae iG):=by k_memK
abbrev iI:GK:=aW (top 16) 0
abbrev iJ:List Str:=["self","place","lines","first","second"]
def vR:FnScope ["self","place","lines","first","second"] iJ (ae iI):=by k_memK
abbrev iK:GK:=top 32
abbrev iL:List Str:=["reading"]
def sc_motif_from:FnScope ["reading","place","lines","first","second"] iL (ae iK):=by k_memK
abbrev iM:GK:=aW (top 19) 0
abbrev iN:List Str:=["self","form"]
def vS:FnScope ["self","form"] iN (ae iM):=by k_memK
abbrev iO:GK:=aW (top 20) 0
abbrev iP:List Str:=["self","form"]
def vT:FnScope ["self","form"] iP (ae iO):=by k_memK
abbrev iQ:GK:=aW (top 17) 0
abbrev iR:List Str:=["self","above","below"]
def vU:FnScope ["self","above","below"] iR (ae iQ):=by k_memK
abbrev iS:GK:=aW (top 18) 0
abbrev iT:List Str:=["self","form","x","y"]
def vV:FnScope ["self","form","x","y"] iT (ae iS):=by k_memK
abbrev iU:GK:=aW (top 21) 0
abbrev iV:List Str:=["self","form","old","new"]
def vW:FnScope ["self","form","old","new"] iV (ae iU):=by k_memK
abbrev eX:GK:=top 33
abbrev dJ:List Str:=["reading","around"]
def sc_over_from:FnScope ["reading","around","above","below"] dJ (ae eX):=by k_memK
abbrev eY:GK:=top 34
abbrev dL:List Str:=["reading","around"]
def sc_shifted_from:FnScope ["reading","around","shift"] dL (ae eY):=by k_memK
abbrev eZ:GK:=top 35
abbrev dM:List Str:=["reading","around"]
def sc_rehue_from:FnScope ["reading","around","old","new"] dM (ae eZ):=by k_memK
abbrev fb:GK:=top 36
abbrev bS:List Str:=["reading","around"]
def sc_form_from:FnScope ["reading","around","sign"] bS (ae fb):=by k_memK
abbrev iW:GK:=aW (top 27) 0
abbrev iX:List Str:=["self","text"]
def vX:FnScope ["self","text"] iX (ae iW):=by k_memK
abbrev iY:GK:=aW (top 26) 0
abbrev iZ:List Str:=["self","text","shifts","form"]
def vY:FnScope ["self","text","shifts","form"] iZ (ae iY):=by k_memK
abbrev ja:GK:=aW (top 3) 0
abbrev jb:List Str:=["self","place"]
def vZ:FnScope ["self","place"] jb (ae ja):=by k_memK
abbrev jc:GK:=top 7
abbrev jd:List Str:=["one","two"]
def sc_measure:FnScope ["one","two","last"] jd (ae jc):=by k_memK
abbrev je:GK:=top 10
abbrev jg:List Str:=["one","two"]
def sc_met:FnScope ["one","two","common","width","rise","start","gap","climbs","steps"] jg (ae je):=by k_memK
abbrev jh:GK:=top 11
abbrev ji:List Str:=["family"]
def wa:FnScope ["family"] ji (ae jh):=by k_memK
abbrev jj:GK:=top 12
abbrev jk:List Str:=["family"]
def wb:FnScope ["family"] jk (ae jj):=by k_memK
abbrev fg:GK:=aW (top 16) 1
abbrev bK:List Str:=["self"]
def wc:FnScope ["self"] bK (ae fg):=by k_memK
abbrev fj:GK:=aW (top 17) 1
abbrev fk:List Str:=["self"]
def sc_Over_family:FnScope ["self","first"] fk (ae fj):=by k_memK
abbrev fm:GK:=aW (top 18) 1
abbrev fo:List Str:=["self"]
def we:FnScope ["self"] fo (ae fm):=by k_memK
abbrev ft:GK:=aW (top 19) 1
abbrev fu:List Str:=["self"]
def wg:FnScope ["self"] fu (ae ft):=by k_memK
abbrev fv:GK:=aW (top 20) 1
abbrev fw:List Str:=["self"]
def wj:FnScope ["self"] fw (ae fv):=by k_memK
abbrev fz:GK:=aW (top 21) 1
abbrev fA:List Str:=["self"]
def wk:FnScope ["self"] fA (ae fz):=by k_memK
abbrev jl:GK:=top 37
abbrev jm:List Str:=["text"]
def sc_read:FnScope ["text","reading","form","family"] jm (ae jl):=by k_memK
abbrev jn:GK:=top 40
abbrev jp:List Str:=["_law_found"]
def wl:FnScope ["_law_found"] jp (ae jn):=by k_memK
abbrev fB:GK:=top 47
abbrev jq:List Str:=["_law_script"]
def sc_law:FnScope ["_law_script","_law_many","_law_owns","_law_due","_law_k","_law_draws_here","_law_one","_law_two","_law_text","_law_told","_law_good","e","_law_place"] jq (ae fB):=by k_memK
structure Pat.Wide(p:Pat)(N:Int):Prop where
 wf:p.Wf
 area:p.Area N
 cal:p.Cal
def Pat.Area.le{p:Pat}{M N:Int}(h:p.Area M)(e:M<=N):p.Area N:=by
 obtain⟨w,k,s,f,b⟩:=h;exact⟨w,k,s,f,by omega⟩
def wm{L:List y8}{a b c d:Int}(h:(Pat.mot L a b c d).Wf):(Pat.mot L a b c d).Wide 288:=by
 obtain⟨hL,ha,hb,hc,hd,hn⟩:=h;obtain⟨w,k,s,q,f⟩:=gN (L:=L) hn;refine⟨⟨hL,ha,hb,hc,hd,hn⟩,⟨w,k,s,f,?_⟩,trivial⟩;have kc:=q.cells;unfold B12 at*;have m1:=bg (a:=a) (d:=d) (A:=12) (B:=12) (by omega) (by omega);have m2:=bg (a:=b) (d:=c) (A:=12) (B:=12) (by omega) (by omega);omega
namespace Pat.Wide
variable {p q:Pat}{M N:Int}
def over(h:p.Wide M)(k:q.Wide N)(hM:M<=33554432)(hN:N<=33554432):(Pat.over p q).Wide (M*N):=by
 refine⟨⟨h.wf,k.wf⟩,?_,h.cal,k.cal,λ_ _=>⟨h.area.le hM,k.area.le hN⟩⟩;obtain⟨w1,h1,s1,f1,b1⟩:=h.area;obtain⟨w2,h2,s2,f2,b2⟩:=k.area;obtain⟨g,u,M1⟩:=cW w1 w2;obtain⟨k',u',M2⟩:=cW h1 h2;obtain⟨gg,n6,M3⟩:=cW g (h1*h2 / k' / h2*s2 - h1*h2 / k' / h1*s1);have MR:=gK f1.f.w0 f2.f.w0 f1.f.h0 f2.f.h0 M1 M2 M3;refine⟨_,_,_,Pat.Fam.over f1 f2 MR,?_⟩;have c:=MR.cells;have A0:=MR.A0;have wp:=xQ MR.w0 MR.h0;generalize (w1*w2 / g)*(h1*h2 / k'*(g / gg))=x at*;generalize k'*gg=A at*;have e1:=zD (show 1<=A by omega) (show 0<=x by omega);have p1:=xQ f1.f.w0 f1.f.h0;have p2:=xQ f2.f.w0 f2.f.h0;have e2:=Af b1 b2 (Int.le_of_lt p2) (by omega);rw[<- Int.mul_assoc] at e2;omega
def sh(a b:Int)(ha:B12 a)(hb:B12 b)(h:p.Wide N):(Pat.sh a b p).Wide N:=by
 obtain⟨w,k,s,f,q⟩:=h.area;exact⟨⟨ha,hb,h.wf⟩,⟨w,k,s,f.sh a b,q⟩,h.cal⟩
def hue(f g:Int)(hf:1<=f/\f<=6)(hg:1<=g/\g<=6)(h:p.Wide N):(Pat.hue f g p).Wide N:=by
 obtain⟨w,k,s,F,q⟩:=h.area;exact⟨⟨hf,hg,h.wf⟩,⟨w,k,s,F.hue f g,q⟩,h.cal⟩
def mir(h:p.Wide N):(Pat.mir p).Wide N:=by
 obtain⟨w,k,s,f,q⟩:=h.area;exact⟨h.wf,⟨w,k,_,f.mir,q⟩,h.cal⟩
def tur(h:p.Wide N)(hN:N<=33554432):(Pat.tur p).Wide N:=⟨h.wf,h.area.tur,h.cal,λ_=>h.area.le hN⟩
end Pat.Wide
def Wraps.wide{p:Pat}{N:Int}{H:Prop}{R:My.D->Prop}(h:p.Wide N)(hN:N<=33554432)(hR:∀ q:Pat,q.Wide N->q.depth<=max 5 p.depth->q.depth<=p.depth+1->R q.D):Wraps p H R:=by
 refine⟨λ_=>hR p h (by omega) (by omega),λhd=>⟨hR _ h.mir ?_ ?_,hR _ (h.tur hN) ?_ ?_,λa b ha hb=>hR _ (h.sh a b ha hb) ?_ ?_,λ_ f g hf hg=>hR _ (h.hue f g hf hg) ?_ ?_⟩⟩<;>(simp only[Pat.depth];omega)
def Pat.marks:Pat->Nat->List (Bool × Nat)
 | .mot _ a b c d,k=>[(decide (a*d=b*c),k)]
 | .over p q,k=>p.marks (k+1)++q.marks (k+1+p.tl.length+1)
 | .sh a b p,k=>p.marks (k+1+(numL a).length+1+(numL b).length+1)
 | .mir p,k=>p.marks (k+1)
 | .tur p,k=>p.marks (k+1)
 | .hue _ _ p,k=>p.marks (k+3)
def Pat.flags:Pat->List Bool
 | .mot _ a b c d=>[decide (a*d=b*c)]
 | .over p q=>p.flags++q.flags
 | .sh _ _ p=>p.flags
 | .mir p=>p.flags
 | .tur p=>p.flags
 | .hue _ _ p=>p.flags
def aE:List Nat->Nat->List Nat
 |[],_=>[]
 |c::l,k=>if c=91 then k::aE l (k+1) else aE l (k+1)
def fC:∀ (a b:List Nat) (k:Nat),aE (a++b) k=aE a k++aE b (k+a.length):=by
 intro a;induction a with
 |nil=>intro b k;rfl
 |cons c a ih=>
  intro b k;rw[yl,aE,aE,ih,xG,show k+1+a.length=k+(a.length+1) by lia];split<;>rfl
def nv:∀ {a:List Nat} (k:Nat),(∀ c∈a,c≠91)->aE a k=[]:=by
 intro a;induction a with
 |nil=>intro k _;rfl
 |cons c a ih=>
  intro k h;rw[aE,if_neg (h c xT)];exact ih _ λc q=>h c (xS _ q)
def bF{c:Nat}{l:List Nat}{k:Nat}(h:c≠91):aE (c::l) k=aE l (k+1):=by rw[aE,if_neg h]
def wn{a:Int}(h:B12 a):∀ c∈numL a,c≠91:=λc q z=>by
 rcases num_chars h c q with e|e<;>lia
def posOf_num{a:Int}(h:B12 a)(l:List Nat)(k:Nat):aE (numL a++l) k=aE l (k+(numL a).length):=by
 rw[fC,nv _ (wn h),zc]
def Pat.flags_of{p:Pat}:∀ k,(p.marks k).map (·.1)=p.flags:=by
 induction p with
 |mot=>intro k;rfl
 |over p q i j=>intro k;rw[Pat.marks,yo,i,j];rfl
 |sh a b p i=>intro k;exact i _
 |mir p i=>intro k;exact i _
 |tur p i=>intro k;exact i _
 |hue f g p i=>intro k;exact i _
def Pat.line_marks{p:Pat}:∀ k,p.lineAt k=((p.marks k).find? (·.1)).map (·.2):=by
 induction p with
 |mot L a b c d=>
  intro k;rw[Pat.lineAt,Pat.marks];by_cases h:a*d=b*c<;>simp[h]
 |over p q i j=>
  intro k;rw[Pat.lineAt,Pat.marks,List.find?_append,i];cases(p.marks (k+1)).find? (·.1) with
  |none=>exact j _
  |some x=>rfl
 |sh a b p i=>intro k;exact i _
 |mir p i=>intro k;exact i _
 |tur p i=>intro k;exact i _
 |hue f g p i=>intro k;exact i _
def find_marks:∀ M:List (Bool × Nat),(M.find? (·.1)).map (·.2)=(M.map (·.2))[(M.map (·.1)).findIdx id]?:=by
 intro M;induction M with
 |nil=>rfl
 |cons x M ih=>
  obtain⟨b,k⟩:=x;rw[yw,xN,xN,yz];cases b with
  |true=>rfl
  |false=>exact ih
def Pat.marks_pos{p:Pat}:∀ k,p.Syn->(p.marks k).map (·.2)=aE p.tl k:=by
 induction p with
 |mot L a b c d=>
  intro k h;obtain⟨hL,ha,hb,hc,hd⟩:=h;show[k]=aE (motL _ a b c d) k;have r0:∀ c∈rowsL (L.map cs),c≠91:=λc q z=>by
   obtain⟨w,_,hw⟩:=hL.wide;rcases rowsL_chars (λx hx=>by obtain⟨l,hl,rfl⟩:=yy.mp hx;exact(hw l hl).2) c q with e|e
   .unfold isSign at e;lia
   .lia
  rw[motL,aE,if_pos rfl,fC,nv _ r0,zc,bF (by decide),posOf_num ha,bF (by decide),posOf_num hb,bF (by decide),posOf_num hc,bF (by decide),posOf_num hd];rfl
 |over p q i j=>
  intro k h;rw[Pat.marks,yo,i _ h.1,j _ h.2];show _=aE (40::(p.tl++124::(q.tl++[41]))) k;rw[bF (by decide),fC,bF (by decide),fC];have e:aE [41] (k+1+p.tl.length+1+q.tl.length)=[]:=rfl;rw[e,yd]
 |sh a b p i=>
  intro k h;rw[Pat.marks,i _ h.2.2];show _=aE (115::(numL a++44::(numL b++58::p.tl))) k;rw[bF (by decide),posOf_num h.1,bF (by decide),posOf_num h.2.1,bF (by decide)]
 |mir p i=>intro k h;rw[Pat.marks,i _ h];rfl
 |tur p i=>intro k h;rw[Pat.marks,i _ h];rfl
 |hue f g p i=>
  intro k h;rw[Pat.marks,i _ h.2.2];show _=aE (104::(numL f++(numL g++p.tl))) k;rw[hueL h.1,hueL h.2.1];have e1:(48+f).toNat≠91:=by have:=h.1;lia
  have e2:(48+g).toNat≠91:=by have:=h.2.1;lia
  show _=aE (104::(48+f).toNat::(48+g).toNat::p.tl) k;rw[bF (by decide),bF e1,bF e2]
def Pat.line_at{p:Pat}(h:p.Syn):p.lineAt 0=(aE p.tl 0)[p.flags.findIdx id]?:=by
 rw[Pat.line_marks,find_marks,Pat.marks_pos 0 h,Pat.flags_of]
def Pat.flags_len{p:Pat}(h:p.Syn):(aE p.tl 0).length=p.flags.length:=by
 rw[<- Pat.marks_pos 0 h,<- Pat.flags_of 0,xU,xU]
def wo:∀ {l:List Nat} {o i:Nat} {r:List Nat},aE l o=i::r->∃ j,i=o+j/\l[j]?=be 91/\(∀ m,m<j->l[m]?≠be 91)/\aE (l.drop (j+1)) (i+1)=r:=by
 intro l;induction l with
 |nil=>intro o i r h;cases h
 |cons c l ih=>
  intro o i r h;rw[aE] at h;split at h
  .rename_i e;injection h with h1 h2;subst e h1;exact⟨0,rfl,rfl,λm hm=>absurd hm (zx m),h2⟩
  .rename_i e;obtain⟨j,h1,h2,h3,h4⟩:=ih h;refine⟨j+1,by lia,h2,λm hm=>?_,h4⟩;cases m with
   |zero=>exact λz=>e (Option.some.inj z)
   |succ m=>exact h3 m (by lia)
def atC{t:y8}{c i:Nat}:StrLaws.At t ⟨#[c]⟩ t.length i↔(cs t)[i]?=be c:=by
 have e:Builtin.Str.subAt t ⟨#[c]⟩ i=(((cs t).drop i).take 1==[c]):=StrLaws.subAt_eq t ⟨#[c]⟩ i;have e2:((cs t).drop i).take 1=[c]↔(cs t)[i]?=be c:=by
  rw[List.take_one,List.head?_drop];cases(cs t)[i]?<;>simp
 unfold StrLaws.At;rw[e,beq_iff_eq,e2];refine⟨λh=>h.2,λh=>⟨?_,h⟩⟩;have:=(xO.mp h).1;rw[bP] at this;exact this
def wr{t:y8}{o i:Nat}{r:List Nat}(h:aE ((cs t).drop o) o=i::r):∃ k rest,Builtin.Str.occurrences t "[" (PySem.fromIndex t.length (o:Int)) t.length 1=k::rest/\k=i/\o<=i/\aE ((cs t).drop (i+1)) (i+1)=r:=by
 obtain⟨j,rfl,h2,h3,h4⟩:=wo h;rw[Ar] at h2;rw[Ai] at h4;have e:PySem.fromIndex t.length (o:Int)=o:=by
  unfold PySem.fromIndex;rw[if_neg (by lia)];lia
 rw[e];have a0:StrLaws.At t ⟨#[91]⟩ t.length (o+j):=atC.mpr h2;refine(StrLaws.occ_head_from t ⟨#[91]⟩ o 1 (xH _)).elim (λz=>absurd a0 (z.2 _ (by lia))) λz=>?_;obtain⟨k,rest,e1,h5,h6,h7⟩:=z;refine⟨k,rest,e1,?_,by lia,h4⟩;rcases Nat.lt_trichotomy k (o+j) with q|q|q
 .have:=atC.mp h6;refine absurd ?_ (h3 (k - o) (by lia));rw[Ar,show o+(k - o)=k by lia];exact this
 .exact q
 .exact absurd a0 (h7 _ (by lia) q)
structure Pat.Wid(p:Pat)(N:Int):Prop where
 syn:p.Syn
 cal:p.Cal
 area:p.Wf->p.Area N
def wt{L:List y8}{a b c d:Int}(h:(Pat.mot L a b c d).Syn):(Pat.mot L a b c d).Wid 288:=⟨h,trivial,λw=>(wm w).area⟩
namespace Pat.Wid
variable {p q:Pat}{M N:Int}
def over(h:p.Wid M)(k:q.Wid N)(hM:M<=33554432)(hN:N<=33554432):(Pat.over p q).Wid (M*N):=
 ⟨⟨h.syn,k.syn⟩,⟨h.cal,k.cal,λw v=>⟨(h.area w).le hM,(k.area v).le hN⟩⟩,λw=>(Pat.Wide.over ⟨w.1,h.area w.1,h.cal⟩ ⟨w.2,k.area w.2,k.cal⟩ hM hN).area⟩
def sh(a b:Int)(ha:B12 a)(hb:B12 b)(h:p.Wid N):(Pat.sh a b p).Wid N:=⟨⟨ha,hb,h.syn⟩,h.cal,λw=>(Pat.Wide.sh (p:=p) a b ha hb ⟨w.2.2,h.area w.2.2,h.cal⟩).area⟩
def hue(f g:Int)(hf:1<=f/\f<=6)(hg:1<=g/\g<=6)(h:p.Wid N):(Pat.hue f g p).Wid N:=⟨⟨hf,hg,h.syn⟩,h.cal,λw=>(Pat.Wide.hue (p:=p) f g hf hg ⟨w.2.2,h.area w.2.2,h.cal⟩).area⟩
def mir(h:p.Wid N):(Pat.mir p).Wid N:=⟨h.syn,h.cal,λw=>(Pat.Wide.mir (p:=p) ⟨w,h.area w,h.cal⟩).area⟩
def tur(h:p.Wid N)(hN:N<=33554432):(Pat.tur p).Wid N:=⟨h.syn,⟨h.cal,λw=>(h.area w).le hN⟩,λw=>(Pat.Wide.tur (p:=p) ⟨w,h.area w,h.cal⟩ hN).area⟩
end Pat.Wid
def wu(j:Int){q:Pat}(wq:q.Wid 288):∃ (h:y8) (q':Pat),atI [D.str "m",D.str "t",D.str "s12,-12:",D.str "h16",D.str "s0,7:"] (j % 5)=be (.str h)/\h.length<=8/\h++q.text=q'.text/\q'.Wid 288/\q'.depth=q.depth+1/\q'.flags=q.flags:=by
 have b1:B12 12:=by unfold B12;decide
 have b2:B12 (-12):=by unfold B12;decide
 have b3:B12 0:=by unfold B12;decide
 have b4:B12 7:=by unfold B12;decide
 rcases(by lia:j % 5=0\/j % 5=1\/j % 5=2\/j % 5=3\/j % 5=4) with e|e|e|e|e<;>rw[e]
 .exact⟨_,.mir q,rfl,by decide+kernel,rfl,wq.mir,rfl,rfl⟩
 .exact⟨_,.tur q,rfl,by decide+kernel,rfl,wq.tur (by decide),rfl,rfl⟩
 .exact⟨_,.sh 12 (-12) q,rfl,by decide+kernel,rfl,wq.sh _ _ b1 b2,rfl,rfl⟩
 .exact⟨_,.hue 1 6 q,rfl,by decide+kernel,rfl,wq.hue _ _ (by decide) (by decide),rfl,rfl⟩
 .exact⟨_,.sh 0 7 q,rfl,by decide+kernel,rfl,wq.sh _ _ b3 b4,rfl,rfl⟩
def Own1(q:Pat × Bool):Prop:=q.1.Wid 288/\q.1.depth<=2/\q.1.flags=[q.2]
def Built(fs:List Bool)(n:Nat)(P:Pat):Prop:=P.Wid (288 ^ n)/\P.depth<=1+n/\P.flags=fs
def Built.one{q:Pat × Bool}(h:Own1 q):Built [q.2] 1 q.1:=⟨h.1,h.2.1,h.2.2⟩
def Built.left{fs:List Bool}{n:Nat}{P:Pat}{q:Pat × Bool}(hn:n<=3)(n1:1<=n)(h:Built fs n P)(k:Own1 q):Built (fs++[q.2]) (n+1) (.over P q.1):=by
 have nb:(288:Int) ^ n<=33554432:=by
  rcases(by lia:n=1\/n=2\/n=3) with rfl|rfl|rfl<;>decide
 refine⟨?_,?_,?_⟩
 .rw[As];exact h.1.over k.1 nb (by decide)
 .rw[Pat.depth];have:=h.2.1;have:=k.2.1;lia
 .rw[Pat.flags,h.2.2,k.2.2]
def Built.right{fs:List Bool}{n:Nat}{P:Pat}{q:Pat × Bool}(hn:n<=3)(n1:1<=n)(h:Built fs n P)(k:Own1 q):Built (q.2::fs) (n+1) (.over q.1 P):=by
 have nb:(288:Int) ^ n<=33554432:=by
  rcases(by lia:n=1\/n=2\/n=3) with rfl|rfl|rfl<;>decide
 refine⟨?_,?_,?_⟩
 .rw[As,yM];exact k.1.over h.1 (by decide) nb
 .rw[Pat.depth];have:=h.2.1;have:=k.2.1;lia
 .rw[Pat.flags,h.2.2,k.2.2];rfl
def jr(qs:List (Pat × Bool)):(qs.map λq=>D.bl q.2).any (λy=>eqF y (.bl true))=(qs.map (·.2)).any id:=by
 induction qs with
 |nil=>rfl
 |cons q qs ih=>
  rw[xN,xN,yr,yr,ih];obtain⟨p,b⟩:=q;cases b<;>rfl
def flat_bl(qs:List (Pat × Bool)):(qs.map λq=>D.bl q.2).all aL=true:=by
 induction qs with
 |nil=>rfl
 |cons q qs ih=>rw[xN,yq,ih];rfl
def nw(qs:List (Pat × Bool)):(qs.map λq=>D.bl q.2).findIdx (λw=>eqF w (.bl true))=(qs.map (·.2)).findIdx id:=by
 induction qs with
 |nil=>rfl
 |cons q qs ih=>
  rw[xN,xN,yz,yz,ih];obtain⟨p,b⟩:=q;cases b<;>rfl
def line_none{P:Pat}(h:P.Syn)(e:P.lineAt 0=t8):P.flags.any id=false:=by
 rw[Pat.line_at h] at e;have h1:=List.getElem?_eq_none_iff.mp e;rw[Pat.flags_len h] at h1;cases c:P.flags.any id with
 |false=>rfl
 |true=>
  obtain⟨x,hx,z⟩:=Au.mp c;have:=Av.mpr ⟨x,hx,z⟩;lia
def wv{P:Pat}{i:Nat}(h:P.Syn)(e:P.lineAt 0=be i):P.flags.any id=true/\P.flags.findIdx id<P.flags.length/\(aE P.tl 0)[P.flags.findIdx id]?=be i:=by
 rw[Pat.line_at h] at e;have h1:=(xO.mp e).1;rw[Pat.flags_len h] at h1;obtain⟨x,hx,z⟩:=Av.mp h1;exact⟨Au.mpr ⟨x,hx,z⟩,h1,e⟩
section
variable {V:Bx}
abbrev fD(V:Bx):Prop:=V.D 1 "_law_at" gW tL
def ww(T:V.T "_law_at" gU gW)(uG:V.m "len"):fD V:=by
 refine Tx.okDW T vO (λds R h=>?_) (λf cdv A outer s H E J hr=>⟨_,((ai (bM (dX (aa 1) (gq uG (ad (aa 0) af))) (av (aJ (ag (aa 0) (aa 1)))) bu)
   (av (aJ ac)))),λds R h=>?_⟩)
 .obtain⟨ns,k,rfl,_⟩:=h;rfl
 .obtain⟨ns,k,rfl,hk,hR⟩:=h;refine ite2 (λc=>?_) (λc=>?_)
  .have c':=of_decide_eq_true c;rw[xU] at c';exact⟨_,mo hk c',hR⟩
  .have c':=of_decide_eq_false (yR.mpr c);rw[xU] at c';rw[tK (by lia)] at hR;exact hR
abbrev js(V:Bx):Prop:=V.D 2 "_law_draws" gY tV
def wx(T:V.T "_law_draws" gX gY)(uC:V.m "range")(uK:fD V):js V:=by
 refine Tx.okDW T sc__law_draws (λds R h=>?_) (λf cdv A outer s H E J hr=>⟨_,((ai (am 3 sc__law_draws.nd (aS uK hr (ad (aa 0) (ad (aa 1) af))))
   (ai (eg 4 sc__law_draws.nd af)
   (ai (bM (aZ (au (aS uK hr (ad (aa 0) (ad (aq (aa 1) ac) af))) ac) ac) (ai (cw 5 PassesOwn.never rfl sc__law_draws.nd uC (aa 2) (ai (dF 4 (au (aa 3) ac))
     (av (am 3 sc__law_draws.nd (bt (aa 3) ac)))))
    (dZ 4 (av (aJ (aa 4))))) bu)
   (ai (am 6 sc__law_draws.nd (au (aq (aa 3) ac) ac))
   (ai (cw 5 PassesOwn.never rfl sc__law_draws.nd uC (aa 2) (ai (am 6 sc__law_draws.nd (au (aq (aq (aI (aa 6) ac) (aS uK hr (ad (aa 0) (ad (aq (aq (aa 1) ac) (au (aa 5) ac)) af)))) (aa 5)) ac))
    (av (dF 4 (au (au (aI (aa 6) ac) ac) ac)))))
   (dZ 4 (av (aJ (aa 4)))))))))),λds R h=>?_⟩)
 .obtain⟨_,_,_,rfl,_⟩:=h;rfl
 .obtain⟨ns,k,n,rfl,hk,hn,hR⟩:=h;refine⟨λd=>∃ v:Int,d= .int v,⟨ns,k,rfl,hk,_,rfl⟩,?_⟩;rintro _ ⟨left,rfl⟩;k_places;refine⟨by simp,?_⟩;refine⟨ns,k+1,rfl,by lia,by decide,ite2 (λ_=>?_) (λ_=>?_)⟩
  .refine⟨⟨by lia,by lia⟩,λi z=>∃ (xs:List Int) (l:Int) (o p:Option D),z=[be (.rol (ns.map D.int)),be (.int k),be (.int n),be (.int l),be (.own (xs.map D.int)),o,p]/\xs.length=i/\Drawn xs,⟨[],left,_,_,rfl,rfl,(λx hx=>by cases hx)⟩,?_,?_⟩
   .rintro i x z hi ⟨xs,l,o,p,rfl,hl,hd⟩;k_places;have k8:i<n:=by simpa using(xO.mp hi).1
    refine⟨by decide,by simp;lia,?_⟩;refine⟨λd=>∃ v:Int,d= .int v,⟨⟨by decide,by decide⟩,_,rfl⟩,?_⟩;rintro _ ⟨l',rfl⟩;k_places;rw[mq];exact⟨_,l',_,_,rfl,by simp[hl],ms hd (cC (by decide)) (cD (by decide))⟩
   .rintro z ⟨xs,l,o,p,rfl,hl,hd⟩;k_places;exact hR xs (by simpa using hl) hd
  .refine⟨λd=>∃ v:Int,d= .int v/\0<=v/\v<2147483647,⟨by decide,_,rfl,cC (by decide),cD (by decide)⟩,?_⟩;rintro _ ⟨C4,rfl,s1,s2⟩;k_places;refine⟨⟨by lia,by lia⟩,λi z=>∃ (xs:List Int) (sd:Int) (o:Option D),z=[be (.rol (ns.map D.int)),be (.int k),be (.int n),be (.int left),be (.own (xs.map D.int)),o,be (.int sd)]/\xs.length=i/\Drawn xs/\0<=sd/\sd<2147483647,⟨[],C4,_,rfl,rfl,(λx hx=>by cases hx),s1,s2⟩,?_,?_⟩
   .rintro i x z hi ⟨xs,sd,o,rfl,hl,hd,s1,s2⟩;k_places;have k8:i<n:=by simpa using(xO.mp hi).1
    have ex:x= .int (i:Int):=by simp[k8] at hi;exact hi.symm
    subst ex;refine⟨λd=>∃ v:Int,d= .int v/\0<=v/\v<2147483647,⟨.inr ⟨by decide,by decide⟩,by decide,ns,_,rfl,by lia,by decide,_,rfl,cC (by decide),cD (by decide)⟩,?_⟩;rintro _ ⟨FO,rfl,t1,t2⟩;k_places;refine⟨.inr ⟨by decide,by decide⟩,by decide,by decide,by simp;lia,?_⟩;rw[mq];exact⟨_,FO,_,rfl,by simp[hl],ms hd (cC (by decide)) (cD (by decide)),t1,t2⟩
   .rintro z ⟨xs,sd,o,rfl,hl,hd,_⟩;k_places;exact hR xs (by simpa using hl) hd
abbrev jt(V:Bx):Prop:=V.D 1 "_law_shift_pair" hI tW
def wy(T:V.T "_law_shift_pair" gZ hI)(uH:V.m "int"):jt V:=by
 refine Tx.okDW T sc__law_shift_pair (λds R h=>?_) (λf cdv A outer s H E J hr=>⟨_,((ai (bM (aZ (au (bt (ag (aa 0) ac) ac) ac) ac) (av (aJ (bA (ad (aM (ad (aq ac (au (ag (aa 0) ac) ac)) (ad ac af))) (ad (aM (ad ac (ad (aq ac (au (ag (aa 0) ac) ac)) af))) af))))) bu)
   (ai (bM (aZ (au (bt (ag (aa 0) ac) ac) ac) ac) (av (aJ (bA (ad (aM (ad (aq ac (au (ag (aa 0) ac) ac)) (ad ac af))) (ad (aM (ad (bp (au (ag (aa 0) ac) ac) ac) (ad (aq ac (au (ag (aa 0) ac) ac)) af))) af))))) bu)
   (ai (am 1 sc__law_shift_pair.nd (bp (au (ag (aa 0) ac) ac) ac))
   (ai (am 2 sc__law_shift_pair.nd (bp (au (ag (aa 0) ac) ac) ac))
   (ai (am 3 sc__law_shift_pair.nd (bp (au (ag (aa 0) ac) ac) ac))
   (ai (am 4 sc__law_shift_pair.nd (bp (au (ag (aa 0) ac) ac) ac))
   (ai (am 1 sc__law_shift_pair.nd (aq (aa 1) (lp uH (ad (dY (dW (aa 1) ac) (gu (dW (aa 2) ac))) af))))
   (ai (bM (aZ (aI (aa 1) (aa 4)) (aI (aa 2) (aa 3))) (av (aJ (bA (ad (aM (ad (aa 1) (ad (aa 2) af))) (ad (aM (ad (bU (aa 2)) (ad (aa 1) af))) af))))) bu)
   (av (aJ (bA (ad (aM (ad (aa 1) (ad (aa 2) af))) (ad (aM (ad (aa 3) (ad (aa 4) af))) af)))))))))))))),λds R h=>?_⟩)
 .obtain⟨_,rfl,_⟩:=h;rfl
 .obtain⟨xs,rfl,hl,hd,hR⟩:=h;have a3:=bO (xs:=xs) (k:=3) (by decide) (show 3<xs.length by lia);have a4:=bO (xs:=xs) (k:=4) (by decide) (show 4<xs.length by lia);have a5:=bO (xs:=xs) (k:=5) (by decide) (show 5<xs.length by lia);have a6:=bO (xs:=xs) (k:=6) (by decide) (show 6<xs.length by lia);have a7:=bO (xs:=xs) (k:=7) (by decide) (show 7<xs.length by lia);generalize cell xs 3=x3 at*;generalize cell xs 4=x4 at*;generalize cell xs 5=x5 at*;generalize cell xs 6=x6 at*;generalize cell xs 7=x7 at*;clear hl hd;refine⟨_,a3,⟨by decide,by decide⟩,by decide,ite2 (λ_=>?_) (λ_=>?_)⟩
  .refine⟨_,a4,by decide,by simp,_,a5,by decide,by simp,by simp,hR _ _ _ _ (by lia) (by lia) (by lia) (by lia) ?_⟩;have p:0<(1+x4 % 6)*(1+x5 % 6):=xQ (by lia) (by lia);lia
  refine⟨_,a3,⟨by decide,by decide⟩,by decide,ite2 (λ_=>?_) (λ_=>?_)⟩
  .refine⟨_,a4,by decide,by simp,_,a6,by decide,_,a5,by decide,by simp,by simp,hR _ _ _ _ (by lia) (by lia) (by lia) (by lia) ?_⟩;have p:0<(1+x4 % 6)*(1+x5 % 4):=xQ (by lia) (by lia);lia
  refine⟨λd=>∃ v:Int,d= .int v/\-12<=v/\v<=12,⟨_,a4,by decide,_,rfl,by lia⟩,?_⟩;rintro _ ⟨a,rfl,ha⟩;k_places;refine⟨λd=>∃ v:Int,d= .int v/\-12<=v/\v<=12,⟨_,a5,by decide,_,rfl,by lia⟩,?_⟩;rintro _ ⟨b,rfl,hb⟩;k_places;refine⟨λd=>∃ v:Int,d= .int v/\-12<=v/\v<=12,⟨_,a6,by decide,_,rfl,by lia⟩,?_⟩;rintro _ ⟨c,rfl,hc⟩;k_places;refine⟨λd=>∃ v:Int,d= .int v/\-12<=v/\v<=12,⟨_,a7,by decide,_,rfl,by lia⟩,?_⟩;rintro _ ⟨d,rfl,f6⟩;k_places;refine⟨λx=>∃ v:Int,x= .int v/\(-12<=v/\v<=12)/\¬ (v=0/\b=0),ite2 (λe=>?_) (λe=>?_),?_⟩
  .have e':=of_decide_eq_true e;by_cases Ep:b=0
   .refine⟨_,rfl,?_⟩;subst e' Ep;simp
   .refine⟨_,rfl,?_⟩;subst e';simp[Ep]
  .have e':=of_decide_eq_false (yR.mpr e);refine⟨_,rfl,?_⟩;simp;lia
  rintro _ ⟨a,rfl,ha,FP⟩;k_places;refine⟨.inl (i64 ha.1 ha.2),.inl (i64 hb.1 hb.2),ite2 (λe=>?_) (λe=>?_)⟩
  .refine⟨by simp,by simp,by simp,hR a b (-b) a ha hb (by lia) ha ?_⟩;rw[yt];intro z;have s1:0<=a*a:=sq0 a;have s2:0<=b*b:=sq0 b;have z1:a*a=0:=by omega
   have z2:b*b=0:=by omega
   exact FP ⟨(yP.mp z1).elim id id,(yP.mp z2).elim id id⟩
  .have e':=of_decide_eq_false (yR.mpr e);exact⟨by simp,by simp,by simp,hR a b c d ha hb hc f6 e'⟩
def wz:SpD:=λds R=>∃ (xs:List Int) (n:Int),ds=[.lst (xs.map D.int),.int n]/\8<=xs.length/\Drawn xs/\
 ∀ a b c d:Int,B12 a->B12 b->B12 c->B12 d->R (.lst [.tup [.int a,.int b],.tup [.int c,.int d]])
abbrev ju(V:Bx):Prop:=V.D 2 "_law_pair" hV wz
def wA(T:V.T "_law_pair" hU hV)(C5:jt V):ju V:=by
 refine Tx.okDW T sc__law_pair (λds R h=>?_) (λf cdv A outer s H E J hr=>⟨_,((ai (lr rfl (aS C5 hr (ad (aa 0) af)) (dg_cons 2 sc__law_pair.nd (dg_cons 3 sc__law_pair.nd el)))
   (ai (am 4 sc__law_pair.nd (bp (au (ag (aa 0) ac) ac) ac))
   (ai (am 5 sc__law_pair.nd (bp (au (ag (aa 0) ac) ac) ac))
   (ai (am 6 sc__law_pair.nd (bp (au (ag (aa 0) ac) ac) ac))
   (ai (bM (aZ (au (aa 1) ac) ac) (av (aJ (bA (ad (aM (ad (aa 5) (ad (aa 6) af))) (ad (aM (ad (aI (aa 5) (aa 4)) (ad (aI (aa 6) (aa 4)) af))) af))))) bu)
   (ai (bM (aZ (au (aa 1) ac) ac) (av (aJ (bA (ad (aM (ad ac (ad ac af))) (ad (aa 3) af))))) bu)
   (ai (bM (aZ (au (aa 1) ac) ac) (av (aJ (bA (ad (aa 2) (ad (aM (ad ac (ad ac af))) af))))) bu)
   (av (aJ (bA (ad (aa 2) (ad (aa 3) af))))))))))))),λds R h=>?_⟩)
 .obtain⟨_,_,rfl,_⟩:=h;rfl
 .obtain⟨xs,n,rfl,hl,hd,hR⟩:=h;have a4:=bO (xs:=xs) (k:=4) (by decide) (show 4<xs.length by lia);have a5:=bO (xs:=xs) (k:=5) (by decide) (show 5<xs.length by lia);have a6:=bO (xs:=xs) (k:=6) (by decide) (show 6<xs.length by lia);refine⟨xs,rfl,by lia,hd,λa b c d ha hb hc f6 hn=>⟨rfl,?_⟩⟩;refine⟨λx=>∃ v:Int,x= .int v/\-3<=v/\v<=3,⟨_,a6,by decide,_,rfl,by lia⟩,?_⟩;rintro _ ⟨m,rfl,hm⟩;k_places;refine⟨λx=>∃ v:Int,x= .int v/\-4<=v/\v<=4,⟨_,a4,by decide,_,rfl,by lia⟩,?_⟩;rintro _ ⟨u,rfl,hu⟩;k_places;refine⟨λx=>∃ v:Int,x= .int v/\-4<=v/\v<=4,⟨_,a5,by decide,_,rfl,by lia⟩,?_⟩;rintro _ ⟨v,rfl,hv⟩;k_places;have z0:B12 0:=by unfold B12;lia
  refine⟨by decide,ite2 (λ_=>?_) λ_=>⟨by decide,ite2 (λ_=>?_) λ_=>⟨by decide,ite2 (λ_=>?_) λ_=>?_⟩⟩⟩
  .have p1:=bg (a:=u) (d:=m) (A:=4) (B:=3) (by lia) (by lia);have p2:=bg (a:=v) (d:=m) (A:=4) (B:=3) (by lia) (by lia);exact⟨by show(2:Nat)<=1000;decide,.inl ⟨by lia,by lia⟩,.inl ⟨by lia,by lia⟩,by show(2:Nat)<=1000;decide,by show(2:Nat)<=1000;decide,hR _ _ _ _ (by unfold B12;lia) (by unfold B12;lia) (by unfold B12;lia) (by unfold B12;lia)⟩
  .exact⟨by show(2:Nat)<=1000;decide,by show(2:Nat)<=1000;decide,hR _ _ _ _ z0 z0 hc f6⟩
  .exact⟨by show(2:Nat)<=1000;decide,by show(2:Nat)<=1000;decide,hR _ _ _ _ ha hb z0 z0⟩
  .exact⟨by show(2:Nat)<=1000;decide,hR _ _ _ _ ha hb hc f6⟩
def wB:SpD:=λds R=>∃ (p:Pat) (n:Int),ds=[.str p.text,.int n]/\p.Wid 288/\p.depth=0/\∀ q:Pat,q.Wid 288->q.depth<=2->q.flags=p.flags->R (.str q.text)
abbrev jv(V:Bx):Prop:=V.D 1 "_law_dressed" ia wB
def wC(T:V.T "_law_dressed" hZ ia)(uC:V.m "range"):jv V:=by
 refine Tx.okDW T sc__law_dressed (λds R h=>?_) (λf cdv A outer s H E J hr=>⟨_,((ai (cw 2 PassesOwn.never rfl sc__law_dressed.nd uC (au (aa 1) ac) (av (am 0 sc__law_dressed.nd (aq (ag (bA (ad ao (ad ao (ad ao (ad ao (ad ao af)))))) (au (bt (aa 1) (ag (bA (ad ac (ad ac af))) (aa 2))) ac)) (aa 0)))))
   (av (aJ (aa 0))))),λds R h=>?_⟩)
 .obtain⟨_,_,rfl,_⟩:=h;rfl
 .obtain⟨p,n,rfl,wp,dp,hR⟩:=h;refine⟨by decide,⟨by lia,by lia⟩,λk z=>∃ (q:Pat) (o2:Option D),z=[be (.str q.text),be (.int n),o2]/\q.Wid 288/\q.depth<=k/\q.flags=p.flags,⟨p,_,rfl,wp,by lia,rfl⟩,?_,?_⟩
  .rintro k v z hk ⟨q,o2,rfl,wq,dq,fq⟩;k_places;obtain⟨AC,rfl⟩:=range_int hk;have tq:=Pat.syn_short wq.syn (by lia);obtain⟨m,em,hm⟩:∃ m:Int,atI [D.int 3,D.int 15] (k:Int)=be (.int m)/\3<=m/\m<=15:=by
    rcases(by lia:k=0\/k=1) with rfl|rfl
    .exact⟨3,rfl,by decide,by decide⟩
    .exact⟨15,rfl,by decide,by decide⟩
   obtain⟨h,q',e1,e2,e3,e4,e5,e6⟩:=wu (n / m) wq;refine⟨λx=>x= .str q'.text,⟨by show(5:Nat)<=1000;decide,by show(2:Nat)<=1000;decide,_,em,⟨by lia,by lia⟩,by decide,_,e1,by lia,by rw[e3]⟩,?_⟩;rintro _ rfl;k_places;exact⟨q',_,rfl,e4,by lia,e6.trans fq⟩
  rintro z ⟨q,o2,rfl,wq,dq,fq⟩;k_places;rw[gL] at dq;exact hR q wq (by lia) fq
abbrev jw(V:Bx):Prop:=V.D 1 "_law_motif_text" ic ul
def wD(T:V.T "_law_motif_text" ib ic)(AN:V.m "str"):jw V:=by
 refine Tx.okDW T sc__law_motif_text (λds R h=>?_) (λf cdv A outer s H E J hr=>⟨_,((ai (am 3 sc__law_motif_text.nd (aq (aq (aq (aq (aq (aq (aq ao (eo AN (ad (ag (aa 1) ac) af))) ao) (eo AN (ad (ag (aa 1) ac) af))) ao) (eo AN (ad (ag (aa 2) ac) af))) ao) (eo AN (ad (ag (aa 2) ac) af))))
   (av (aJ (aq (aq (aq ao (qP (aa 0))) (aa 3)) ao))))),λds R h=>?_⟩)
 .obtain⟨_,_,_,_,_,rfl,_⟩:=h;rfl
 .obtain⟨L,a,b,c,d,rfl,hL,ha,hb,hc,hd,hR⟩:=h;have la:=bD ha;have lb:=bD hb;have lc:=bD hc;have ld:=bD hd;have l1:(";":y8).length=1:=rfl;have l2:(",":y8).length=1:=rfl;have l3:("[":y8).length=1:=rfl;have l4:("]":y8).length=1:=rfl;have ls:=mw hL;have lj:=StrLaws.join_length_le "/" L;unfold B12 at ha hb hc hd;refine⟨λx=>x= .str ((((((((";":y8)++(toString a:String))++",")++(toString b:String))++";")++(toString c:String))++",")++(toString d:String)),⟨_,rfl,by lia,?_,?_,_,rfl,by lia,?_,?_,_,rfl,by lia,?_,?_,_,rfl,by lia,?_,rfl⟩,?_⟩
  .lia
  .rw[aw];lia
  .rw[aw,aw];lia
  .rw[aw,aw,aw];lia
  .rw[aw,aw,aw,aw];lia
  .rw[aw,aw,aw,aw,aw];lia
  .rw[aw,aw,aw,aw,aw,aw];lia
  rintro _ rfl;k_places;have lg:(Txt.join "/" L).length<=72:=by
   have e:Txt.join "/" L=Str.join "/" L:=StrLaws.glued_eq_join _ _;rw[e];exact xR lj ls
  refine⟨L,mv L,by lia,?_,?_,?_,hR⟩
  .lia
  .repeat rw[aw]
   lia
  .repeat rw[aw]
   lia
abbrev jx(V:Bx):Prop:=V.D 1 "_law_lines" ig uk
def wE(T:V.T "_law_lines" ie ig)(uC:V.m "range")(uG:V.m "len"):jx V:=by
 refine Tx.okDW T sc__law_lines (λds R h=>?_) (λf cdv A outer s H E J hr=>⟨_,((ai (am 1 sc__law_lines.nd (aq ac (au (ag (aa 0) ac) ac)))
   (ai (am 2 sc__law_lines.nd (aq ac (au (ag (aa 0) ac) ac)))
   (ai (gw (aZ (au (ag (aa 0) ac) ac) ac) (ai (am 1 sc__law_lines.nd (aq ac (au (ag (aa 0) ac) ac)))
    (av (am 2 sc__law_lines.nd (aq ac (au (ag (aa 0) ac) ac))))) bu)
   (ai (am 3 sc__law_lines.nd (ag (bA (ad ao (ad ao (ad ao (ad ao af))))) (au (ag (aa 0) ac) ac)))
   (ai (eg 4 sc__law_lines.nd af)
   (ai (cw 5 PassesOwn.never rfl sc__law_lines.nd uC (aa 2) (ai (am 6 sc__law_lines.nd ao)
    (ai (cw 7 PassesOwn.never rfl sc__law_lines.nd uC (aa 1) (ai (am 8 sc__law_lines.nd (aq (aI (aa 5) (aa 1)) (aa 7)))
     (ai (am 9 sc__law_lines.nd (au (bt (ag (aa 0) (aq ac (bt (aa 8) ac))) (ag (bA (ad ac (ad ac af))) (au (aa 8) ac))) ac))
     (av (am 6 sc__law_lines.nd (aq (aa 6) (ag (aa 3) (au (aa 9) (gq uG (ad (aa 3) af))))))))))
    (av (dF 4 (aa 6))))))
   (dZ 4 (av (aJ (aa 4))))))))))),λds R h=>?_⟩)
 .obtain⟨_,rfl,_⟩:=h;rfl
 .obtain⟨xs,rfl,hl,hd,hR⟩:=h;have q_:∀ k:Nat,k<40->atI (xs.map D.int) (k:Int)=be (.int (cell xs k)):=λk hk=>bO (by lia) (by simpa using(by lia:k<xs.length));have a0:atI (xs.map D.int) 0=be (.int (cell xs 0)):=q_ 0 (by decide);have a1:atI (xs.map D.int) 1=be (.int (cell xs 1)):=q_ 1 (by decide);have a2:atI (xs.map D.int) 2=be (.int (cell xs 2)):=q_ 2 (by decide);have a3:atI (xs.map D.int) 3=be (.int (cell xs 3)):=q_ 3 (by decide);clear hl;refine⟨λd=>∃ v:Int,d= .int v/\1<=v/\v<=8,⟨_,a0,by decide,_,rfl,by lia⟩,?_⟩;rintro _ ⟨w0,rfl,FQ⟩;k_places;refine⟨λd=>∃ v:Int,d= .int v/\1<=v/\v<=8,⟨_,a1,by decide,_,rfl,by lia⟩,?_⟩;rintro _ ⟨t0,rfl,Gv⟩;k_places;refine⟨λz=>∃ w t:Nat,z=[be (.lst (xs.map D.int)),be (.int w),be (.int t),t8,t8,t8,t8,t8,t8,t8]/\(1<=w/\w<=8)/\(1<=t/\t<=8),⟨_,a2,by decide,ite2 (λ_=>?_) (λ_=>?_)⟩,?_⟩
  .refine⟨λd=>∃ v:Nat,d= .int v/\1<=v/\v<=8,⟨_,a0,by decide,(1+cell xs 0 % 8).toNat,by rw[yH (by lia)],by lia⟩,?_⟩;rintro _ ⟨w,rfl,hw⟩;k_places;refine⟨λd=>∃ v:Nat,d= .int v/\1<=v/\v<=8,⟨_,a1,by decide,(1+cell xs 1 % 8).toNat,by rw[yH (by lia)],by lia⟩,?_⟩;rintro _ ⟨t,rfl,ht⟩;k_places;exact⟨w,t,rfl,hw,ht⟩
  .obtain⟨w,rfl⟩:∃ w:Nat,w0=(w:Int):=⟨w0.toNat,by lia⟩;obtain⟨t,rfl⟩:∃ t:Nat,t0=(t:Int):=⟨t0.toNat,by lia⟩;exact⟨w,t,rfl,by lia,by lia⟩
  rintro _ ⟨w,t,rfl,hw,ht⟩;k_places;obtain⟨sg,es,hs⟩:=ue (cell xs 3);refine⟨λd=>d= .str sg,⟨by simp,_,a3,by decide,_,es,rfl⟩,?_⟩;rintro _ rfl;k_places;refine⟨by simp,?_⟩;refine⟨⟨by lia,by lia⟩,λk z=>∃ (L:List y8) (o1 o2 o3 o4 o5:Option D),z=[be (.lst (xs.map D.int)),be (.int w),be (.int t),be (.str sg),be (.own (L.map D.str)),o1,o2,o3,o4,o5]/\L.length=k/\∀ l∈L,l.length=w/\∀ c∈cs l,isSign c,⟨[],_,_,_,_,_,rfl,rfl,(λx hx=>by cases hx)⟩,?_,?_⟩
  .rintro j x z hj ⟨L,o1,o2,o3,o4,o5,rfl,hL,n8⟩;k_places;have BV:j<t:=by simpa using(xO.mp hj).1
   have ex:x= .int (j:Int):=by simp[BV] at hj;exact hj.symm
   subst ex;refine⟨λd=>d= .str "",rfl,?_⟩;rintro _ rfl;k_places;refine⟨⟨by lia,by lia⟩,λi z=>∃ (ln:y8) (o3 o4 o5:Option D),z=[be (.lst (xs.map D.int)),be (.int w),be (.int t),be (.str sg),be (.own (L.map D.str)),be (.int j),be (.str ln),o3,o4,o5]/\ln.length=i/\∀ c∈cs ln,isSign c,⟨_,_,_,_,rfl,rfl,(λc hc=>by rw[tX] at hc;cases hc)⟩,?_,?_⟩
   .rintro i y z hi ⟨ln,o3,o4,o5,rfl,BY,C6⟩;k_places;have k8:i<w:=by simpa using(xO.mp hi).1
    have ey:y= .int (i:Int):=by simp[k8] at hi;exact hi.symm
    subst ey;have pb:=bg (a:=(j:Int)) (d:=(w:Int)) (A:=7) (B:=8) (by lia) (by lia);have pn:0<=(j:Int)*(w:Int):=Aa (by lia) (by lia);refine⟨λd=>∃ p:Nat,d= .int p/\p<=63,⟨.inl ⟨by lia,by lia⟩,((j:Int)*w+i).toNat,by rw[yH (by lia)],by lia⟩,?_⟩;rintro _ ⟨p,rfl,hp⟩;k_places;obtain⟨m,em,hm⟩:=uf (p:Int);have ap:=q_ (8+p / 2) (by lia);have ec:((8+p / 2:Nat):Int)=8+(p:Int) / 2:=by lia
    rw[ec] at ap;refine⟨λd=>∃ v:Int,d= .int v,⟨⟨by decide,by decide⟩,_,ap,by simp,by decide,_,em,⟨by lia,by lia⟩,by decide,_,rfl⟩,?_⟩;rintro _ ⟨v,rfl⟩;k_places;obtain⟨c,⟨h1,h2⟩,h3⟩:=tY hs v;refine⟨λd=>∃ x:y8,d= .str x/\x.length=i+1/\∀ c∈cs x,isSign c,⟨h1,by have:=hs.1;lia,c,⟨h1,h2⟩,?_,_,rfl,uh BY C6 h3⟩,?_⟩
    .rw[BY];show i+1<=1000000;lia
    rintro _ ⟨x,rfl,g1,g2⟩;k_places;exact⟨x,_,_,_,rfl,g1,g2⟩
   .rintro z ⟨ln,o3,o4,o5,rfl,BY,C6⟩;k_places;have C7:ln.length=w:=by simpa using BY
    refine⟨by simp[hL];lia,?_⟩;rw[ui];refine⟨_,_,_,_,_,_,rfl,by simp[hL],λl hl=>?_⟩;rcases yc.mp hl with q|q
    .exact n8 l q
    .rw[xF.mp q];exact⟨C7,C6⟩
  .rintro z ⟨L,o1,o2,o3,o4,o5,rfl,hL,n8⟩;k_places;exact hR L (Rows.of ht.1 ht.2 (by simpa using hL) hw.1 hw.2 n8)
abbrev fE(V:Bx):Prop:=V.E 1 "WrongSign" ij vJ
def wF(T:V.Te "WrongSign" "WrongSign.__init__" ii ij)(uY:V.b "MotifError")(uV:V.ea "WrongSign")(C8:V.xf "WrongSign" "place"):fE V:=by
 refine Txe.okE T vP (λds R h=>?_) (λf cdv A outer s H E J hr=>⟨_,((ly uY uV (ad (aa 1) af) (lz uV C8 (aa 1) lx))),λds R h=>?_⟩)
 .obtain⟨i,rfl,_⟩:=h;rfl
 .obtain⟨i,rfl,hR⟩:=h;exact⟨by show(1:Nat)<=1000;decide,rfl,hR⟩
abbrev cu(V:Bx):Prop:=V.Q 1 "Reading" "may_take" il uz
def wG(T:V.Tm "Reading" "may_take" "Reading.may_take" ik il)(uG:V.m "len")(uS:V.a "Reading" "text")(uD:V.a "Reading" "place"):cu V:=by
 refine Txm.okM T vQ (λds M R RX h=>?_) (λf cdv A outer s H E J hr hx=>⟨_,((ar (bC (mt_w (rO (gC (aQ uD (ah (aa 0))) (lP uG (aN (aQ uS (ah (aa 0))) aY))) (rM (rK (lL (aQ uS (ah (aa 0))) (aQ uD (ah (aa 0)))) (ah (aa 1)))))) (aA (aK (ah ao))) bv)
   (ar (eL uD (ah (aa 0)) (eH (aQ uD (ah (aa 0))) (ah ac)))
   (aA (aK (lL (aQ uS (ah (aa 0))) (rJ (aQ uD (ah (aa 0))) (ah ac)))))))),λds M R RX b8 h=>?_⟩)
 .obtain⟨_,_,_,_,_,rfl,_⟩:=h;rfl
 .obtain⟨a,t,k,l,al,rfl,rfl,d5,hR⟩:=h;refine⟨_,aG,_,cm,_,aG,_,gO,xR d5.sz (by decide),?_⟩;cases l with
  |nil=>
   refine ifdT (by rw[d5.nil]) (ifT rfl ?_);exact hR
  |cons c l=>
   have lt:=d5.lt;refine ifdF (by lia) ?_;refine⟨_,aG,_,gO,_,aG,_,cm,c,⟨xR d5.sz (by decide),dn d5.get⟩,?_⟩;refine ite2 (λe=>?_) (λe=>?_)
   .have e2:(!(!(Builtin.Str.occurrences al ⟨#[c]⟩ 0 al.length 1).isEmpty))=true:=e;rw[mK] at e2;have nc:c ∉ cs al:=by simpa using e2
    rw[cn nc,cq nc] at hR;exact hR
   .have e2:¬ (!(!(Builtin.Str.occurrences al ⟨#[c]⟩ 0 al.length 1).isEmpty))=true:=e;rw[mK] at e2;have nc:c∈cs al:=by simpa using e2
    rw[cG nc,cH nc] at hR;refine⟨_,aG,_,cm,_,aG,by show(2:Nat)<1000;decide,?_⟩;rw[show mput (RdM a t k) a (.ins "Reading" (putD ("place":y8) (.int ((k:Int)+1)) (rdF t k)))=RdM a t (k+1) by rw[ux];exact cZ];refine⟨_,aG,_,gO,_,aG,_,cm,c,⟨xR d5.sz (by decide),?_⟩,hR⟩;rw[show((k+1:Nat):Int) - 1=(k:Int) by lia];exact dn d5.get
abbrev bT(V:Bx):Prop:=V.Q 3 "Reading" "take" io va
def wH(T:V.Tm "Reading" "take" "Reading.take" im io)(uD:V.a "Reading" "place")(uF:cu V)(uJ:fE V):bT V:=by
 refine Txm.okM T sc_Reading_take (λds M R RX h=>?_) (λf cdv A outer s H E J hr hx=>⟨_,((ar (aP 2 sc_Reading_take.nd (aV (CalMth.one uF) hx hr (ah (aa 0)) (ax (ad (aa 1) af))))
   (ar (bC (bI (aZ (aa 2) ao)) (aA (gH uJ hr hx rfl (aN (aQ uD (ah (aa 0))) aY))) bv)
   (aA (aK (ah (aa 2))))))),λds M R RX b8 h=>?_⟩)
 .obtain⟨_,_,_,_,_,rfl,_⟩:=h;rfl
 .obtain⟨a,t,k,l,al,rfl,rfl,d5,hR,hX⟩:=h;refine⟨λd M'=>d= .str (mayS al l)/\M'=RdM a t (k+mayN al l),⟨_,xF.mpr rfl,_,aG,bZ,a,t,k,l,al,rfl,rfl,d5,rfl,rfl⟩,?_⟩;rintro _ _ ⟨rfl,rfl⟩;k_places;have no:(∀ c l',l=c::l'->c ∉ cs al)->mayS al l=""/\mayN al l=0:=λh=>by
   cases l with
   |nil=>exact⟨rfl,rfl⟩
   |cons c l=>exact⟨cn (h c l rfl),cq (h c l rfl)⟩
  by_cases h:∃ c l',l=c::l'/\c∈cs al
  .obtain⟨c,l',rfl,hc⟩:=h;rw[cG hc,cH hc];exact hR c l' rfl hc
  .have h':∀ c l',l=c::l'->c ∉ cs al:=λc l' e hc=>h ⟨c,l',e,hc⟩;obtain⟨e1,e2⟩:=no h';rw[e1,e2];refine⟨_,aG,_,cm,by show(1:Nat)<=1000;decide,(k:Int),rfl,?_⟩;rw[b8];exact hX h' _
abbrev jy(V:Bx):Prop:=V.MM 4 "line_from" iq vh
def wI(T:V.T "line_from" ip iq)(uC:V.m "range")(uW:V.gs "SIGNS" ".123456")(uA:bT V)(uF:cu V):jy V:=by
 refine Tx.okM T sc_line_from (λds M R RX h=>?_) (λf cdv A outer s H E J hr hx=>⟨_,((ar (aP 3 sc_line_from.nd (ah ao))
   (ar (su 4 PassesOwn.leaving rfl sc_line_from.nd uC (ah (aa 2)) (aA (aP 3 sc_line_from.nd (eH (ah (aa 3)) (gD (bI (dX (aa 4) (aa 1))) (aV (CalMth.one uA) hx hr (ah (aa 0)) (ax (ad (gx uW) af))) (aV (CalMth.one uF) hx hr (ah (aa 0)) (ax (ad (gx uW) af))))))))
   (aA (aK (ah (aa 3))))))),λds M R RX b8 h=>?_⟩)
 .obtain⟨_,_,_,_,_,_,rfl,_⟩:=h;rfl
 .obtain⟨a,t,k,l,n,m,rfl,rfl,d5,Gw,Gx,hR,hX⟩:=h;refine⟨λd M'=>d= .str ""/\M'=RdM a t k,⟨rfl,rfl⟩,?_⟩;rintro _ _ ⟨rfl,rfl⟩;k_places;refine⟨⟨by lia,by lia⟩,λi z M'=>i<=m/\∃ col,z=[be (.ptr a),be (.int n),be (.int m),be (.str ⟨(sgPre i l).toArray⟩),col]/\M'=RdM a t (k+(sgPre i l).length)/\min i n<=(sgPre i l).length,⟨yg _,t8,rfl,rfl,by simp⟩,?_,?_⟩
  .rintro i x z M' hi ⟨Gy,col,rfl,rfl,C9⟩;k_places;obtain⟨Bl,rfl⟩:=range_int hi;have Bl:i<m:=by lia
   have Gz:=eO i l;rcases sgPre_succ i l with⟨c,l',h1,h2,h3,h4⟩|⟨l',h1,h2,h3⟩
   .have c9:At t (k+(sgPre i l).length) (c::l'):=by have:=d5;rw[h1] at this;exact this.app
    refine⟨λd M'=>d= .str ⟨(sgPre (i+1) l).toArray⟩/\M'=RdM a t (k+(sgPre i l).length+1),?_,?_⟩
    .refine ite2 (λ_=>?_) (λ_=>?_)
     .refine⟨_,xF.mpr rfl,_,aG,bw,a,t,_,_,".123456",rfl,rfl,c9,λc' l2 e hc=>?_,λc_=>absurd (signs_is.mpr h3) (c_ c l' rfl)⟩;cases e;refine⟨by rw[cK,show(⟨#[c]⟩:y8).length=1 from rfl];lia,?_,rfl⟩;rw[show(⟨#[c]⟩:y8)=⟨[c].toArray⟩ from rfl,da,h4]
     .refine⟨_,xF.mpr rfl,_,aG,bZ,a,t,_,_,".123456",rfl,rfl,c9,?_⟩;rw[cG (signs_is.mpr h3),cH (signs_is.mpr h3)];refine⟨by rw[cK,show(⟨#[c]⟩:y8).length=1 from rfl];lia,?_,rfl⟩;rw[show(⟨#[c]⟩:y8)=⟨[c].toArray⟩ from rfl,da,h4]
    .rintro _ _ ⟨rfl,rfl⟩;k_places;refine⟨Bl,_,rfl,?_,?_⟩
     .rw[h4,xP];rfl
     .rw[h4,xP,h2];show _<=i+1;lia
   .have c9:At t (k+(sgPre i l).length) l':=by have:=d5;rw[h1] at this;exact this.app
    have c_:∀ c l2,l'=c::l2->c ∉ cs ".123456":=λc l2 q z=>by
     have:=h2 c l2 q;rw[signs_is.mp z] at this;cases this
    have r_:mayS ".123456" l'=""/\mayN ".123456" l'=0:=by
     cases l' with
     |nil=>exact⟨rfl,rfl⟩
     |cons c l2=>exact⟨cn (c_ c l2 rfl),cq (c_ c l2 rfl)⟩
    refine⟨λd M'=>d= .str ⟨(sgPre (i+1) l).toArray⟩/\M'=RdM a t (k+(sgPre i l).length)/\¬ i<n,?_,?_⟩
    .refine ite2 (λc=>?_) (λc=>?_)
     .have c':=of_decide_eq_true c;refine⟨_,xF.mpr rfl,_,aG,bw,a,t,_,_,".123456",rfl,rfl,c9,λc' l2 e hc=>absurd hc (c_ c' l2 e),λ_ M'=>?_⟩;rw[b8];have:=hX (by rw[h3 m (by lia)];lia) M';rw[h3 m (by lia)] at this;exact this
     .have c':¬ i<n:=λz=>c (decide_eq_true (by lia));refine⟨_,xF.mpr rfl,_,aG,bZ,a,t,_,_,".123456",rfl,rfl,c9,?_⟩;rw[r_.1,r_.2];refine⟨by rw[cK,show("":y8).length=0 from rfl];lia,?_,rfl,c'⟩;rw[show("":y8)=⟨([]:List Nat).toArray⟩ from rfl,da,yd,h3 (i+1) (by lia)]
    .rintro _ _ ⟨rfl,rfl,n8⟩;k_places;refine⟨Bl,_,rfl,by rw[h3 (i+1) (by lia)],?_⟩;rw[h3 (i+1) (by lia)];lia
  .intro z M' hz;rw[gL,Int.toNat_natCast] at hz;obtain⟨_,col,rfl,rfl,C9⟩:=hz;exact hR (by lia)
abbrev jz(V:Bx):Prop:=V.MM 5 "lines_from" iu vk
def wJ(T:V.T "lines_from" ir iu)(uG:V.m "len")(BZ:jy V)(B0:V.gi "LONGEST" 8)(uF:cu V):jz V:=by
  refine Tx.okM T sc_lines_from (λds M R RX h=>?_) (λf cdv A outer s H E J hr hx=>⟨_,((ar (aP 1 sc_lines_from.nd (rR (aN (aO (CalMM.frame BZ) hx hr (ax (ad (aa 0) (ad ac (ad (eu B0) af))))) aY)))
      (ar (aP 2 sc_lines_from.nd (lP uG (aN (sA (ah (aa 1)) (ah ac)) aY)))
      (ar (ss PassesOwn.leaving (mt_w (rN (lM (sy uG (ah (aa 1))) (ah (eu B0))) (rL (gC (aV (CalMth.one (CalMth.frame uF)) hx hr (ah (aa 0)) (ax (ad ao af))) (ah ao))))) (aA (bN (sC (ah (aa 1)) (aO (CalMM.frame BZ) hx hr (ax (ad (aa 0) (ad (aa 2) (ad (aa 2) af)))))))))
      (lW 1 (aA (aK (ah (aa 1))))))))),λds M R RX b8 h=>?_⟩)
  . obtain⟨_,_,_,_,rfl,_⟩:=h;rfl
  . obtain⟨a,t,k,l,rfl,rfl,d5,hR,hX⟩:=h;obtain⟨l1,x8,hg⟩:=sgPre_split 8 l;have Er:=sgPre_sign 8 l;have u9:=eO 8 l;refine⟨λd M'=>∃ p,p≠a/\1<=(sgPre 8 l).length/\d= .ptr p/\M'=(p,.lst [.str ⟨(sgPre 8 l).toArray⟩])::RdM a t (k+(sgPre 8 l).length),⟨[],RdM a t k,rfl,a,t,k,l,1,8,rfl,rfl,d5,by decide,by decide,λh1=>⟨by show 1<=1000;decide,λp hp=>?_⟩,λh1 M'=>?_⟩,?_⟩
    . exact⟨p,λe=>hp (by rw[e];exact xF.mpr rfl),h1,rfl,rfl⟩
    . rw[b8];refine hX _ (λr=>?_) _;have e0:sgPre 8 l=[]:=zw (by lia);rw[e0] at x8 hg ⊢;rw[x8];have:=mN (w:=1) (n:=0) (x:=[]) (l:=l1) (λc z=>nomatch z) (by decide) (by decide) (λ_=>rfl) (hg.resolve_left (by decide)) r k;refine walk_bad (λz=>nomatch z) λc l' q=>?_;rw[cF];unfold bX;rw[hg.resolve_left (by decide) c l' q,if_neg xK];exact if_pos (.inl rfl)
    rintro _ _ ⟨p,FR,h1,rfl,rfl⟩;k_places;refine⟨λd M'=>d= .int (sgPre 8 l).length/\M'=(p,.lst [.str ⟨(sgPre 8 l).toArray⟩])::RdM a t (k+(sgPre 8 l).length),⟨_,ca,_,rfl,by rw[cK];lia,by rw[cK],rfl⟩,?_⟩;rintro _ _ ⟨rfl,rfl⟩;k_places;refine⟨λm z M'=>∃ (L:List (List Nat)) (w0:Nat) (l2:List Nat),RowsL L (sgPre 8 l).length/\l=rowsL L++l2/\LinAt w0 (sgPre 8 l).length L.length l2/\(∀ r,walk (.lin 0 0 0::r) l k=walk (.lin w0 (sgPre 8 l).length (L.length - 1)::r) l2 (k+(rowsL L).length))/\m=8 - L.length/\z=[be (.ptr a),be (.ptr p),be (.int (sgPre 8 l).length)]/\M'=(p,.lst (lstD L))::RdM a t (k+(rowsL L).length),⟨7,[sgPre 8 l],0,l1,⟨by simp,h1,u9,λx hx=>?_⟩,x8,⟨h1,by simp,λ_=>hg,λz=>absurd z (by simp)⟩,λr=>?_,rfl,rfl,rfl⟩,?_⟩
    . rw[xF.mp hx];exact⟨rfl,Er⟩
    . have:=cY (w:=0) (k:=0) (r:=r) (sgPre 8 l) 0 l1 k Er (by simp;lia);rw[<- x8,zj] at this;exact this
    rintro m z M' ⟨L,w0,l2,hL,v_,AE,hw,rfl,rfl,rfl⟩;k_places;have q9:=hL.many;have i_:At t (k+(rowsL L).length) l2:=by have:=d5;rw[v_] at this;exact this.app
    have Bm:(lstD L).length=L.length:=by simp[lstD]
    have done:(L.length=8\/∀ l',l2≠47::l')->R (.lst (lstD L)) (RdM a t (k+(rowsL L).length)):=λst=>hR L _ l2 hL v_ λr=>by rw[hw r,vj AE (by lia) st]
    refine⟨_,ca,?_⟩;rw[Bm];refine ite2 (λc=>?_) (λc=>?_)
    . have c':L.length<8:=by have:=of_decide_eq_true c;lia
      refine⟨_,xF.mpr rfl,_,vi FR,bZ,[(p,_)],RdM a t _,rfl,a,t,_,l2,"/",rfl,rfl,i_,?_⟩;by_cases Es:∃ l',l2=47::l'
      . obtain⟨l3,rfl⟩:=Es;have Et:(47:Nat)∈cs "/":=by decide
        rw[cG Et,cH Et];obtain⟨l4,C_,FS⟩:=sgPre_split (sgPre 8 l).length l3;have Db:=sgPre_sign (sgPre 8 l).length l3;have FT:=eO (sgPre 8 l).length l3;refine⟨⟨_,ca⟩,[(p,_)],RdM a t _,rfl,a,t,_,l3,(sgPre 8 l).length,(sgPre 8 l).length,rfl,rfl,i_.next,xH _,u9,λh2=>?_,λh2 M'=>?_⟩
        . have b9:(sgPre (sgPre 8 l).length l3).length=(sgPre 8 l).length:=by lia
          refine⟨_,ca,by rw[Bm];lia,?_⟩;refine⟨8 - (L.length+1),by lia,L++[sgPre (sgPre 8 l).length l3],(sgPre 8 l).length,l4,⟨by rw[xP];simp;lia,h1,u9,λx hx=>?_⟩,?_,⟨h1,by rw[xP];simp,λz=>?_,λ_=>rfl⟩,λr=>?_,by rw[xP];rfl,rfl,?_⟩
          . rcases yc.mp hx with q|q
            . exact hL.each x q
            . rw[xF.mp q];exact⟨b9,Db⟩
          . rw[eQ L _ (λq=>by rw[q] at q9;simp at q9),ye,yl,<- C_];exact v_
          . rw[xP] at z;simp at z;rw[z] at q9;simp at q9
          . rw[hw r,mM AE c' r];have:=cY (w:=(sgPre 8 l).length) (k:=L.length) (r:=r) (sgPre (sgPre 8 l).length l3) 0 l4 (k+(rowsL L).length+1) Db (by rw[if_pos (by lia)];lia);rw[<- C_,zj,b9] at this;rw[this,eQ L _ (λq=>by rw[q] at q9;simp at q9),xP,xP];show walk (.lin _ _ L.length::r) l4 _=walk (.lin _ _ (L.length+1 - 1)::r) l4 _;congr 1;rw[xG,b9];lia
          . show mput ((p,MO.lst (lstD L))::RdM a t _) p _=_;rw[mL,eQ L _ (λq=>by rw[q] at q9;simp at q9)];show _::RdM a t _=_;congr 1
            . simp[lstD]
            . congr 1;simp;lia
        . rw[b8];refine hX _ (λr=>?_) _;rw[hw r,mM AE c' r];have:=mN (w:=(sgPre 8 l).length) (n:=L.length) Db h2 u9 (λq=>by lia) (FS.resolve_left (by lia)) r (k+(rowsL L).length+1);rw[<- C_] at this;exact this
      . have c_:∀ l',l2≠47::l':=λl' q=>Es ⟨l',q⟩;have r_:mayS "/" l2=""/\mayN "/" l2=0:=by
          cases l2 with
          |nil=>exact⟨rfl,rfl⟩
          |cons c l3=>
            have:c ∉ cs "/":=λq=>c_ l3 (by rw[show c=47 from xF.mp q]);exact⟨cn this,cq this⟩
        rw[r_.1,r_.2];refine⟨_,ca,?_⟩;rw[show mdel ([(p,MO.lst (lstD L))]++RdM a t (k+(rowsL L).length+0)) p=RdM a t (k+(rowsL L).length) from gQ];exact done (.inr c_)
    . have c':L.length=8:=by
        have:¬ ((L.length:Int)<8):=λz=>c (decide_eq_true z);lia
      refine⟨_,ca,?_⟩;rw[gQ];exact done (.inl c')
abbrev jA(V:Bx):Prop:=V.MM 4 "number_from" iw vf
def wK(T:V.T "number_from" iv iw)(uH:V.m "int")(uF:cu V)(uA:bT V):jA V:=by
  refine Tx.okM T sc_number_from (λds M R RX h=>?_) (λf cdv A outer s H E J hr hx=>⟨_,((ar (bC (gC (aV (CalMth.one uF) hx hr (ah (aa 0)) (ax (ad ao af))) (ah ao)) (aA (aK (ah ac))) bv)
      (ar (aP 1 sc_number_from.nd (eH (aV (CalMth.one uF) hx hr (ah (aa 0)) (ax (ad ao af))) (aV (CalMth.one uA) hx hr (ah (aa 0)) (ax (ad ao af)))))
      (ar (lV (bI (qy (rE (aa 1) (ad ao af)))) (aA (aP 1 sc_number_from.nd (eH (ah (aa 1)) (aV (CalMth.one uF) hx hr (ah (aa 0)) (ax (ad ao af)))))) bv)
      (aA (aK (ah (lp uH (ad (aa 1) af))))))))),λds M R RX b8 h=>?_⟩)
  . obtain⟨_,_,_,_,rfl,_⟩:=h;rfl
  . obtain⟨a,t,k,l,rfl,rfl,d5,hR,hX⟩:=h;refine⟨_,xF.mpr rfl,_,aG,bZ,a,t,k,l,"0",rfl,rfl,d5,?_⟩;by_cases z0:∃ l',l=48::l'
    . obtain⟨l',rfl⟩:=z0;have e0:(48:Nat)∈cs "0":=by decide
      rw[cG e0,cH e0];refine hR 0 l' (by unfold B12;lia) ?_ λe r=>?_
      . rw[show numL 0=[48] by decide+kernel];rfl
      . rw[show numL 0=[48] by decide+kernel,ay (st':= .sign e::r) (by simp[step,aB,aC])];rfl
    have n0:mayS "0" l=""/\mayN "0" l=0:=by
      cases l with
      |nil=>exact⟨rfl,rfl⟩
      |cons c l=>
        have:c ∉ cs "0":=λq=>z0 ⟨l,by rw[show c=48 from xF.mp q]⟩;exact⟨cn this,cq this⟩
    rw[n0.1,n0.2];obtain⟨pre,l1,hp,rfl,hS,hN,h0⟩:∃ pre l1,(pre=[]\/pre=[45])/\l=pre++l1/\mayS "-" l=⟨pre.toArray⟩/\mayN "-" l=pre.length/\(pre=[]->∀ c l',l1=c::l'->c≠48/\c≠45):=by
      by_cases z1:∃ l',l=45::l'
      . obtain⟨l',rfl⟩:=z1;exact⟨[45],l',.inr rfl,rfl,rfl,rfl,λq=>nomatch q⟩
      . refine⟨[],l,.inl rfl,rfl,?_⟩;cases l with
        |nil=>exact⟨rfl,rfl,λ_ c l' q=>nomatch q⟩
        |cons c l=>
          have:c ∉ cs "-":=λq=>z1 ⟨l,by rw[show c=45 from xF.mp q]⟩;refine⟨cn this,cq this,λ_ c' l' q=>?_⟩;cases q;exact⟨λe=>z0 ⟨l,by rw[e]⟩,λe=>z1 ⟨l,by rw[e]⟩⟩
    have c9:=d5.app;refine⟨λd M'=>∃ c l2,l1=c::l2/\(49<=c/\c<=57)/\d= .str ⟨(pre++[c]).toArray⟩/\M'=RdM a t (k+pre.length+1),?_,?_⟩
    . refine⟨_,xF.mpr rfl,_,aG,bZ,a,t,k,_,"-",rfl,rfl,d5,?_⟩;rw[hS,hN];refine⟨_,xF.mpr rfl,_,aG,bw,a,t,k+pre.length,l1,"123456789",rfl,rfl,c9,λc l2 e hc=>?_,λc_ M'=>?_⟩
      . refine⟨?_,c,l2,e,digits19.mp hc,?_,rfl⟩
        . rcases hp with rfl|rfl<;>simp[Str.length]
        . rw[show(⟨#[c]⟩:y8)=⟨[c].toArray⟩ from rfl,da]
      . rw[b8];exact hX _ (vd hp rfl (λc l' q=>λz=>c_ c l' q (digits19.mpr z)) h0 k) M'
    . rintro _ _ ⟨c,l2,rfl,hc,rfl,rfl⟩;k_places;have i_:=c9.next;refine⟨λz M'=>∃ x l3,((c=49/\∃ d,(48<=d/\d<=50)/\x=[d])\/(x=[]/\(c=49->∀ d l',l3=d::l'->¬ (48<=d/\d<=50))))/\l2=x++l3/\z=[be (.ptr a),be (.str ⟨(pre++c::x).toArray⟩)]/\M'=RdM a t (k+pre.length+1+x.length),?_,?_⟩
      . show if Txt.endswith ⟨(pre++[c]).toArray⟩ "1"=true then _ else _
        rw[ve];refine ite2 (λe=>?_) (λe=>?_)
        . have e':=of_decide_eq_true e;by_cases z2:∃ d l3,l2=d::l3/\(48<=d/\d<=50)
          . obtain⟨d,l3,rfl,hd⟩:=z2;refine⟨λv M'=>v= .str ⟨(pre++[c,d]).toArray⟩/\M'=RdM a t (k+pre.length+1+1),⟨_,xF.mpr rfl,_,aG,bZ,a,t,_,_,"012",rfl,rfl,i_,?_⟩,?_⟩
            . rw[cG (digits02.mpr hd),cH (digits02.mpr hd)];refine⟨?_,?_,rfl⟩
              . rcases hp with rfl|rfl<;>simp[Str.length]
              . rw[show(⟨#[d]⟩:y8)=⟨[d].toArray⟩ from rfl,da];simp
            . rintro _ _ ⟨rfl,rfl⟩;k_places;exact⟨[d],l3,.inl ⟨e',d,hd,rfl⟩,rfl,rfl,rfl⟩
          . have c_:∀ d l',l2=d::l'->¬ (48<=d/\d<=50):=λd l' q z=>z2 ⟨d,l',q,z⟩;have hm:mayS "012" l2=""/\mayN "012" l2=0:=by
              cases l2 with
              |nil=>exact⟨rfl,rfl⟩
              |cons d l2=>exact⟨cn (λq=>c_ d l2 rfl (digits02.mp q)),cq (λq=>c_ d l2 rfl (digits02.mp q))⟩
            refine⟨λv M'=>v= .str ⟨(pre++[c]).toArray⟩/\M'=RdM a t (k+pre.length+1),⟨_,xF.mpr rfl,_,aG,bZ,a,t,_,_,"012",rfl,rfl,i_,?_⟩,?_⟩
            . rw[hm.1,hm.2];refine⟨?_,?_,rfl⟩
              . rcases hp with rfl|rfl<;>simp[Str.length,show(Str.ofString "").cps.size=0 from rfl]
              . rw[show("":y8)=⟨([]:List Nat).toArray⟩ from rfl,da];simp
            . rintro _ _ ⟨rfl,rfl⟩;k_places;exact⟨[],l2,.inr ⟨rfl,λ_=>c_⟩,rfl,rfl,rfl⟩
        . have e':¬ c=49:=λz=>e (decide_eq_true z);exact⟨[],l2,.inr ⟨rfl,λz=>absurd z e'⟩,rfl,rfl,rfl⟩
      . rintro _ _ ⟨x,l3,hx,rfl,rfl,rfl⟩;k_places;have hn:isNumL (pre++c::x):=by
          rcases hx with⟨rfl,d,hd,rfl⟩|⟨rfl,_⟩
          . rcases hp with rfl|rfl
            . exact .inr (.inl ⟨d,hd,rfl⟩)
            . exact .inr (.inr (.inr ⟨d,hd,rfl⟩))
          . rcases hp with rfl|rfl
            . exact .inl ⟨c,by lia,rfl⟩
            . exact .inr (.inr (.inl ⟨c,hc,rfl⟩))
        obtain⟨v,hv,ev⟩:=ut hn;refine⟨v,⟨?_,?_⟩,?_⟩
        . rw[<- ev];exact gP hv
        . rw[<- ev];have:=bD hv;rw[<- bP] at this ⊢;show(numL v).length<=640;exact xR this (by decide)
        . have:=hR v l3 hv (by rw[ev];simp) λe r=>by rw[ev];exact vc hp hc hx k e r rfl
          rw[ev] at this;have e2:k+(pre++c::x).length=k+pre.length+1+x.length:=by simp;lia
          rw[e2] at this;exact this
abbrev dN(V:Bx):Prop:=V.MM 5 "shift_from" iz vg
def wL(T:V.T "shift_from" iy iz)(B1:jA V)(uA:bT V):dN V:=by
 refine Tx.okM T sc_shift_from (λds M R RX h=>?_) (λf cdv A outer s H E J hr hx=>⟨_,((ar (aP 1 sc_shift_from.nd (aO B1 hx hr (ax (ad (aa 0) af))))
   (ar (bN (aV (CalMth.one uA) hx hr (ah (aa 0)) (ax (ad ao af))))
   (aA (aK (rQ (aN (ah (aa 1)) (aN (aO B1 hx hr (ax (ad (aa 0) af))) aY)))))))),λds M R RX b8 h=>?_⟩)
 .obtain⟨_,_,_,_,rfl,_⟩:=h;rfl
 .obtain⟨a,t,k,l,rfl,rfl,d5,hR,hX⟩:=h;refine⟨λd M'=>∃ x l1,B12 x/\l=numL x++l1/\(∀ e r,walk (.num:: .sign e::r) l k=walk (.sign e::r) l1 (k+(numL x).length))/\d= .int x/\M'=RdM a t (k+(numL x).length),⟨a,t,k,l,rfl,rfl,d5,λx l' hx e hw=>⟨x,l',hx,e,hw,rfl,rfl⟩,λj hj M'=>?_⟩,?_⟩
  .rw[b8];exact hX j (λr=>hj _) M'
  rintro _ _ ⟨x,l1,e9,rfl,m7,rfl,rfl⟩;k_places;have c9:=d5.app;refine⟨_,xF.mpr rfl,_,aG,bw,a,t,_,l1,",",rfl,rfl,c9,λc l2 e hc=>?_,λc_ M'=>?_⟩
  .have ec:c=44:=xF.mp hc;subst ec;subst e;refine⟨a,t,_,l2,rfl,rfl,c9.next,λy l' hy e hw=>?_,λj hj M'=>?_⟩
   .subst e;refine⟨by simp,hR x y l' e9 hy rfl λe r=>?_⟩;rw[m7 44 _,cJ,hw e r]
   .rw[b8];refine hX j (λr=>?_) M';rw[m7 44 _,cJ,hj]
  .rw[b8];refine hX _ (λr=>?_) M';rw[m7 44 _,cI λl' q=>c_ 44 l' q (by decide)]
abbrev fF(V:Bx):Prop:=V.D 1 "levelled" iB tO
def wM(T:V.T "levelled" iA iB):fF V:=by
 refine Tx.okDW T sc_levelled (λds R h=>?_) (λf cdv A outer s H E J hr=>⟨_,((ai (qJ PassesOwn.never (kX (ag (aa 1) ac) ac) (ai (am 2 sc_levelled.nd (qk (ag (aa 0) ac) (ag (aa 1) ac)))
    (ai (am 3 sc_levelled.nd (aM (ad (bp (ag (aa 0) ac) (aI (aa 2) (ag (aa 1) ac))) (ad (bp (ag (aa 0) ac) (aI (aa 2) (ag (aa 1) ac))) af))))
    (ai (am 0 sc_levelled.nd (aa 1))
    (av (am 1 sc_levelled.nd (aa 3)))))))
   (ai (gw (dX (ag (aa 0) ac) ac) (av (am 0 sc_levelled.nd (aM (ad (bU (ag (aa 0) ac)) (ad (bU (ag (aa 0) ac)) af))))) bu)
   (av (aJ (aM (ad (aa 0) (ad (aa 1) af)))))))),λds R h=>?_⟩)
 .obtain⟨a,b,c,d,rfl,_⟩:=h;rfl
 .obtain⟨a,b,c,d,rfl,hb,hd,hR⟩:=h;refine⟨λm z=>∃ (f0 f1 s0 s1:Int) (t r:Option D),z=[be (.tup [.int f0,.int f1]),be (.tup [.int s0,.int s1]),t,r]/\Uni a b c d f0 f1 s0 s1/\f1.natAbs<4611686018427387904/\s1.natAbs<4611686018427387904/\m=s1.natAbs,⟨_,a,b,c,d,t8,t8,rfl,Uni.refl a b c d,hb,hd,rfl⟩,?_⟩;rintro m z ⟨f0,f1,s0,s1,t,r,rfl,hu,hf,hs,rfl⟩;k_places;refine⟨_,rfl,ite2 (λcc=>?_) (λcc=>?_)⟩
  .have c':¬ s1=0:=by simpa using cc
   obtain⟨g1,g2⟩:=fdm f1 s1 c';refine⟨λd=>d= .int (f1.fdiv s1),⟨_,rfl,_,rfl,⟨c',hs⟩,rfl⟩,?_⟩;rintro _ rfl;k_places;refine⟨λd=>d= .tup [.int (f0 - f1.fdiv s1*s0),.int (f1 - f1.fdiv s1*s1)],⟨_,rfl,_,rfl,.inl ⟨by lia,by lia⟩,_,rfl,_,rfl,.inl ⟨by lia,by lia⟩,by simp,rfl⟩,?_⟩;rintro _ rfl;k_places;refine⟨λd=>d= .tup [.int s0,.int s1],rfl,?_⟩;rintro _ rfl;k_places;refine⟨λd=>d= .tup [.int (f0 - f1.fdiv s1*s0),.int (f1 - f1.fdiv s1*s1)],rfl,?_⟩;rintro _ rfl;k_places;exact⟨_,g1,s0,s1,_,_,_,_,rfl,hu.step _,hs,by lia,rfl⟩
  .have c':s1=0:=by simpa using cc
   subst c';refine⟨λz=>∃ p0 p1:Int,z=[be (.tup [.int p0,.int p1]),be (.tup [.int s0,.int 0]),t,r]/\Lev a b c d p0 p1 s0,⟨_,rfl,ite2 (λe=>?_) (λe=>?_)⟩,?_⟩
   .have e':=of_decide_eq_true e;refine⟨λd=>d= .tup [.int (-f0),.int (-f1)],⟨_,rfl,_,rfl,by simp,rfl⟩,?_⟩;rintro _ rfl;k_places;exact⟨_,_,rfl,by lia,hu.neg⟩
   .have e':=of_decide_eq_false (yR.mpr e);exact⟨_,_,rfl,by lia,hu⟩
   .rintro _ ⟨p0,p1,rfl,hL⟩;k_places;exact⟨by simp,hR p0 p1 s0 hL⟩
abbrev fG(V:Bx):Prop:=V.D 2 "spread" iD tQ
def wN(T:V.T "spread" iC iD)(Dc:V.m "abs")(AO:fF V):fG V:=by
 refine Tx.okDW T sc_spread (λds R h=>?_) (λf cdv A outer s H E J hr=>⟨_,((ai (bM (aZ (aI (ag (aa 0) ac) (ag (aa 1) ac)) (aI (ag (aa 0) ac) (ag (aa 1) ac))) (av (aJ gl)) bu)
   (ai (am 2 sc_spread.nd (aS AO hr (ad (aa 0) (ad (aa 1) af))))
   (ai (am 3 sc_spread.nd (qv Dc (ad (ag (ag (aa 2) ac) ac) af)))
   (av (aJ (aM (ad (aa 3) (ad (ag (ag (aa 2) ac) ac) (ad (au (ag (ag (aa 2) ac) ac) (aa 3)) af)))))))))),λds R h=>?_⟩)
 .obtain⟨a,b,c,d,rfl,_⟩:=h;rfl
 .obtain⟨a,b,c,d,rfl,ha,hb,hc,hd,hN,hR⟩:=h;refine⟨_,rfl,_,rfl,.inl ⟨by lia,by lia⟩,_,rfl,_,rfl,.inl ⟨by lia,by lia⟩,ite2 (λe=>?_) (λe=>?_)⟩
  .exact hN (of_decide_eq_true e)
  .have e':=of_decide_eq_false (yR.mpr e);refine⟨λx=>∃ p0 p1 q0:Int,x= .tup [.tup [.int p0,.int p1],.tup [.int q0,.int 0]]/\Lev a b c d p0 p1 q0,⟨a,b,c,d,rfl,hb,hd,λp0 p1 q0 hL=>⟨p0,p1,q0,rfl,hL⟩⟩,?_⟩;rintro _ ⟨p0,p1,q0,rfl,hL⟩;k_places;have hF:=eM e' hL;refine⟨λx=>x= .int (if q0<0 then -q0 else q0),⟨_,rfl,_,rfl,rfl⟩,?_⟩;rintro _ rfl;k_places;exact⟨_,rfl,_,rfl,_,rfl,_,rfl,hF.1,by simp,hR e' _ _ _ hF⟩
abbrev jB(V:Bx):Prop:=V.D 1 "home" iF tN
def wO(T:V.T "home" iE iF):jB V:=by
 refine Tx.okDW T sc_home (λds R h=>?_) (λf cdv A outer s H E J hr=>⟨_,((ai (am 3 sc_home.nd (ag (aa 0) ac))
   (ai (am 4 sc_home.nd (ag (aa 0) ac))
   (ai (am 5 sc_home.nd (ag (aa 0) ac))
   (av (aJ (aM (ad (au (bp (aa 1) (aI (bt (aa 2) (aa 4)) (aa 5))) (aa 3)) (ad (au (aa 2) (aa 4)) af))))))))),λds R h=>?_⟩)
 .obtain⟨w,h,s,x,y,rfl,_⟩:=h;rfl
 .obtain⟨w,h,s,x,y,rfl,hw,hh,w9,hs,h_,hR⟩:=h;refine⟨λd=>d= .int w,⟨_,rfl,rfl⟩,?_⟩;rintro _ rfl;k_places;refine⟨λd=>d= .int h,⟨_,rfl,rfl⟩,?_⟩;rintro _ rfl;k_places;refine⟨λd=>d= .int s,⟨_,rfl,rfl⟩,?_⟩;rintro _ rfl;k_places;exact⟨⟨hh,w9⟩,.inr ⟨by lia,by lia⟩,hw,hh,by simp,hR⟩
abbrev jC(V:Bx):Prop:=V.MM 2 "hues_by_home" iH vp
def wP(T:V.T "hues_by_home" iG iH)(B2:V.m "enumerate")(Dd:jB V)(uW:V.gs "SIGNS" ".123456"):jC V:=by
 refine Tx.okM T sc_hues_by_home (λds M R RX h=>?_) (λf cdv A outer s H E J hr hx=>⟨_,((ar (aP 2 sc_hues_by_home.nd sQ)
   (ar (sJ PassesOwn.leaving rfl B2 (ah (aa 0)) (dg_cons 3 sc_hues_by_home.nd (dg_cons 4 sc_hues_by_home.nd el)) (aA (sK PassesOwn.leaving rfl B2 (ah (aa 4)) (dg_cons 5 sc_hues_by_home.nd (dg_cons 6 sc_hues_by_home.nd el)) (aA (lV (bI (kX (aa 6) ao)) (aA (bN (sR (pN hr) (ah (aa 2)) (ax (ad (aS Dd hr (ad (aa 1) (ad (aa 5) (ad (aa 3) af)))) (ad (rG (gx uW) (ad (aa 6) af)) af)))))) bv)))))
   (lW 2 (aA (aK (ah (aa 2)))))))),λds M R RX b8 h=>?_⟩)
 .obtain⟨_,_,_,_,_,rfl,_⟩:=h;rfl
 .obtain⟨L,wd,w,h,s,rfl,hL,hw,hh,w9,hs,h_,hR⟩:=h;have GA:=hL.w8;refine⟨λd M'=>∃ p,p ∉ ak M/\d= .ptr p/\M'=(p,.dti [])::M,λp hp=>⟨p,hp,rfl,rfl⟩,?_⟩;rintro _ _ ⟨p,hp,rfl,rfl⟩;k_places;refine⟨λj z M'=>∃ (kv:List ((Int × Int) × Int)) (x3 x4 x5 x6:Option D),hAll w h s j (L.drop j) kv=hAll w h s 0 L []/\kv.length<=8*j/\z=[be (.lst (lstD L)),be (.tup [.int w,.int h,.int s]),be (.ptr p),x3,x4,x5,x6]/\M'=(p,.dti kv)::M,⟨[],t8,t8,t8,t8,rfl,by simp,rfl,rfl⟩,?_,?_⟩
  .rintro j d z M' hd ⟨kv,x3,x4,x5,x6,e1,FU,rfl,rfl⟩;k_places;obtain⟨x,e9,rfl⟩:=vn hd;have hj:j<L.length:=(xO.mp e9).1;have GB:=hL.many;obtain⟨xl,xs⟩:=hL.each x (zo e9);rw[mQ e9] at e1;refine⟨vm xs,λi z M'=>∃ (u_:List ((Int × Int) × Int)) (x5 x6:Option D),hRow w h s j i (x.drop i) u_=hRow w h s j 0 x kv/\u_.length<=8*j+i/\i<=x.length/\z=[be (.lst (lstD L)),be (.tup [.int w,.int h,.int s]),be (.ptr p),be (.int j),be (.str ⟨x.toArray⟩),x5,x6]/\M'=(p,.dti u_)::M,⟨kv,x5,x6,rfl,by lia,yg _,rfl,rfl⟩,?_,?_⟩
   .rintro i d z M' BI ⟨u_,y5,y6,e2,De,hi,rfl,rfl⟩;k_places;obtain⟨c,hc,rfl⟩:=vo BI;have Bl:i<x.length:=(xO.mp hc).1;have sc:=xs c (zo hc);rw[mQ hc,hRow] at e2;refine⟨λz M'=>∃ Bn:List ((Int × Int) × Int),hRow w h s j (i+1) (x.drop (i+1)) Bn=hRow w h s j 0 x kv/\Bn.length<=8*j+(i+1)/\z=[be (.lst (lstD L)),be (.tup [.int w,.int h,.int s]),be (.ptr p),be (.int j),be (.str ⟨x.toArray⟩),be (.int i),be (.str ⟨#[c]⟩)]/\M'=(p,.dti Bn)::M,?_,?_⟩
    .show if(!decide ((⟨#[c]⟩:y8)="."))=true then _ else _;by_cases Df:c=46
     .subst Df;rw[if_pos rfl] at e2;exact⟨u_,e2,by lia,rfl,rfl⟩
     .rw[if_neg Df] at e2;refine ifT (by simp[um,Df]) ?_;have c6:49<=c/\c<=54:=by unfold isSign at sc;lia
      obtain⟨ix,rest,ho,FV⟩:=vl c6;refine⟨⟨_,ca⟩,w,h,s,i,j,rfl,hw,hh,w9,hs,h_,ix,rest,ho,_,ca,by have:=mO u_ (hmX w h s i j) ((j:Int) % h) ((c:Int) - 48);lia,λv=>?_⟩;rw[mL,FV];exact⟨_,e2,by have:=mO u_ (hmX w h s i j) ((j:Int) % h) ((c:Int) - 48);lia,rfl,rfl⟩
    .rintro z M' ⟨Bn,e3,h3,rfl,rfl⟩;k_places;exact⟨Bn,_,_,e3,h3,Bl,rfl,rfl⟩
   .rintro z M' hz;rw[lH,cK] at hz;obtain⟨u_,y5,y6,e2,De,hi,rfl,rfl⟩:=hz;rw[zH] at e2;refine⟨u_,_,_,_,_,?_,by lia,rfl,rfl⟩;rw[<- e1,hAll,<- e2];rfl
  .rintro z M' hz;rw[show(lstD L).length=L.length by simp[lstD]] at hz;obtain⟨kv,x3,x4,x5,x6,e1,FU,rfl,rfl⟩:=hz;rw[zH] at e1;refine⟨_,ca,?_⟩;rw[gQ];have e2:kv=hAll w h s 0 L []:=e1;rw[<- e2] at hR;exact hR
abbrev jD(V:Bx):Prop:=V.M 3 "Motif" iJ vq
def wQ(T:V.Ti "Motif" "Motif.__init__" iI iJ)(uZ:fG V)(Dg:jC V)(uU:V.a "Motif" "place")(uI:V.a "Motif" "shifts")(Dh:V.a "Motif" "hues"):jD V:=by
 refine Txi.okIM T vR (λds R h=>?_) (λf cdv A outer s H E J hr hx=>⟨_,((ar (eL uU (ah (aa 0)) (ah (aa 1)))
   (ar (eL uI (ah (aa 0)) (ah (aS uZ hr (ad (aa 3) (ad (aa 4) af)))))
   (aA (eL Dh (ah (aa 0)) (gD (lN (aQ uI (ah (aa 0))) (ah gl)) sP (aO Dg hx hr (aN (ah (aa 2)) (aN (aQ uI (ah (aa 0))) aY))))))))),λa ds R c_ h=>?_⟩)
 .obtain⟨_,_,_,_,_,_,_,rfl,_⟩:=h;rfl
 .obtain⟨k,L,wd,x,y,u,v,rfl,hL,e9,hy,hu,hv,h0,h1⟩:=h;unfold B12 at e9 hy hu hv;refine⟨_,bR,by show(0:Nat)<1000;decide,?_⟩;rw[cZ,vt];refine⟨x,y,u,v,rfl,by lia,by lia,by lia,by lia,λe=>?_,λe w h s F=>?_⟩
  .refine⟨_,bR,by show(1:Nat)<1000;decide,?_⟩;rw[cZ,mR];refine⟨_,bR,_,gR,?_⟩;refine⟨_,bR,by show(2:Nat)<1000;decide,?_⟩;rw[cZ,mU];exact⟨_,rfl,h0 e⟩
  .refine⟨_,bR,by show(1:Nat)<1000;decide,?_⟩;rw[cZ,mR];refine⟨_,bR,_,gR,?_⟩;obtain⟨b1,b2,b3⟩:=F.bd (N:=288) (by
    have m1:=bg (a:=x) (d:=v) (A:=12) (B:=12) (by lia) (by lia);have m2:=bg (a:=y) (d:=u) (A:=12) (B:=12) (by lia) (by lia);lia)
   refine⟨_,bR,_,gR,L,wd,w,h,s,rfl,hL,F.1,F.2.1,by lia,F.2.2.1,by lia,?_⟩;refine⟨_,bR,by show(2:Nat)<1000;decide,?_⟩;rw[cZ,mU];exact⟨_,rfl,h1 e w h s F⟩
abbrev fH(V:Bx):Prop:=V.MM 6 "motif_from" iL vA
def wR(T:V.T "motif_from" iK iL)(Di:jz V)(uM:dN V)(uD:V.a "Reading" "place")(Dj:jD V)(uA:bT V):fH V:=by
  refine Tx.okM T sc_motif_from (λds M R RX h=>?_) (λf cdv A outer s H E J hr hx=>⟨_,((ar (aP 1 sc_motif_from.nd (aQ uD (ah (aa 0))))
      (ar (bN (aV (CalMth.one uA) hx hr (ah (aa 0)) (ax (ad ao af))))
      (ar (aP 2 sc_motif_from.nd (aO Di hx hr (ax (ad (aa 0) af))))
      (ar (bN (aV (CalMth.one uA) hx hr (ah (aa 0)) (ax (ad ao af))))
      (ar (aP 3 sc_motif_from.nd (aO uM hx hr (ax (ad (aa 0) af))))
      (ar (bN (aV (CalMth.one uA) hx hr (ah (aa 0)) (ax (ad ao af))))
      (ar (aP 4 sc_motif_from.nd (aO uM hx hr (ax (ad (aa 0) af))))
      (ar (bN (aV (CalMth.one uA) hx hr (ah (aa 0)) (ax (ad ao af))))
      (aA (aK (ah (gy Dj hr (ad (aa 1) (ad (aa 2) (ad (aa 3) (ad (aa 4) af))))))))))))))))),λds M R RX b8 h=>?_⟩)
  . obtain⟨_,_,_,_,rfl,_⟩:=h;rfl
  . obtain⟨a,t,k,l,rfl,rfl,d5,hR,hX⟩:=h;refine⟨λd M'=>d= .int k/\M'=RdM a t k,⟨_,aG,_,cm,rfl,rfl⟩,?_⟩;rintro _ _ ⟨rfl,rfl⟩;k_places;refine⟨_,xF.mpr rfl,_,aG,bw,a,t,_,l,"[",rfl,rfl,d5,λc l1 e hc=>?_,λc_ M'=>?_⟩
    . have ec:c=91:=xF.mp hc;subst ec;subst e;have hb:∀ r,walk (.pat 5::r) (91::l1) k=walk (motW r) l1 (k+1):=λr=>ay (by rw[bn];rfl);refine⟨λd M'=>∃ (L:List (List Nat)) (w:Nat) (l2:List Nat),RowsL L w/\l1=rowsL L++l2/\(∀ r,walk (.lin 0 0 0::r) l1 (k+1)=walk (.sign 59::r) l2 (k+1+(rowsL L).length))/\d= .lst (lstD L)/\M'=RdM a t (k+1+(rowsL L).length),⟨a,t,_,l1,rfl,rfl,d5.next,λL w l' h1 h2 h3=>⟨L,w,l',h1,h2,h3,rfl,rfl⟩,λj hj M'=>?_⟩,?_⟩
      . rw[b8];exact hX j (λr=>by rw[hb];exact hj _) M'
      rintro _ _ ⟨L,w,l2,hL,rfl,w_,rfl,rfl⟩;k_places;have i_:=d5.next.app;have Bj:∀ r,walk (.pat 5::r) (91::(rowsL L++l2)) k=walk (.sign 59:: .num:: .sign 44:: .num:: .sign 59:: .num:: .sign 44:: .num:: .sign 93::r) l2 (k+1+(rowsL L).length):=λr=>by rw[hb];exact w_ _
      refine⟨_,xF.mpr rfl,_,aG,bw,a,t,_,l2,";",rfl,rfl,i_,λc l3 e hc=>?_,λc_ M'=>?_⟩
      . have ec:c=59:=xF.mp hc;subst ec;subst e;have v4:=i_.next;have Dk:∀ r,walk (.pat 5::r) (91::(rowsL L++59::l3)) k=walk (.num:: .sign 44:: .num:: .sign 59:: .num:: .sign 44:: .num:: .sign 93::r) l3 (k+1+(rowsL L).length+1):=λr=>by rw[Bj,cJ]
        refine⟨λd M'=>∃ x y l4,B12 x/\B12 y/\l3=numL x++44::(numL y++l4)/\(∀ e r,walk (.num:: .sign 44:: .num:: .sign e::r) l3 (k+1+(rowsL L).length+1)=walk (.sign e::r) l4 (k+1+(rowsL L).length+1+(numL x).length+1+(numL y).length))/\d= .tup [.int x,.int y]/\M'=RdM a t (k+1+(rowsL L).length+1+(numL x).length+1+(numL y).length),⟨a,t,_,l3,rfl,rfl,v4,λx y l' h1 h2 h3 h4=>⟨x,y,l',h1,h2,h3,h4,rfl,rfl⟩,λj hj M'=>?_⟩,?_⟩
        . rw[b8];exact hX j (λr=>by rw[Dk];exact hj _) M'
        rintro _ _ ⟨x,y,l4,e9,hy,rfl,Eu,rfl,rfl⟩;k_places;have Bo:At t (k+1+(rowsL L).length+1+(numL x).length+1+(numL y).length) l4:=v4.app.next.app;refine⟨_,xF.mpr rfl,_,aG,bw,a,t,_,l4,";",rfl,rfl,Bo,λc l5 e hc=>?_,λc_ M'=>?_⟩
        . have ec:c=59:=xF.mp hc;subst ec;subst e;have Bp:=Bo.next;have Ev:∀ r,walk (.pat 5::r) (91::(rowsL L++59::(numL x++44::(numL y++59::l5)))) k=walk (.num:: .sign 44:: .num:: .sign 93::r) l5 (k+1+(rowsL L).length+1+(numL x).length+1+(numL y).length+1):=λr=>by rw[Dk,Eu,cJ]
          refine⟨λd M'=>∃ u v l6,B12 u/\B12 v/\l5=numL u++44::(numL v++l6)/\(∀ e r,walk (.num:: .sign 44:: .num:: .sign e::r) l5 (k+1+(rowsL L).length+1+(numL x).length+1+(numL y).length+1)=walk (.sign e::r) l6 (k+1+(rowsL L).length+1+(numL x).length+1+(numL y).length+1+(numL u).length+1+(numL v).length))/\d= .tup [.int u,.int v]/\M'=RdM a t (k+1+(rowsL L).length+1+(numL x).length+1+(numL y).length+1+(numL u).length+1+(numL v).length),⟨a,t,_,l5,rfl,rfl,Bp,λx y l' h1 h2 h3 h4=>⟨x,y,l',h1,h2,h3,h4,rfl,rfl⟩,λj hj M'=>?_⟩,?_⟩
          . rw[b8];exact hX j (λr=>by rw[Ev];exact hj _) M'
          rintro _ _ ⟨u,v,l6,hu,hv,rfl,Ew,rfl,rfl⟩;k_places;have Dl:At t (k+1+(rowsL L).length+1+(numL x).length+1+(numL y).length+1+(numL u).length+1+(numL v).length) l6:=Bp.app.next.app;refine⟨_,xF.mpr rfl,_,aG,bw,a,t,_,l6,"]",rfl,rfl,Dl,λc l7 e hc=>?_,λc_ M'=>?_⟩
          . have ec:c=93:=xF.mp hc;subst ec;subst e;obtain⟨FW,Ex⟩:=vz hL;have Ey:(Pat.mot (L.map λx=>(⟨x.toArray⟩:y8)) x y u v).tl=motL L x y u v:=by rw[Pat.tl,Ex]
            have Bq:∀ w,FormOf (Pat.mot (L.map λx=>(⟨x.toArray⟩:y8)) x y u v) k w->R w (RdM a t (k+1+(rowsL L).length+1+(numL x).length+1+(numL y).length+1+(numL u).length+1+(numL v).length+1)):=λw hw=>by
              have:=hR (Pat.mot (L.map λx=>(⟨x.toArray⟩:y8)) x y u v) l7 ⟨FW,e9,hy,hu,hv⟩ rfl (by rw[Ey];simp[motL]) w hw;rw[Ey] at this;have e:k+(motL L x y u v).length=k+1+(rowsL L).length+1+(numL x).length+1+(numL y).length+1+(numL u).length+1+(numL v).length+1:=by
                simp[motL];lia
              rw[e] at this;exact this
            refine⟨k,L,w,x,y,u,v,rfl,hL,e9,hy,hu,hv,λe=>?_,λe w h s F=>?_⟩
            . exact Bq _ ⟨.non,[],rfl,λ_=>rfl,λz=>absurd e z⟩
            . exact Bq _ ⟨_,_,rfl,λz=>absurd z e,λ_=>⟨w,h,s,F,rfl,by rw[Ex]⟩⟩
          . rw[b8];refine hX _ (λr=>?_) M';rw[Ev,Ew,cI λl' q=>c_ 93 l' q (by decide)]
        . rw[b8];refine hX _ (λr=>?_) M';rw[Dk,Eu,cI λl' q=>c_ 59 l' q (by decide)]
      . rw[b8];refine hX _ (λr=>?_) M';rw[Bj,cI λl' q=>c_ 59 l' q (by decide)]
    . rw[b8];refine hX _ (λr=>?_) M';refine walk_bad (λz=>nomatch z) λc l' q=>?_;rw[bn];unfold bj;have:¬ c=91:=λz=>c_ c l' q (by rw[z];decide);rw[if_neg this,if_pos rfl]
abbrev fJ(V:Bx):Prop:=V.M 1 "Mirror" iN vw
def wS(T:V.Ti "Mirror" "Mirror.__init__" iM iN)(uO:V.a "Mirror" "form"):fJ V:=by
 refine Txi.okI T vS (λds R h=>?_) (λf cdv A outer s H E J hr=>⟨_,((bc uO (aa 1) cx)),λds R h=>?_⟩)
 .obtain⟨_,_,rfl,_⟩:=h;rfl
 .obtain⟨x,fs,rfl,hR⟩:=h;exact⟨by decide,hR⟩
abbrev fK(V:Bx):Prop:=V.M 1 "Turn" iP vx
def wT(T:V.Ti "Turn" "Turn.__init__" iO iP)(uT:V.a "Turn" "form"):fK V:=by
 refine Txi.okI T vT (λds R h=>?_) (λf cdv A outer s H E J hr=>⟨_,((bc uT (aa 1) cx)),λds R h=>?_⟩)
 .obtain⟨_,_,rfl,_⟩:=h;rfl
 .obtain⟨x,fs,rfl,hR⟩:=h;exact⟨by decide,hR⟩
abbrev fL(V:Bx):Prop:=V.M 1 "Over" iR vu
def wU(T:V.Ti "Over" "Over.__init__" iQ iR)(uP:V.a "Over" "above")(uR:V.a "Over" "below"):fL V:=by
 refine Txi.okI T vU (λds R h=>?_) (λf cdv A outer s H E J hr=>⟨_,((bc uP (aa 1) (bc uR (aa 2) cx))),λds R h=>?_⟩)
 .obtain⟨_,_,_,_,rfl,_⟩:=h;rfl
 .obtain⟨x,y,fs,gs,rfl,hR⟩:=h;refine⟨by decide,by show(1:Nat)<1000;decide,?_⟩;show R (putD _ _ (putD _ _ []));rw[putD,putD,if_neg (by decide+kernel)];exact hR
abbrev fM(V:Bx):Prop:=V.M 1 "Shifted" iT vv
def wV(T:V.Ti "Shifted" "Shifted.__init__" iS iT)(uN:V.a "Shifted" "form")(Dm:V.a "Shifted" "x")(Dn:V.a "Shifted" "y"):fM V:=by
 refine Txi.okI T vV (λds R h=>?_) (λf cdv A outer s H E J hr=>⟨_,((bc uN (aa 1) (bc Dm (aa 2) (bc Dn (aa 3) cx)))),λds R h=>?_⟩)
 .obtain⟨_,_,_,_,rfl,_⟩:=h;rfl
 .obtain⟨x,fs,a,b,rfl,hR⟩:=h;refine⟨by decide,by show(1:Nat)<1000;decide,by show(2:Nat)<1000;decide,?_⟩;show R (putD _ _ (putD _ _ (putD _ _ [])));rw[show putD ("x":y8) (.int a) (putD ("form":y8) (.obj x fs) [])=([("form",.obj x fs),("x",.int a)]:List (y8 × D)) by rw[putD,putD,if_neg (by decide+kernel)];rfl,putD,if_neg (by decide+kernel),putD,if_neg (by decide+kernel)];exact hR
abbrev fN(V:Bx):Prop:=V.M 1 "Rehue" iV vy
def wW(T:V.Ti "Rehue" "Rehue.__init__" iU iV)(uQ:V.a "Rehue" "form")(Do:V.a "Rehue" "old")(Dp:V.a "Rehue" "new"):fN V:=by
 refine Txi.okI T vW (λds R h=>?_) (λf cdv A outer s H E J hr=>⟨_,((bc uQ (aa 1) (bc Do (aa 2) (bc Dp (aa 3) cx)))),λds R h=>?_⟩)
 .obtain⟨_,_,_,_,rfl,_⟩:=h;rfl
 .obtain⟨x,fs,a,b,rfl,hR⟩:=h;refine⟨by decide,by show(1:Nat)<1000;decide,by show(2:Nat)<1000;decide,?_⟩;show R (putD _ _ (putD _ _ (putD _ _ [])));rw[show putD ("old":y8) (.int a) (putD ("form":y8) (.obj x fs) [])=([("form",.obj x fs),("old",.int a)]:List (y8 × D)) by rw[putD,putD,if_neg (by decide+kernel)];rfl,putD,if_neg (by decide+kernel),putD,if_neg (by decide+kernel)];exact hR
def wX{n j:Nat}(hL:6<=n)(T:V.T "over_from" eX dJ)(uE:V.MM n "form_from" bS (cr j))(Br:fL V)(uA:bT V):V.MM (n+1) "over_from" dJ (mW j):=by
 refine Tx.okM T sc_over_from (λds M R RX h=>?_) (λf cdv A outer s H E J hr hx=>⟨_,((ar (aP 2 sc_over_from.nd (aO (hn:=by omega) uE hx hr (ax (ad (aa 0) (ad (aa 1) af)))))
   (ar (bN (aV (hn:=by omega) (CalMth.one uA) hx hr (ah (aa 0)) (ax (ad ao af))))
   (ar (aP 3 sc_over_from.nd (aO (hn:=by omega) uE hx hr (ax (ad (aa 0) (ad (aa 1) af)))))
   (ar (bN (aV (hn:=by omega) (CalMth.one uA) hx hr (ah (aa 0)) (ax (ad ao af))))
   (aA (aK (ah (gy (hn:=by omega) Br hr (ad (aa 2) (ad (aa 3) af))))))))))),λds M R RX b8 h=>?_⟩)
 .obtain⟨_,_,_,_,_,rfl,_⟩:=h;rfl
 .obtain⟨a,t,k,l,d,rfl,rfl,d5,AF,AG,hR,hX⟩:=h;refine⟨λv M'=>∃ p l1,p.Syn/\p.depth+d<=5/\l=p.tl++l1/\FormOf p k v/\M'=RdM a t (k+p.tl.length),⟨a,t,k,l,d,rfl,rfl,d5,AF,AG,λp l' h1 h2 h3 v h4=>⟨p,l',h1,h2,h3,h4,rfl⟩,λi hi M'=>?_⟩,?_⟩
  .rw[b8];exact hX i (λr=>hi _) M'
  rintro v _ ⟨p,l1,hp,Dq,rfl,hv,rfl⟩;k_places;obtain⟨fs,rfl⟩:=hv.obj;have c9:=d5.app;have m7:∀ r,walk (.pat d:: .sign 124:: .pat d:: .sign 41::r) (p.tl++l1) k=walk (.sign 124:: .pat d:: .sign 41::r) l1 (k+p.tl.length):=λr=>bQ hp d _ l1 k Dq;refine⟨_,xF.mpr rfl,_,aG,bw,a,t,_,l1,"|",rfl,rfl,c9,λc l2 e hc=>?_,λc_ M'=>?_⟩
  .have ec:c=124:=xF.mp hc;subst ec;subst e;refine⟨λv M'=>∃ q l3,q.Syn/\q.depth+d<=5/\l2=q.tl++l3/\FormOf q (k+p.tl.length+1) v/\M'=RdM a t (k+p.tl.length+1+q.tl.length),⟨a,t,_,l2,d,rfl,rfl,c9.next,AF,AG,λp l' h1 h2 h3 v h4=>⟨p,l',h1,h2,h3,h4,rfl⟩,λi hi M'=>?_⟩,?_⟩
   .rw[b8];exact hX i (λr=>by rw[m7,cJ];exact hi _) M'
   rintro v _ ⟨q,l3,hq,Ez,rfl,EA,rfl⟩;k_places;obtain⟨gs,rfl⟩:=EA.obj;have v4:=c9.next.app;have FX:∀ r,walk (.pat d:: .sign 124:: .pat d:: .sign 41::r) (p.tl++124::(q.tl++l3)) k=walk (.sign 41::r) l3 (k+p.tl.length+1+q.tl.length):=λr=>by rw[m7,cJ,bQ hq d _ l3 _ Ez]
   refine⟨_,xF.mpr rfl,_,aG,bw,a,t,_,l3,")",rfl,rfl,v4,λc l4 e hc=>?_,λc_ M'=>?_⟩
   .have ec:c=41:=xF.mp hc;subst ec;subst e;exact⟨_,_,_,_,rfl,hR p q l4 hp hq Dq Ez rfl _ _ hv EA⟩
   .rw[b8];refine hX _ (λr=>?_) M';rw[FX,cI λl' q=>c_ 41 l' q (by decide)]
  .rw[b8];refine hX _ (λr=>?_) M';rw[m7,cI λl' q=>c_ 124 l' q (by decide)]
def wY{n j:Nat}(hL:6<=n)(T:V.T "shifted_from" eY dL)(uM:dN V)(uE:V.MM n "form_from" bS (cr j))(Bs:fM V)(uA:bT V):V.MM (n+1) "shifted_from" dL (mX j):=by
 refine Tx.okM T sc_shifted_from (λds M R RX h=>?_) (λf cdv A outer s H E J hr hx=>⟨_,((ar (aP 2 sc_shifted_from.nd (aO (hn:=by omega) uM hx hr (ax (ad (aa 0) af))))
   (ar (bN (aV (hn:=by omega) (CalMth.one uA) hx hr (ah (aa 0)) (ax (ad ao af))))
   (aA (aK (eJ (hn:=by omega) Bs hr (aN (aO (hn:=by omega) uE hx hr (ax (ad (aa 0) (ad (aa 1) af)))) (aN (ah (ag (aa 2) ac)) (aN (ah (ag (aa 2) ac)) aY))))))))),λds M R RX b8 h=>?_⟩)
 .obtain⟨_,_,_,_,_,rfl,_⟩:=h;rfl
 .obtain⟨a,t,k,l,d,rfl,rfl,d5,AF,AG,hR,hX⟩:=h;refine⟨λv M'=>∃ x y l1,B12 x/\B12 y/\l=numL x++44::(numL y++l1)/\(∀ e r,walk (.num:: .sign 44:: .num:: .sign e::r) l k=walk (.sign e::r) l1 (k+(numL x).length+1+(numL y).length))/\v= .tup [.int x,.int y]/\M'=RdM a t (k+(numL x).length+1+(numL y).length),⟨a,t,_,l,rfl,rfl,d5,λx y l' h1 h2 h3 h4=>⟨x,y,l',h1,h2,h3,h4,rfl,rfl⟩,λi hi M'=>?_⟩,?_⟩
  .rw[b8];exact hX i (λr=>hi _) M'
  rintro _ _ ⟨x,y,l1,e9,hy,rfl,m7,rfl,rfl⟩;k_places;have c9:At t (k+(numL x).length+1+(numL y).length) l1:=d5.app.next.app;refine⟨_,xF.mpr rfl,_,aG,bw,a,t,_,l1,":",rfl,rfl,c9,λc l2 e hc=>?_,λc_ M'=>?_⟩
  .have ec:c=58:=xF.mp hc;subst ec;subst e;refine⟨a,t,_,l2,d,rfl,rfl,c9.next,AF,AG,λp l' h1 h2 h3 v h4=>?_,λi hi M'=>?_⟩
   .obtain⟨fs,rfl⟩:=h4.obj;subst h3;exact⟨_,rfl,_,rfl,_,_,_,_,rfl,hR x y p l' e9 hy h1 h2 rfl _ h4⟩
   .rw[b8];refine hX i (λr=>?_) M';rw[m7,cJ];exact hi _
  .rw[b8];refine hX _ (λr=>?_) M';rw[m7,cI λl' q=>c_ 58 l' q (by decide)]
def wZ{n j:Nat}(hL:6<=n)(T:V.T "rehue_from" eZ dM)(uH:V.m "int")(uE:V.MM n "form_from" bS (cr j))(Bt:fN V)(uA:bT V):V.MM (n+1) "rehue_from" dM (mY j):=by
 refine Tx.okM T sc_rehue_from (λds M R RX h=>?_) (λf cdv A outer s H E J hr hx=>⟨_,((ar (aP 2 sc_rehue_from.nd (lQ uH (aN (aV (hn:=by omega) (CalMth.one uA) hx hr (ah (aa 0)) (ax (ad ao af))) aY)))
   (ar (aP 3 sc_rehue_from.nd (lQ uH (aN (aV (hn:=by omega) (CalMth.one uA) hx hr (ah (aa 0)) (ax (ad ao af))) aY)))
   (aA (aK (eJ (hn:=by omega) Bt hr (aN (aO (hn:=by omega) uE hx hr (ax (ad (aa 0) (ad (aa 1) af)))) (aN (ah (aa 2)) (aN (ah (aa 3)) aY))))))))),λds M R RX b8 h=>?_⟩)
 .obtain⟨_,_,_,_,_,rfl,_⟩:=h;rfl
 .obtain⟨a,t,k,l,d,rfl,rfl,d5,AF,AG,hR,hX⟩:=h;refine⟨λv M'=>∃ c l1,(49<=c/\c<=54)/\l=c::l1/\v= .int ((c:Int) - 48)/\M'=RdM a t (k+1),⟨_,xF.mpr rfl,_,aG,bw,a,t,_,l,"123456",rfl,rfl,d5,λc l1 e hc=>?_,λc_ M'=>?_⟩,?_⟩
  .exact⟨_,⟨digit_of (hue_dig.mp hc),by show(1:Nat)<=640;decide⟩,c,l1,hue_dig.mp hc,e,rfl,rfl⟩
  .rw[b8];exact hX _ (λr=>mV c_) M'
  rintro _ _ ⟨c,l1,hc,rfl,rfl,rfl⟩;k_places;refine⟨λv M'=>∃ e l2,(49<=e/\e<=54)/\l1=e::l2/\v= .int ((e:Int) - 48)/\M'=RdM a t (k+2),⟨_,xF.mpr rfl,_,aG,bw,a,t,_,l1,"123456",rfl,rfl,d5.next,λc l1 e hc=>?_,λc_ M'=>?_⟩,?_⟩
  .exact⟨_,⟨digit_of (hue_dig.mp hc),by show(1:Nat)<=640;decide⟩,c,l1,hue_dig.mp hc,e,rfl,rfl⟩
  .rw[b8];exact hX _ (λr=>by rw[gS hc,mV c_]) M'
  rintro _ _ ⟨e,l2,he,rfl,rfl,rfl⟩;k_places;refine⟨a,t,_,l2,d,rfl,rfl,d5.next.next,AF,AG,λp l' h1 h2 h3 v h4=>?_,λi hi M'=>?_⟩
  .obtain⟨fs,rfl⟩:=h4.obj;subst h3;exact⟨_,_,_,_,rfl,hR c e p l' hc he h1 h2 rfl _ h4⟩
  .rw[b8];refine hX i (λr=>?_) M';rw[gS hc,gS he];exact hi _
def xa{n j:Nat}(hL:6<=n)(T:V.T "form_from" fb bS)(FY:V.MM n "over_from" dJ (mW j))(FZ:V.MM n "shifted_from" dL (mX j))(uE:V.MM n "form_from" bS (cr j))(F4:V.MM n "rehue_from" dM (mY j))(Bu:fH V)(Bv:V.gi "DEEP" 5)(Bw:fJ V)(By:fK V)(uF:cu V):V.MM (n+1) "form_from" bS (cr (j+1)):=by
 refine Tx.okM T sc_form_from (λds M R RX h=>?_) (λf cdv A outer s H E J hr hx=>⟨_,((ar (aP 2 sc_form_from.nd (gD (bI (dX (aa 1) (eu Bv))) (aV (hn:=by omega) (CalMth.one uF) hx hr (ah (aa 0)) (ax (ad ao af))) (ah ao)))
   (ar (bC (bI (aZ (aa 2) ao)) (aA (aK (aO (hn:=by omega) FY hx hr (ax (ad (aa 0) (ad (aq (aa 1) ac) af)))))) bv)
   (ar (bC (bI (aZ (aa 2) ao)) (aA (aK (aO (hn:=by omega) FZ hx hr (ax (ad (aa 0) (ad (aq (aa 1) ac) af)))))) bv)
   (ar (bC (bI (aZ (aa 2) ao)) (aA (aK (eJ (hn:=by omega) Bw hr (aN (aO (hn:=by omega) uE hx hr (ax (ad (aa 0) (ad (aq (aa 1) ac) af)))) aY)))) bv)
   (ar (bC (bI (aZ (aa 2) ao)) (aA (aK (eJ (hn:=by omega) By hr (aN (aO (hn:=by omega) uE hx hr (ax (ad (aa 0) (ad (aq (aa 1) ac) af)))) aY)))) bv)
   (ar (bC (bI (aZ (aa 2) ao)) (aA (aK (aO (hn:=by omega) F4 hx hr (ax (ad (aa 0) (ad (aq (aa 1) ac) af)))))) bv)
   (aA (aK (aO (hn:=by omega) Bu hx hr (ax (ad (aa 0) af)))))))))))),λds M R RX b8 h=>?_⟩)
 .obtain⟨_,_,_,_,_,rfl,_⟩:=h;rfl
 .obtain⟨a,t,k,l,d,rfl,rfl,d5,AF,AG,hR,hX⟩:=h;have GC:d<=5:=by lia
  refine⟨λv M'=>(v= .str ""/\M'=RdM a t k/\(d=5\/∀ c l',l=c::l'->c ∉ cs "(smth"))\/(∃ c l',l=c::l'/\c∈cs "(smth"/\d<5/\v= .str ⟨#[c]⟩/\M'=RdM a t (k+1)),?_,?_⟩
  .show if decide ((d:Int)<5)=true then _ else _
   refine ite2 (λc=>?_) (λc=>?_)
   .have c':d<5:=by have:=of_decide_eq_true c;lia
    refine⟨_,xF.mpr rfl,_,aG,bZ,a,t,_,l,"(smth",rfl,rfl,d5,?_⟩;by_cases h:∃ c l',l=c::l'/\c∈cs "(smth"
    .obtain⟨c,l',rfl,hc⟩:=h;rw[cG hc,cH hc];exact .inr ⟨c,l',rfl,hc,c',rfl,rfl⟩
    .have c_:∀ c l',l=c::l'->c ∉ cs "(smth":=λc l' e hc=>h ⟨c,l',e,hc⟩;have hm:mayS "(smth" l=""/\mayN "(smth" l=0:=by
      cases l with
      |nil=>exact⟨rfl,rfl⟩
      |cons c l=>exact⟨cn (c_ c l rfl),cq (c_ c l rfl)⟩
     rw[hm.1,hm.2];exact .inl ⟨rfl,rfl,.inr c_⟩
   .have c':d=5:=by
     have:¬ ((d:Int)<5):=λz=>c (decide_eq_true z);lia
    exact .inl ⟨rfl,rfl,.inl c'⟩
  rintro _ _ (⟨rfl,rfl,c_⟩|⟨c,l1,rfl,hc,j_,rfl,rfl⟩);k_places
  .refine⟨a,t,k,l,rfl,rfl,d5,λp l' h1 h2 h3 v h4=>hR p l' h1 (by lia) h3 v h4,λi hi M'=>?_⟩;rw[b8];exact hX i (λr=>by rw[vB c_];exact hi r) M'
  have c9:=d5.next;have hj:1<=j:=by lia
  have F5:cs "(smth"=[40,115,109,116,104]:=rfl;rw[F5] at hc;simp only[xJ,yQ,or_false] at hc;have nd:¬ d=5:=by lia
  rcases hc with rfl|rfl|rfl|rfl|rfl
  .have hw:∀ r,walk (.pat d::r) (40::l1) k=walk (.pat (d+1):: .sign 124:: .pat (d+1):: .sign 41::r) l1 (k+1):=λr=>ay (by rw[bn];unfold bj;rw[if_neg (by decide),if_neg nd,if_pos rfl]);refine⟨a,t,k+1,l1,d+1,rfl,rfl,c9,by lia,hj,λp q l' h1 h2 h3 h4 h5 u u' h6 h7=>?_,λi hi M'=>?_⟩
   .have:=hR (.over p q) l' ⟨h1,h2⟩ (by rw[Pat.depth];lia) (by rw[h5,Pat.tl];simp) _ ⟨u,u',rfl,h6,h7⟩;have e:k+(Pat.over p q).tl.length=k+1+p.tl.length+1+q.tl.length+1:=by rw[Pat.tl];simp;lia
    rw[e] at this;exact this
   .rw[b8];exact hX i (λr=>by rw[hw];exact hi r) M'
  .have hw:∀ r,walk (.pat d::r) (115::l1) k=walk (.num:: .sign 44:: .num:: .sign 58:: .pat (d+1)::r) l1 (k+1):=λr=>ay (by rw[bn];unfold bj;rw[if_neg (by decide),if_neg nd,if_neg (by decide),if_pos rfl]);refine⟨a,t,k+1,l1,d+1,rfl,rfl,c9,by lia,hj,λx y p l' h1 h2 h3 h4 h5 u h6=>?_,λi hi M'=>?_⟩
   .have:=hR (.sh x y p) l' ⟨h1,h2,h3⟩ (by rw[Pat.depth];lia) (by rw[h5,Pat.tl];simp) _ ⟨u,rfl,h6⟩;have e:k+(Pat.sh x y p).tl.length=k+1+(numL x).length+1+(numL y).length+1+p.tl.length:=by rw[Pat.tl];simp;lia
    rw[e] at this;exact this
   .rw[b8];exact hX i (λr=>by rw[hw];exact hi r) M'
  .have hw:∀ r,walk (.pat d::r) (109::l1) k=walk (.pat (d+1)::r) l1 (k+1):=λr=>ay (by rw[bn];unfold bj;rw[if_neg (by decide),if_neg nd,if_neg (by decide),if_neg (by decide),if_neg (by decide),if_pos (.inl rfl)]);refine⟨a,t,k+1,l1,d+1,rfl,rfl,c9,by lia,hj,λp l' h1 h2 h3 v h4=>?_,λi hi M'=>?_⟩
   .obtain⟨fs,rfl⟩:=h4.obj;have:=hR (.mir p) l' h1 (by rw[Pat.depth];lia) (by rw[h3,Pat.tl];simp) _ ⟨_,rfl,h4⟩;have e:k+(Pat.mir p).tl.length=k+1+p.tl.length:=by rw[Pat.tl];simp;lia
    rw[e] at this;exact⟨_,_,rfl,this⟩
   .rw[b8];exact hX i (λr=>by rw[hw];exact hi r) M'
  .have hw:∀ r,walk (.pat d::r) (116::l1) k=walk (.pat (d+1)::r) l1 (k+1):=λr=>ay (by rw[bn];unfold bj;rw[if_neg (by decide),if_neg nd,if_neg (by decide),if_neg (by decide),if_neg (by decide),if_pos (.inr rfl)]);refine⟨a,t,k+1,l1,d+1,rfl,rfl,c9,by lia,hj,λp l' h1 h2 h3 v h4=>?_,λi hi M'=>?_⟩
   .obtain⟨fs,rfl⟩:=h4.obj;have:=hR (.tur p) l' h1 (by rw[Pat.depth];lia) (by rw[h3,Pat.tl];simp) _ ⟨_,rfl,h4⟩;have e:k+(Pat.tur p).tl.length=k+1+p.tl.length:=by rw[Pat.tl];simp;lia
    rw[e] at this;exact⟨_,_,rfl,this⟩
   .rw[b8];exact hX i (λr=>by rw[hw];exact hi r) M'
  .have hw:∀ r,walk (.pat d::r) (104::l1) k=walk (.hue:: .hue:: .pat (d+1)::r) l1 (k+1):=λr=>ay (by rw[bn];unfold bj;rw[if_neg (by decide),if_neg nd,if_neg (by decide),if_neg (by decide),if_pos rfl]);refine⟨a,t,k+1,l1,d+1,rfl,rfl,c9,by lia,hj,λc e p l' h1 h2 h3 h4 h5 u h6=>?_,λi hi M'=>?_⟩
   .have:=hR (.hue ((c:Int) - 48) ((e:Int) - 48) p) l' ⟨by lia,by lia,h3⟩ (by rw[Pat.depth];lia) (by rw[h5,Pat.tl,eU h1,eU h2];simp) _ ⟨u,rfl,h6⟩;have e:k+(Pat.hue ((c:Int) - 48) ((e:Int) - 48) p).tl.length=k+1+2+p.tl.length:=by rw[Pat.tl,eU h1,eU h2];simp;lia
    rw[e] at this;exact this
   .rw[b8];exact hX i (λr=>by rw[hw];exact hi r) M'
def xb(F6:V.T "over_from" eX dJ)(F7:V.T "shifted_from" eY dL)(F8:V.T "rehue_from" eZ dM)(EB:V.T "form_from" fb bS)(Br:fL V)(uA:bT V)(uM:dN V)(Bs:fM V)(uH:V.m "int")(Bt:fN V)(Bu:fH V)(Bv:V.gi "DEEP" 5)(Bw:fJ V)(By:fK V)(uF:cu V):∀ j,V.MM (6+2*j) "form_from" bS (cr j):=by
 intro j;induction j with
 |zero=>exact CalMM.never EB (λds M R RX=>vC)
 |succ j ih=>
  have Bz:=ih;have Dr:=wX (n:=6+2*j) (j:=j) (by omega) F6 Bz Br uA;have Ds:=wY (n:=6+2*j) (j:=j) (by omega) F7 uM Bz Bs uA;have Dt:=wZ (n:=6+2*j) (j:=j) (by omega) F8 uH Bz Bt uA;have Bz:=Cal.mono ih (yv _);exact xa (n:=6+2*j+1) (j:=j) (by omega) EB Dr Ds Bz Dt Bu Bv Bw By uF
abbrev jE(V:Bx):Prop:=V.M 1 "Reading" iX uy
def xc(T:V.Ti "Reading" "Reading.__init__" iW iX)(uS:V.a "Reading" "text")(uD:V.a "Reading" "place"):jE V:=by
 refine Txi.okI T vX (λds R h=>?_) (λf cdv A outer s H E J hr=>⟨_,((bc uS (aa 1) (bc uD ac cx))),λds R h=>?_⟩)
 .obtain⟨_,rfl,_⟩:=h;rfl
 .obtain⟨t,rfl,hR⟩:=h;refine⟨by decide,by show(1:Nat)<1000;decide,?_⟩;show R (putD _ _ (putD _ _ []));rw[putD,putD,if_neg (by decide+kernel)];exact hR
abbrev jF(V:Bx):Prop:=V.M 1 "Pattern" iZ vI
def xg(T:V.Ti "Pattern" "Pattern.__init__" iY iZ)(Du:V.a "Pattern" "text")(Dv:V.a "Pattern" "shifts")(Dw:V.a "Pattern" "form"):jF V:=by
 refine Txi.okI T vY (λds R h=>?_) (λf cdv A outer s H E J hr=>⟨_,((bc Du (aa 1) (bc Dv (aa 2) (bc Dw (aa 3) cx)))),λds R h=>?_⟩)
 .obtain⟨_,_,_,_,_,_,rfl,_⟩:=h;rfl
 .obtain⟨t,w,h,s,x,fs,rfl,hR⟩:=h;refine⟨by decide,by show(1:Nat)<1000;decide,by show(2:Nat)<1000;decide,?_⟩;show R (putD _ _ (putD _ _ (putD _ _ [])));rw[show putD ("shifts":y8) (.tup [.int w,.int h,.int s]) (putD ("text":y8) (.str t) [])=([("text",.str t),("shifts",.tup [.int w,.int h,.int s])]:List (y8 × D)) by rw[putD,putD,if_neg (by decide+kernel)];rfl,putD,if_neg (by decide+kernel),putD,if_neg (by decide+kernel)];exact hR
abbrev fO(V:Bx):Prop:=V.E 1 "OneLine" jb vK
def xh(T:V.Te "OneLine" "OneLine.__init__" ja jb)(uY:V.b "MotifError")(uX:V.ea "OneLine")(Dx:V.xf "OneLine" "place"):fO V:=by
 refine Txe.okE T vZ (λds R h=>?_) (λf cdv A outer s H E J hr=>⟨_,((ly uY uX (ad (aa 1) af) (lz uX Dx (aa 1) lx))),λds R h=>?_⟩)
 .obtain⟨i,rfl,_⟩:=h;rfl
 .obtain⟨i,rfl,hR⟩:=h;exact⟨by show(1:Nat)<=1000;decide,rfl,hR⟩
abbrev jG(V:Bx):Prop:=V.D 2 "measure" jd tT
def xi(T:V.T "measure" jc jd)(AO:fF V):jG V:=by
 refine Tx.okDW T sc_measure (λds R h=>?_) (λf cdv A outer s H E J hr=>⟨_,((ai (am 2 sc_measure.nd (ag (aS AO hr (ad (aM (ad ac (ad (aa 0) af))) (ad (aM (ad ac (ad (aa 1) af))) af))) ac))
   (av (aJ (aM (ad (ag (aa 2) ac) (ad (ag (aa 2) ac) af))))))),λds R h=>?_⟩)
 .obtain⟨x,y,rfl,_⟩:=h;rfl
 .obtain⟨x,y,rfl,hx,hy,hR⟩:=h;refine⟨λd=>∃ p0 p1:Int,d= .tup [.int p0,.int p1]/\Meas x y p1 p0,⟨by simp,by simp,1,x,0,y,rfl,hx,hy,λp0 p1 q0 hL=>⟨_,rfl,p0,p1,rfl,mm ⟨hL.1,hL.2⟩⟩⟩,?_⟩;rintro _ ⟨p0,p1,rfl,hM⟩;k_places;exact⟨_,rfl,_,rfl,by simp,hR p1 p0 hM⟩
abbrev fP(V:Bx):Prop:=V.D 3 "met" jg tU
def xj(T:V.T "met" je jg)(BA:jG V):fP V:=by
 refine Tx.okDW T sc_met (λds R h=>?_) (λf cdv A outer s H E J hr=>⟨_,((ai (am 2 sc_met.nd (aS BA hr (ad (ag (aa 0) ac) (ad (ag (aa 1) ac) af))))
   (ai (am 3 sc_met.nd (bt (aI (ag (aa 0) ac) (ag (aa 1) ac)) (ag (aa 2) ac)))
   (ai (am 4 sc_met.nd (bt (aI (ag (aa 0) ac) (ag (aa 1) ac)) (ag (aS BA hr (ad (ag (aa 0) ac) (ad (ag (aa 1) ac) af))) ac)))
   (ai (am 5 sc_met.nd (aI (bt (aa 4) (ag (aa 0) ac)) (ag (aa 0) ac)))
   (ai (am 6 sc_met.nd (bp (aI (bt (aa 4) (ag (aa 1) ac)) (ag (aa 1) ac)) (aa 5)))
   (ai (am 7 sc_met.nd (bt (ag (aa 2) ac) (ag (aS BA hr (ad (ag (aa 2) ac) (ad (aa 6) af))) ac)))
   (ai (am 8 sc_met.nd (aI (bt (aI (aa 7) (aa 6)) (ag (aa 2) ac)) (ag (aa 2) ac)))
   (av (aJ (aM (ad (aa 3) (ad (aI (aa 4) (aa 7)) (ad (au (aq (aI (aa 7) (aa 5)) (aI (aa 8) (ag (aa 0) ac))) (aa 3)) af)))))))))))))),λds R h=>?_⟩)
 .obtain⟨_,_,_,_,_,_,rfl,_⟩:=h;rfl
 .obtain⟨w1,h1,s1,w2,h2,s2,rfl,a1,a2,a3,a4,a5,a6,b1,b2,b3,b4,b5,b6,hR⟩:=h;refine⟨λd=>∃ g u:Int,d= .tup [.int g,.int u]/\Meas w1 w2 g u,⟨_,rfl,_,rfl,w1,w2,rfl,by omega,by omega,λg u M=>⟨g,u,rfl,M⟩⟩,?_⟩;rintro _ ⟨g,u,rfl,M1⟩;k_places;have hg:=M1.pos a1;have EC:=M1.le a1;refine⟨λd=>d= .int (w1*w2 / g),⟨_,rfl,_,rfl,.inl (b64B a1 a2),_,rfl,d30B hg (zk EC a2),rfl⟩,?_⟩;rintro _ rfl;k_places;refine⟨λd=>∃ k u':Int,d= .int (h1*h2 / k)/\Meas h1 h2 k u',⟨_,rfl,_,rfl,.inl (b64B a3 a4),_,rfl,_,rfl,h1,h2,rfl,by omega,by omega,λk u' M=>⟨_,rfl,d30B (M.pos a3) (zk (M.le a3) a4),k,u',rfl,M⟩⟩,?_⟩;rintro _ ⟨k,u',rfl,M2⟩;k_places;obtain⟨r0,r1,r2,r3,r4,r5⟩:=mn a3 b3 M2;have F9:h1*h2<=1125899906842624:=by
   have:=bg (a:=h1) (d:=h2) (A:=33554432) (B:=33554432) (by omega) (by omega);omega
  refine⟨λd=>d= .int (h1*h2 / k / h1*s1),⟨_,rfl,d30B a3 a4,_,rfl,.inr (s64B a5 a6 a2),rfl⟩,?_⟩;rintro _ rfl;k_places;refine⟨λd=>d= .int (h1*h2 / k / h2*s2 - h1*h2 / k / h1*s1),⟨_,rfl,d30B b3 b4,_,rfl,.inr (s64B b5 b6 b2),rfl⟩,?_⟩;rintro _ rfl;k_places;have t1:=bg (a:=h1*h2 / k / h1) (d:=s1) (A:=33554432) (B:=33554432) (by omega) (by omega);have t2:=bg (a:=h1*h2 / k / h2) (d:=s2) (A:=33554432) (B:=33554432) (by omega) (by omega);refine⟨λd=>∃ gg n6:Int,d= .int (g / gg)/\Meas g (h1*h2 / k / h2*s2 - h1*h2 / k / h1*s1) gg n6,⟨_,rfl,_,rfl,g,_,rfl,by omega,by omega,λgg n6 M=>⟨_,rfl,d30B (M.pos hg) (zk (M.le hg) (zk EC a2)),gg,n6,rfl,M⟩⟩,?_⟩;rintro _ ⟨gg,n6,rfl,M3⟩;k_places;have u8:=M3.pos hg;have c1:0<=g / gg:=Int.ediv_nonneg (by omega) (by omega);have c2:g / gg<=g:=Int.ediv_le_self _ (by omega);have c4:=tH (c:=g / gg) (gap:=h1*h2 / k / h2*s2 - h1*h2 / k / h1*s1) (N:=2251799813685248) hg c1 c2 (by omega);have mr:=gK a1 b1 a3 b3 M1 M2 M3;refine⟨λd=>d= .int (g / gg*(h1*h2 / k / h2*s2 - h1*h2 / k / h1*s1) / g*u),⟨.inl ⟨by omega,by omega⟩,_,rfl,⟨by omega,by omega⟩,_,rfl,.inl ⟨by omega,by omega⟩,rfl⟩,?_⟩;rintro _ rfl;k_places;obtain⟨w0,w3,_⟩:=mn a1 b1 M1;have F_:w1*w2<=1125899906842624:=by
   have:=bg (a:=w1) (d:=w2) (A:=33554432) (B:=33554432) (by omega) (by omega);omega
  have Bj:=bg (a:=h1*h2 / k) (d:=g / gg) (A:=1125899906842624) (B:=33554432) (by omega) (by omega);exact⟨.inl ⟨by omega,by omega⟩,.inl ⟨by omega,by omega⟩,_,rfl,.inr ⟨by omega,by omega⟩,w0,by simp,hR _ _ _ _ mr⟩
abbrev fQ(V:Bx):Prop:=V.D 1 "mirrored" ji tR
def xk(T:V.T "mirrored" jh ji):fQ V:=by
 refine Tx.okDW T wa (λds R h=>?_) (λf cdv A outer s H E J hr=>⟨_,((av (aJ (aM (ad (ag (aa 0) ac) (ad (ag (aa 0) ac) (ad (au (bU (ag (aa 0) ac)) (ag (aa 0) ac)) af))))))),λds R h=>?_⟩)
 .obtain⟨w,h,s,rfl,_⟩:=h;rfl
 .obtain⟨w,h,s,rfl,hw,hR⟩:=h;exact⟨_,rfl,_,rfl,_,rfl,_,rfl,hw,by simp,hR⟩
abbrev fR(V:Bx):Prop:=V.D 3 "turned" jk tS
def xm(T:V.T "turned" jj jk)(uZ:fG V):fR V:=by
 refine Tx.okDW T wb (λds R h=>?_) (λf cdv A outer s H E J hr=>⟨_,((av (aJ (aS uZ hr (ad (aM (ad ac (ad (ag (aa 0) ac) af))) (ad (aM (ad (bU (ag (aa 0) ac)) (ad (ag (aa 0) ac) af))) af)))))),λds R h=>?_⟩)
 .obtain⟨w,h,s,rfl,_⟩:=h;rfl
 .obtain⟨w,h,s,rfl,hw,hh,w_,w9,hs,h_,hR⟩:=h;have hp:0<w*h:=xQ hw hh;have hn:¬ 0*s=w* -h:=by rw[yt];lia
  exact⟨_,rfl,by simp,_,rfl,_,rfl,by simp,0,w,-h,s,rfl,by lia,by lia,by lia,by lia,λe=>absurd e hn,λ_ w' h' s' f=>hR w' h' s' f⟩
def ok_Motif_family{n j:Nat}(hL:3<=n)(T:V.Tm "Motif" "family" "Motif.family" fg bK)(uI:V.a "Motif" "shifts")(uU:V.a "Motif" "place")(uL:fO V):V.Q (n+1) "Motif" "family" bK (ofX (br (j+1) "Motif")):=by
 refine Txm.okM T wc (λds M R RX h=>?_) (λf cdv A outer s H E J hr hx=>⟨_,((ar (bC (lN (aQ uI (ah (aa 0))) (ah gl)) (aA (gH (hn:=by omega) uL hr hx rfl (aN (aQ uU (ah (aa 0))) aY))) bv)
   (aA (aK (aQ uI (ah (aa 0))))))),λds M R RX b8 h=>?_⟩)
 .obtain⟨_,_,_,rfl,_⟩:=h;rfl
 .obtain⟨p,k,v,rfl,hv,hs,hd,hc,d8,hX,hR⟩:=h;cases p with
  |over p q=>exact absurd (show("Over":y8)="Motif" from hc) (by decide+kernel)
  |sh a b p=>exact absurd (show("Shifted":y8)="Motif" from hc) (by decide+kernel)
  |mir p=>exact absurd (show("Mirror":y8)="Motif" from hc) (by decide+kernel)
  |tur p=>exact absurd (show("Turn":y8)="Motif" from hc) (by decide+kernel)
  |hue f g p=>exact absurd (show("Rehue":y8)="Motif" from hc) (by decide+kernel)
  |mot L a b c d=>
   obtain⟨sh,hu,rfl,h0,h1⟩:=hv;refine⟨_,⟨rfl,rfl⟩,_,mZ,?_⟩;by_cases e:a*d=b*c
   .rw[h0 e];refine⟨_,⟨rfl,rfl⟩,_,vD,by show(1:Nat)<=1000;decide,(k:Int),rfl,?_⟩;rw[b8];exact hX k (by rw[Pat.lineAt,if_pos e])
   .obtain⟨w,h,s,F,rfl,rfl⟩:=h1 e;exact⟨_,⟨rfl,rfl⟩,_,mZ,hR (by rw[Pat.lineAt,if_neg e]) w h s (Pat.Fam.mot F)⟩
def xn{n j:Nat}(hL:3<=n)(T:V.Tm "Over" "family" "Over.family" fj fk)(BB:fP V)(uP:V.a "Over" "above")(uR:V.a "Over" "below")(uB:∀ x,x∈(["Motif","Over","Shifted","Mirror","Turn","Rehue"]:List y8)->V.Q n x "family" bK (ofX (br j x))):V.Q (n+1) "Over" "family" fk (ofX (br (j+1) "Over")):=by
 refine Txm.okM T sc_Over_family (λds M R RX h=>?_) (λf cdv A outer s H E J hr hx=>⟨_,((ar (aP 1 sc_Over_family.nd (cz (hn:=by omega) uB hx hr (aQ uP (ah (aa 0)))))
   (aA (aK (aO (hn:=by omega) (CalD.toM BB) hx hr (aN (ah (aa 1)) (aN (cz (hn:=by omega) uB hx hr (aQ uR (ah (aa 0)))) aY))))))),λds M R RX b8 h=>?_⟩)
 .obtain⟨_,_,_,rfl,_⟩:=h;rfl
 .obtain⟨p,k,v,rfl,hv,hs,hd,hc,d8,hX,hR⟩:=h;cases p with
  |mot L a b c d=>exact absurd (show("Motif":y8)="Over" from hc) (by decide+kernel)
  |sh a b p=>exact absurd (show("Shifted":y8)="Over" from hc) (by decide+kernel)
  |mir p=>exact absurd (show("Mirror":y8)="Over" from hc) (by decide+kernel)
  |tur p=>exact absurd (show("Turn":y8)="Over" from hc) (by decide+kernel)
  |hue f g p=>exact absurd (show("Rehue":y8)="Over" from hc) (by decide+kernel)
  |over p q=>
   obtain⟨u,u',rfl,hu,EE⟩:=hv;obtain⟨fs,rfl,hf,_⟩:=hu.objm;obtain⟨gs,rfl,hg,_⟩:=EE.objm;rw[Pat.depth] at hd;refine⟨λd M'=>(∃ w h s,p.lineAt (k+1)=t8/\p.Fam w h s/\d= .tup [.int w,.int h,.int s])/\M'=M,⟨_,⟨rfl,rfl⟩,_,rfl,p.cls,p.cls_mem,fs,⟨rfl,rfl⟩,hf,p,k+1,_,rfl,hu,hs.1,by lia,rfl,d8.1,λi hi=>?_,λhn w h s F=>⟨⟨w,h,s,hn,F,rfl⟩,rfl⟩⟩,?_⟩
   .rw[b8];exact hX i (by rw[Pat.lineAt,hi])
   rintro _ _ ⟨⟨w1,h1,s1,Dy,F1,rfl⟩,rfl⟩;k_places;refine⟨_,⟨rfl,rfl⟩,_,gT (by decide+kernel),q.cls,q.cls_mem,gs,⟨rfl,rfl⟩,hg,q,k+1+p.tl.length+1,_,rfl,EE,hs.2,by lia,rfl,d8.2.1,λi hi=>?_,λt5 w2 h2 s2 F2=>?_⟩
   .rw[b8];exact hX i (by rw[Pat.lineAt,Dy];exact hi)
   .obtain⟨f1,f2⟩:=d8.2.2 (Pat.line_wf _ hs.1 Dy) (Pat.line_wf _ hs.2 t5);obtain⟨a1,a2,a3,a4,a5,a6⟩:=f1.small F1;obtain⟨b1,b2,b3,b4,b5,b6⟩:=f2.small F2;exact⟨w1,h1,s1,w2,h2,s2,rfl,a1,a2,a3,a4,a5,a6,b1,b2,b3,b4,b5,b6,λw h s A MR=>hR (by rw[Pat.lineAt,Dy];exact t5) w h s (Pat.Fam.over F1 F2 MR)⟩
def xo{n j:Nat}(hL:3<=n)(T:V.Tm "Shifted" "family" "Shifted.family" fm fo)(uN:V.a "Shifted" "form")(uB:∀ x,x∈(["Motif","Over","Shifted","Mirror","Turn","Rehue"]:List y8)->V.Q n x "family" bK (ofX (br j x))):V.Q (n+1) "Shifted" "family" fo (ofX (br (j+1) "Shifted")):=by
 refine Txm.okM T we (λds M R RX h=>?_) (λf cdv A outer s H E J hr hx=>⟨_,((aA (aK (cz (hn:=by omega) uB hx hr (aQ uN (ah (aa 0))))))),λds M R RX b8 h=>?_⟩)
 .obtain⟨_,_,_,rfl,_⟩:=h;rfl
 .obtain⟨p,k,v,rfl,hv,hs,hd,hc,d8,hX,hR⟩:=h;cases p with
  |mot L a b c d=>exact absurd (show("Motif":y8)="Shifted" from hc) (by decide+kernel)
  |over p q=>exact absurd (show("Over":y8)="Shifted" from hc) (by decide+kernel)
  |mir p=>exact absurd (show("Mirror":y8)="Shifted" from hc) (by decide+kernel)
  |tur p=>exact absurd (show("Turn":y8)="Shifted" from hc) (by decide+kernel)
  |hue f g p=>exact absurd (show("Rehue":y8)="Shifted" from hc) (by decide+kernel)
  |sh a b p=>
   obtain⟨u,rfl,hu⟩:=hv;obtain⟨fs,rfl,hf,_⟩:=hu.objm;rw[Pat.depth] at hd;refine⟨_,⟨rfl,rfl⟩,_,rfl,p.cls,p.cls_mem,fs,⟨rfl,rfl⟩,hf,p,_,_,rfl,hu,hs.2.2,by lia,rfl,d8,λi hi=>?_,λhn w h s F=>?_⟩
   .rw[b8];exact hX i (by rw[Pat.lineAt];exact hi)
   .exact hR (by rw[Pat.lineAt];exact hn) w h s (F.sh a b)
def xp{n j:Nat}(hL:3<=n)(T:V.Tm "Mirror" "family" "Mirror.family" ft fu)(BC:fQ V)(uO:V.a "Mirror" "form")(uB:∀ x,x∈(["Motif","Over","Shifted","Mirror","Turn","Rehue"]:List y8)->V.Q n x "family" bK (ofX (br j x))):V.Q (n+1) "Mirror" "family" fu (ofX (br (j+1) "Mirror")):=by
 refine Txm.okM T wg (λds M R RX h=>?_) (λf cdv A outer s H E J hr hx=>⟨_,((aA (aK (aO (hn:=by omega) (CalD.toM BC) hx hr (aN (cz (hn:=by omega) uB hx hr (aQ uO (ah (aa 0)))) aY))))),λds M R RX b8 h=>?_⟩)
 .obtain⟨_,_,_,rfl,_⟩:=h;rfl
 .obtain⟨p,k,v,rfl,hv,hs,hd,hc,d8,hX,hR⟩:=h;cases p with
  |mot L a b c d=>exact absurd (show("Motif":y8)="Mirror" from hc) (by decide+kernel)
  |over p q=>exact absurd (show("Over":y8)="Mirror" from hc) (by decide+kernel)
  |sh a b p=>exact absurd (show("Shifted":y8)="Mirror" from hc) (by decide+kernel)
  |tur p=>exact absurd (show("Turn":y8)="Mirror" from hc) (by decide+kernel)
  |hue f g p=>exact absurd (show("Rehue":y8)="Mirror" from hc) (by decide+kernel)
  |mir p=>
   obtain⟨u,rfl,hu⟩:=hv;obtain⟨fs,rfl,hf,_⟩:=hu.objm;rw[Pat.depth] at hd;refine⟨_,⟨rfl,rfl⟩,_,rfl,p.cls,p.cls_mem,fs,⟨rfl,rfl⟩,hf,p,_,_,rfl,hu,hs,by lia,rfl,d8,λi hi=>?_,λhn w h s F=>?_⟩
   .rw[b8];exact hX i (by rw[Pat.lineAt];exact hi)
   .exact⟨w,h,s,rfl,F.f.w0,hR (by rw[Pat.lineAt];exact hn) w h _ F.mir⟩
def xq{n j:Nat}(hL:3<=n)(T:V.Tm "Turn" "family" "Turn.family" fv fw)(BD:fR V)(uT:V.a "Turn" "form")(uB:∀ x,x∈(["Motif","Over","Shifted","Mirror","Turn","Rehue"]:List y8)->V.Q n x "family" bK (ofX (br j x))):V.Q (n+1) "Turn" "family" fw (ofX (br (j+1) "Turn")):=by
 refine Txm.okM T wj (λds M R RX h=>?_) (λf cdv A outer s H E J hr hx=>⟨_,((aA (aK (aO (hn:=by omega) (CalD.toM BD) hx hr (aN (cz (hn:=by omega) uB hx hr (aQ uT (ah (aa 0)))) aY))))),λds M R RX b8 h=>?_⟩)
 .obtain⟨_,_,_,rfl,_⟩:=h;rfl
 .obtain⟨p,k,v,rfl,hv,hs,hd,hc,d8,hX,hR⟩:=h;cases p with
  |mot L a b c d=>exact absurd (show("Motif":y8)="Turn" from hc) (by decide+kernel)
  |over p q=>exact absurd (show("Over":y8)="Turn" from hc) (by decide+kernel)
  |sh a b p=>exact absurd (show("Shifted":y8)="Turn" from hc) (by decide+kernel)
  |mir p=>exact absurd (show("Mirror":y8)="Turn" from hc) (by decide+kernel)
  |hue f g p=>exact absurd (show("Rehue":y8)="Turn" from hc) (by decide+kernel)
  |tur p=>
   obtain⟨u,rfl,hu⟩:=hv;obtain⟨fs,rfl,hf,_⟩:=hu.objm;rw[Pat.depth] at hd;refine⟨_,⟨rfl,rfl⟩,_,rfl,p.cls,p.cls_mem,fs,⟨rfl,rfl⟩,hf,p,_,_,rfl,hu,hs,by lia,rfl,d8.1,λi hi=>?_,λhn w h s F=>?_⟩
   .rw[b8];exact hX i (by rw[Pat.lineAt];exact hi)
   .obtain⟨a1,a2,a3,a4,a5,a6⟩:=(d8.2 (Pat.line_wf _ hs hn)).small F;exact⟨w,h,s,rfl,a1,a3,by lia,by lia,a5,by lia,λw' h' s' F'=>hR (by rw[Pat.lineAt];exact hn) w' h' s' (F.tur F')⟩
def xr{n j:Nat}(hL:3<=n)(T:V.Tm "Rehue" "family" "Rehue.family" fz fA)(uQ:V.a "Rehue" "form")(uB:∀ x,x∈(["Motif","Over","Shifted","Mirror","Turn","Rehue"]:List y8)->V.Q n x "family" bK (ofX (br j x))):V.Q (n+1) "Rehue" "family" fA (ofX (br (j+1) "Rehue")):=by
 refine Txm.okM T wk (λds M R RX h=>?_) (λf cdv A outer s H E J hr hx=>⟨_,((aA (aK (cz (hn:=by omega) uB hx hr (aQ uQ (ah (aa 0))))))),λds M R RX b8 h=>?_⟩)
 .obtain⟨_,_,_,rfl,_⟩:=h;rfl
 .obtain⟨p,k,v,rfl,hv,hs,hd,hc,d8,hX,hR⟩:=h;cases p with
  |mot L a b c d=>exact absurd (show("Motif":y8)="Rehue" from hc) (by decide+kernel)
  |over p q=>exact absurd (show("Over":y8)="Rehue" from hc) (by decide+kernel)
  |sh a b p=>exact absurd (show("Shifted":y8)="Rehue" from hc) (by decide+kernel)
  |mir p=>exact absurd (show("Mirror":y8)="Rehue" from hc) (by decide+kernel)
  |tur p=>exact absurd (show("Turn":y8)="Rehue" from hc) (by decide+kernel)
  |hue f g p=>
   obtain⟨u,rfl,hu⟩:=hv;obtain⟨fs,rfl,hf,_⟩:=hu.objm;rw[Pat.depth] at hd;refine⟨_,⟨rfl,rfl⟩,_,rfl,p.cls,p.cls_mem,fs,⟨rfl,rfl⟩,hf,p,_,_,rfl,hu,hs.2.2,by lia,rfl,d8,λi hi=>?_,λhn w h s F=>?_⟩
   .rw[b8];exact hX i (by rw[Pat.lineAt];exact hi)
   .exact hR (by rw[Pat.lineAt];exact hn) w h s (F.hue f g)
def xt(EF:V.Tm "Motif" "family" "Motif.family" fg bK)(EG:V.Tm "Over" "family" "Over.family" fj fk)(EH:V.Tm "Shifted" "family" "Shifted.family" fm fo)(EI:V.Tm "Mirror" "family" "Mirror.family" ft fu)(EJ:V.Tm "Turn" "family" "Turn.family" fv fw)(EK:V.Tm "Rehue" "family" "Rehue.family" fz fA)(uI:V.a "Motif" "shifts")(uU:V.a "Motif" "place")(uL:fO V)(BB:fP V)(uP:V.a "Over" "above")(uR:V.a "Over" "below")(uN:V.a "Shifted" "form")(BC:fQ V)(uO:V.a "Mirror" "form")(BD:fR V)(uT:V.a "Turn" "form")(uQ:V.a "Rehue" "form"):∀ j x,x∈(["Motif","Over","Shifted","Mirror","Turn","Rehue"]:List y8)->V.Q (3+j) x "family" bK (ofX (br j x)):=by
 intro j;induction j with
 |zero=>
  intro x hx;simp only[xJ,yQ,or_false] at hx;rcases hx with rfl|rfl|rfl|rfl|rfl|rfl
  .exact CalMth.never EF (λds M R RX=>de)
  .exact CalMth.never EG (λds M R RX=>de)
  .exact CalMth.never EH (λds M R RX=>de)
  .exact CalMth.never EI (λds M R RX=>de)
  .exact CalMth.never EJ (λds M R RX=>de)
  .exact CalMth.never EK (λds M R RX=>de)
 |succ j BE=>
  intro x hx;simp only[xJ,yQ,or_false] at hx;rcases hx with rfl|rfl|rfl|rfl|rfl|rfl
  .exact ok_Motif_family (n:=3+j) (j:=j) (by omega) EF uI uU uL
  .exact xn (n:=3+j) (j:=j) (by omega) EG BB uP uR BE
  .exact xo (n:=3+j) (j:=j) (by omega) EH uN BE
  .exact xp (n:=3+j) (j:=j) (by omega) EI BC uO BE
  .exact xq (n:=3+j) (j:=j) (by omega) EJ BD uT BE
  .exact xr (n:=3+j) (j:=j) (by omega) EK uQ BE
abbrev ny(V:Bx):Prop:=V.MM 18 "form_from" bS (cr 6)
abbrev nz(V:Bx):Prop:=∀ x,x∈(["Motif","Over","Shifted","Mirror","Turn","Rehue"]:List y8)->V.Q 9 x "family" bK (ofX (br 6 x))
abbrev jH(V:Bx):Prop:=V.X 19 "read" jm nq
def xu(T:V.T "read" jl jm)(uG:V.m "len")(uE:ny V)(Dz:V.gi "MOST" 720)(uD:V.a "Reading" "place")(DB:jE V)(DC:jF V)(uB:nz V)(uJ:fE V)(DD:V.n "TooGreat"):jH V:=by
 refine CalMM.nilX (Tx.okM T sc_read (λds M R RX h=>?_) (λf cdv A outer s H E J hr hx=>⟨_,((ar (aP 1 sc_read.nd (rZ DB hr (ax (ad (aa 0) af))))
   (ar (aP 2 sc_read.nd (aO uE hx hr (ax (ad (aa 1) (ad ac af)))))
   (ar (bC (lM (aQ uD (ah (aa 1))) (ah (gq uG (ad (aa 0) af)))) (aA (gH uJ hr hx rfl (aN (aQ uD (ah (aa 1))) aY))) bv)
   (ar (aP 3 sc_read.nd (cz uB hx hr (ah (aa 2))))
   (ar (bC (bI (qw (aI (ag (aa 3) ac) (ag (aa 3) ac)) (eu Dz))) (aA (sk DD hx rfl (ax (ad ao af)))) bv)
   (aA (aK (ah (gy DC hr (ad (aa 0) (ad (aa 3) (ad (aa 2) af))))))))))))),λds M R RX b8 h=>?_⟩))
 .obtain⟨_,R0,AD,h,_⟩:=h;rcases h with⟨_,_,rfl,_⟩|⟨_,rfl,_⟩<;>rfl
 .obtain⟨rfl,R0,AD,h,hR,hX⟩:=h;obtain⟨t,ht,Ga,s8⟩:∃ t:y8,ds=[.str t]/\t.length<=100000/\((∃ k:Nat,ck t=be k/\AD "WrongSign" [("place",.int k)])\/∃ p:Pat,t=p.text/\p.Syn/\p.depth<=5/\p.Cal/\(∀ k:Nat,p.lineAt 0=be k->AD "OneLine" [("place",.int k)])/\(p.lineAt 0=t8->¬ p.Fits->AD "TooGreat" [])/\(p.lineAt 0=t8->p.Fits->∀ d,ng p d->R0 d)):=by
   rcases h with⟨t,k,e,h1,h2,h3⟩|⟨p,e,h1,h2,h3⟩
   .exact⟨t,e,h1,.inl ⟨k,h2,h3⟩⟩
   .exact⟨p.text,e,by have:=Pat.syn_short h1 h2;lia,.inr ⟨p,rfl,h1,h2,h3⟩⟩
  subst ht;have d5:At t 0 (cs t):=⟨rfl,yg _,Ga⟩;refine⟨λd M'=>∃ a,d= .ptr a/\M'=RdM a t 0,⟨t,rfl,λa _=>⟨a,rfl,rfl⟩⟩,?_⟩;rintro _ _ ⟨a,rfl,rfl⟩;k_places;refine⟨λv M'=>∃ p l',p.Syn/\p.depth<=5/\cs t=p.tl++l'/\FormOf p 0 v/\M'=RdM a t p.tl.length,⟨a,t,0,cs t,0,rfl,rfl,d5,rfl,by decide,λp l' h1 h2 h3 v h4=>⟨p,l',h1,by lia,h3,h4,by rw[zj]⟩,λi hi M'=>?_⟩,?_⟩
  .rw[b8];have hw:ck t=be i:=hi [];rcases s8 with⟨k,h1,h2⟩|⟨p,rfl,h1,h2,_⟩
   .rw[hw] at h1;cases h1;exact hX _ _ _ h2
   .rw[mI h1 h2] at hw;cases hw
  rintro v _ ⟨p,l',hp,Dq,hl,hv,rfl⟩;k_places;have hw:ck t=walk [] l' p.tl.length:=by
   unfold ck;rw[hl,bQ hp 0 [] l' 0 (by lia),zj]
  have b9:t.length=p.tl.length+l'.length:=by rw[<- bP,hl,xP]
  refine⟨_,aG,_,cm,by lia,ite2 (λc=>?_) (λc=>?_)⟩
  .have c':=of_decide_eq_true c;refine⟨_,aG,_,cm,by show(1:Nat)<=1000;decide,(p.tl.length:Int),rfl,?_⟩;rw[b8];have w_:ck t=be p.tl.length:=by
    rw[hw];cases l' with
    |nil=>simp at b9;lia
    |cons c l=>simp[walk,step,aB,aC]
   rcases s8 with⟨k,h1,h2⟩|⟨q,rfl,h1,h2,_⟩
   .rw[w_] at h1;cases h1;exact hX _ _ _ h2
   .rw[mI h1 h2] at w_;cases w_
  have c':¬ ((p.tl.length:Int)<(t.length:Int)):=λz=>c (decide_eq_true z);have Gb:l'=[]:=zw (by lia);subst Gb;rcases s8 with⟨k,h1,h2⟩|⟨q,rfl,h1,h2,d8,DF,AH,BF⟩
  .rw[hw] at h1;cases h1
  obtain⟨rfl,_⟩:=vH (p:=q) (q:=p) (x:=[]) (y:=[]) h1 hp (by rw[<- bY,hl];simp);obtain⟨fs,rfl,hf,_⟩:=hv.objm;refine⟨λd M'=>∃ w h s,q.lineAt 0=t8/\q.Fam w h s/\d= .tup [.int w,.int h,.int s],⟨q.cls,q.cls_mem,fs,⟨rfl,rfl⟩,hf,q,0,_,rfl,hv,hp,by lia,rfl,d8,λi hi=>?_,λhn w h s F=>⟨w,h,s,hn,F,rfl⟩⟩,?_⟩
  .rw[b8];exact hX _ _ _ (DF i hi)
  rintro _ M' ⟨w,h,s,hn,F,rfl⟩;k_places;have gV:=Pat.line_wf 0 hp hn;have Ew:=Pat.cal_w gV d8 F;have FQ:=F.f.w0;refine⟨_,rfl,_,rfl,.inl ⟨by lia,by lia⟩,ite2 (λc=>?_) (λc=>?_)⟩
  .have c2:=of_decide_eq_true c;refine⟨by show(1:Nat)<=1000;decide,?_⟩;rw[b8];refine hX _ _ _ (AH hn λ⟨w',h',s',F',hb⟩=>?_);obtain⟨rfl,rfl,_⟩:=F.uniq F';lia
  .have c2:¬ (720<w*h):=λz=>c (decide_eq_true z);refine⟨_,_,_,_,_,_,rfl,hR _ _ (BF hn ⟨w,h,s,F,by lia⟩ _ ⟨w,h,s,_,rfl,rfl,gT (by decide+kernel),⟨F,0,_,vE (by decide+kernel) (by decide+kernel),hv⟩⟩)⟩
abbrev jI(V:Bx):Prop:=V.D 1 "_law_whole" jp tM
def xv(T:V.T "_law_whole" jn jp)(B3:V.m "isinstance")(DG:V.m "bool")(uH:V.m "int"):jI V:=by
 refine Tx.okDW T wl (λds R h=>?_) (λf cdv A outer s H E J hr=>⟨_,((av (aJ (dY (kZ B3 uH (aa 0) PyProof.Rows.boot_int qE) (gu (kY (kZ B3 DG (aa 0) PyProof.Rows.boot_bool kit_bool))))))),λds R h=>?_⟩)
 .obtain⟨i,rfl,_⟩:=h;rfl
 .obtain⟨i,rfl,hR⟩:=h;exact hR
abbrev nA(V:Bx):Prop:=V.Ek ["MotifError","WrongSign","OneLine","TooGreat"]
def xx{fa:GD}{fd:GR}(F:Fun V.K "law" "law" fB fa fd)(uC:V.m "range")(uK:fD V)(DJ:js V)(DK:ju V)(DL:jv V)(DM:jw V)(DN:jx V)(DO:jH V)(DP:jI V)(DQ:V.x "place" ["WrongSign","OneLine"])(ek:nA V):FnOk V.P V.w V.K V.mg V.base (Exc.CX1 V.P V.w) 20 fa fd jq (lSp V.K cS):=by
 refine Fun.okDW F sc_law (λds R h=>?_) (λcdv A outer s H E J hr=>⟨_,((ai (am 1 sc_law.nd (aq ac (au (aS uK hr (ad (aa 0) (ad ac af))) ac)))
   (ai (eg 2 sc_law.nd af)
   (ai (eg 3 sc_law.nd af)
   (ai (cw 4 PassesOwn.never rfl sc_law.nd uC (aa 1) (ai (am 5 sc_law.nd (aS DJ hr (ad (aa 0) (ad (aq ac (aI ac (aa 4))) (ad ac af)))))
    (ai (lr rfl (aS DK hr (ad (aa 5) (ad (aS uK hr (ad (aa 0) (ad (aq ac (aI ac (aa 4))) af))) af))) (dg_cons 6 sc_law.nd (dg_cons 7 sc_law.nd el)))
    (ai (dF 3 (dW (aI (ag (aa 6) ac) (ag (aa 7) ac)) (aI (ag (aa 6) ac) (ag (aa 7) ac))))
    (av (dF 2 (aS DL hr (ad (aS DM hr (ad (aS DN hr (ad (aa 5) af)) (ad (aa 6) (ad (aa 7) af)))) (ad (ag (aa 5) ac) af)))))))))
   (ai (am 8 sc_law.nd (et 2 ac))
   (ai (qV 4 PassesOwn.never rfl sc_law.nd uC ac (aa 1) (av (am 8 sc_law.nd (aq (aq (aq (aq ao (aa 8)) ao) (et 2 (aa 4))) ao))))
   (ai (gw (aZ (au (aS uK hr (ad (aa 0) (ad ac af))) ac) ac) (ai (am 8 sc_law.nd (et 2 (bp (aa 1) ac)))
    (av (tE 4 PassesOwn.never rfl sc_law.nd uC (bp (aa 1) ac) (bU ac) (bU ac) (av (am 8 sc_law.nd (aq (aq (aq (aq ao (et 2 (aa 4))) ao) (aa 8)) ao)))))) bu)
   (ai (am 9 sc_law.nd (bU ac))
   (ai (am 10 sc_law.nd dA)
   (ai (rH (λpn xe J hp hx=>(ai (qH (qX DO hx hr (ad (aa 8) af)))
    (av (am 10 sc_law.nd dA)))) (rk 11 ek sc_law.nd (λe=>(av (am 9 sc_law.nd (rq DQ (aa 11))))) (rj ek (λe=>(av (am 10 sc_law.nd dA))) ri)))
   (dZ 3 (ai (bM (rC dA (aa 3)) (av (aJ (aa 10))) bu)
   (ai (am 12 sc_law.nd (bU ac))
   (ai (cw 4 PassesOwn.never rfl sc_law.nd uC (aq ac (tf (aa 3) dA)) (av (am 12 sc_law.nd (sW (aa 8) (ad ao (ad (aq (aa 12) ac) af))))))
   (av (aJ (dY (kY (aa 10)) (dY (aS DP hr (ad (aa 9) af)) (gu (dW (aa 9) (aa 12)))))))))))))))))))))),λds R h=>?_⟩)
 .obtain⟨ns,rfl,_⟩:=h;rfl
 .obtain⟨ns,rfl,hl,hR⟩:=h;refine⟨λd=>∃ m:Nat,d= .int m/\1<=m/\m<=4,⟨ns,0,rfl,by decide,by decide,(1+cell ns 0 % 4).toNat,by rw[yH (by lia)],by lia⟩,?_⟩;rintro _ ⟨m,rfl,hm⟩;k_places;refine⟨by simp,by simp,⟨by lia,by lia⟩,λk z=>∃ (qs:List (Pat × Bool)) (o4 o5 o6 o7:Option D),z=[be (.rol (ns.map D.int)),be (.int m),be (.own (qs.map λq=>D.str q.1.text)),be (.own (qs.map λq=>D.bl q.2)),o4,o5,o6,o7,t8,t8,t8,t8,t8]/\qs.length=k/\∀ q∈qs,Own1 q,⟨[],_,_,_,_,rfl,rfl,(λx hx=>by cases hx)⟩,?_,?_⟩
  .rintro k v z hk ⟨qs,o4,o5,o6,o7,rfl,hq,n8⟩;k_places;obtain⟨AC,rfl⟩:=range_int hk;refine⟨λx=>∃ xs:List Int,x= .lst (xs.map D.int)/\xs.length=40/\Drawn xs,⟨.inl ⟨by lia,by lia⟩,ns,_,40,rfl,by lia,by decide,λxs h1 h2=>⟨xs,rfl,h1,h2⟩⟩,?_⟩;rintro _ ⟨xs,rfl,xl,xd⟩;k_places;refine⟨.inl ⟨by lia,by lia⟩,ns,_,rfl,by lia,xs,_,rfl,by lia,xd,λa b c d ha hb hc hd=>⟨rfl,?_⟩⟩;have a7:=bO (xs:=xs) (k:=7) (by decide) (show 7<xs.length by lia);have v5:=@id (∀ x,B12 x->-12<=x/\x<=12) λx h=>h;refine⟨_,rfl,_,rfl,.inl ?_,_,rfl,_,rfl,.inl ?_,?_,xs,rfl,by lia,xd,λL rows=>⟨L,a,b,c,d,rfl,rows,ha,hb,hc,hd,_,a7,.mot L a b c d,_,rfl,wt ⟨rows,ha,hb,hc,hd⟩,rfl,λq wq dq fq=>⟨?_,?_⟩⟩⟩
   .have:=v5 a ha;have:=v5 d hd;exact⟨by lia,by lia⟩
   .have:=v5 b hb;have:=v5 c hc;exact⟨by lia,by lia⟩
   .rw[xU];lia
   .rw[xU];lia
   .refine⟨qs++[(q,decide (a*d=b*c))],_,_,_,_,by rw[yo,yo];rfl,by simp[hq],λx hx=>?_⟩;rcases yc.mp hx with z|z
    .exact n8 x z
    .rw[xF.mp z];exact⟨wq,dq,fq⟩
  rintro z ⟨qs,o4,o5,o6,o7,rfl,hq,n8⟩;k_places;have hq:qs.length=m:=by simpa using hq
  have own:∀ (k:Nat) (h:k<qs.length),atI (qs.map λq=>D.str q.1.text) (k:Int)=be (.str qs[k].1.text):=λk h=>dn (by rw[yj,ya h];rfl);have ok:∀ (k:Nat) (h:k<qs.length),Own1 qs[k]/\qs[k].1.text.length<=3510:=λk h=>⟨n8 _ (yO h),Pat.syn_short (n8 _ (yO h)).1.syn (by have:=(n8 _ (yO h)).2.1;lia)⟩;have l1:("(":y8).length=1:=rfl;have l2:("|":y8).length=1:=rfl;have l3:(")":y8).length=1:=rfl;have h0:0<qs.length:=by lia
  refine⟨λx=>x= .str qs[0].1.text,⟨_,own 0 h0,rfl⟩,?_⟩;rintro _ rfl;k_places;refine⟨⟨by lia,by lia,by lia,by lia⟩,λk z=>∃ (P:Pat) (o4:Option D),z=[be (.rol (ns.map D.int)),be (.int m),be (.own (qs.map λq=>D.str q.1.text)),be (.own (qs.map λq=>D.bl q.2)),o4,o5,o6,o7,be (.str P.text),t8,t8,t8,t8]/\Built ((qs.take (k+1)).map (·.2)) (k+1) P,⟨_,_,rfl,?_⟩,?_,?_⟩
  .have e:qs.take 1=[qs[0]]:=by
    rw[show(1:Nat)=0+1 from rfl,mC (ya h0)];rfl
   show Built ((qs.take 1).map (·.2)) 1 _;rw[e];exact Built.one (ok 0 h0).1
  .rintro k v z hk ⟨P,o4,rfl,hP⟩;k_places;obtain⟨AC,rfl⟩:=vF hk;have h1:k+1<qs.length:=by lia
   have tP:=Pat.syn_short hP.1.syn (by have:=hP.2.1;lia);have tq:=(ok _ h1).2;have ow:=own _ h1;rw[show((k+1:Nat):Int)=1+(k:Int) by lia] at ow;refine⟨λx=>x= .str (Pat.over P qs[k+1].1).text,⟨by lia,by rw[aw];lia,_,ow,by rw[aw,aw];lia,by rw[aw,aw,aw];lia,rfl⟩,?_⟩;rintro _ rfl;k_places;refine⟨_,_,rfl,?_⟩;rw[mC (ya h1),yo];exact hP.left (by lia) (by lia) (ok _ h1).1
  rintro z ⟨P,o4,rfl,hP⟩;k_places;have hP:Built (qs.map (·.2)) m P:=by
   have e:(zt (λk=>D.int (1+((k:Nat):Int))) (xY ((m:Int) - 1).toNat)).length+1=m:=by
    rw[xU,Aw];lia
   rw[e,<- hq,List.take_length,hq] at hP;exact hP
  refine⟨λz=>∃ (P:Pat) (o4:Option D),z=[be (.rol (ns.map D.int)),be (.int m),be (.own (qs.map λq=>D.str q.1.text)),be (.own (qs.map λq=>D.bl q.2)),o4,o5,o6,o7,be (.str P.text),t8,t8,t8,t8]/\Built (qs.map (·.2)) m P,⟨ns,1,rfl,by decide,by decide,ite2 (λ_=>?_) λ_=>⟨P,_,rfl,hP⟩⟩,?_⟩
  .have x8:m - 1<qs.length:=by lia
   refine⟨λx=>x= .str qs[m - 1].1.text,⟨_,by rw[show(m:Int) - 1=((m - 1:Nat):Int) by lia];exact own _ x8,rfl⟩,?_⟩;rintro _ rfl;k_places;refine⟨⟨by lia,by lia,by decide,by decide⟩,rfl,λk z=>∃ (P:Pat) (o4:Option D),z=[be (.rol (ns.map D.int)),be (.int m),be (.own (qs.map λq=>D.str q.1.text)),be (.own (qs.map λq=>D.bl q.2)),o4,o5,o6,o7,be (.str P.text),t8,t8,t8,t8]/\Built ((qs.drop (m - 1 - k)).map (·.2)) (k+1) P,⟨_,_,rfl,?_⟩,?_,?_⟩
   .show Built ((qs.drop (m - 1)).map (·.2)) 1 _;rw[zf x8,show m - 1+1=qs.length by lia,zH];exact Built.one (ok _ x8).1
   .rintro k v z hk ⟨P,o4,rfl,hP⟩;k_places;have AC:k<((m:Int) - 2 - -1).toNat:=by simpa using(xO.mp hk).1
    have hv:v= .int ((m:Int) - 2 - (k:Int)):=by rw[yj,List.getElem?_range AC] at hk;exact(Option.some.inj hk).symm
    subst hv;have h1:m - 2 - k<qs.length:=by lia
    have tP:=Pat.syn_short hP.1.syn (by have:=hP.2.1;lia);have tq:=(ok _ h1).2;have ow:=own _ h1;rw[show((m - 2 - k:Nat):Int)=(m:Int) - 2 - (k:Int) by lia] at ow;refine⟨λx=>x= .str (Pat.over qs[m - 2 - k].1 P).text,⟨_,ow,by lia,by rw[aw];lia,by rw[aw,aw];lia,by rw[aw,aw,aw];lia,rfl⟩,?_⟩;rintro _ rfl;k_places;refine⟨_,_,rfl,?_⟩;rw[show m - 1 - (k+1)=m - 2 - k by lia,zf h1,show m - 2 - k+1=m - 1 - k by lia];exact hP.right (by lia) (by lia) (ok _ h1).1
   .rintro z ⟨P,o4,rfl,hP⟩;k_places;have e:(zt (λk=>D.int ((m:Int) - 2 - ((k:Nat):Int))) (xY ((m:Int) - 2 - -1).toNat)).length=m - 1:=by
     rw[xU,Aw];lia
    rw[e,show m - 1 - (m - 1)=0 by lia,List.drop_zero,show m - 1+1=m by lia] at hP;exact⟨P,_,rfl,hP⟩
  rintro z ⟨P,o4,rfl,hP⟩;k_places;have syn:=hP.1.syn;have tP:=Pat.syn_short syn (by have:=hP.2.1;lia);have hf:=hP.2.2;refine⟨λx=>x= .int (-1),rfl,?_⟩;rintro _ rfl;k_places;refine⟨λx=>x= .bl false,rfl,?_⟩;rintro _ rfl;k_places;refine⟨λz x fs=>z=[be (.rol (ns.map D.int)),be (.int m),be (.own (qs.map λq=>D.str q.1.text)),be (.own (qs.map λq=>D.bl q.2)),o4,o5,o6,o7,be (.str P.text),be (.int (-1)),be (.bl false),t8,t8]/\((x="OneLine"/\∃ i:Nat,P.lineAt 0=be i/\fs=[(("place":y8),D.int (i:Int))])\/(x="TooGreat"/\P.lineAt 0=t8)),λJ' hJ=>?_,?_⟩
  .show nq [.str P.text] _ (J'.RX _);rw[hJ];refine .inr ⟨P,rfl,syn,by have:=hP.2.1;lia,hP.1.cal,λk e=>⟨rfl,.inl ⟨rfl,k,e,rfl⟩⟩,λe _=>⟨rfl,.inr ⟨rfl,e⟩⟩,λe _ d hd=>?_⟩;refine⟨λx=>x= .bl true,rfl,?_⟩;rintro _ rfl;k_places;have c:=line_none syn e;rw[hf] at c;refine⟨⟨rfl,flat_bl qs⟩,?_⟩;rw[jr,c];exact hR
  .rintro z x fs ⟨rfl,h⟩;k_places;rcases h with⟨rfl,i,e,rfl⟩|⟨rfl,e⟩
   .refine⟨⟨by decide,by decide⟩,?_⟩;rw[if_pos (by decide+kernel)];refine⟨λx=>x= .int (i:Int),⟨by decide,_,rfl,rfl⟩,?_⟩;rintro _ rfl;k_places;obtain⟨c1,c2,c3⟩:=wv syn e;rw[hf] at c1 c2 c3;refine⟨⟨rfl,flat_bl qs⟩,?_⟩;rw[jr,c1];refine⟨λx=>x= .int (-1),rfl,?_⟩;rintro _ rfl;k_places;have Gc:(qs.map λq=>D.bl q.2).findIdx (λw=>eqF w (.bl true))<(qs.map λq=>D.bl q.2).length:=by
     rw[nw,xU];rw[xU] at c2;exact c2
    refine⟨⟨rfl,flat_bl qs⟩,Gc,?_⟩;rw[nw];rw[xU,hq] at c2;generalize (qs.map (·.2)).findIdx id=j at*;have pl:=Pat.flags_len syn;rw[hf,xU,hq] at pl;refine⟨⟨by lia,by lia⟩,λk z=>∃ (o:Nat) (y:Int) (o4:Option D),z=[be (.rol (ns.map D.int)),be (.int m),be (.own (qs.map λq=>D.str q.1.text)),be (.lst (qs.map λq=>D.bl q.2)),o4,o5,o6,o7,be (.str P.text),be (.int (i:Int)),be (.bl false),t8,be (.int y)]/\y+1=(o:Int)/\aE ((cs P.text).drop o) o=(aE P.tl 0).drop k/\(0<k->(aE P.tl 0)[k - 1]?=be (o - 1)/\1<=o),⟨0,-1,_,rfl,rfl,by rw[bY];rfl,λz=>absurd z (yA 0)⟩,?_,?_⟩
    .rintro k v z hk ⟨o,y,o4,rfl,hy,ho,_⟩;k_places;obtain⟨AC,rfl⟩:=range_int hk;have EL:k<(aE P.tl 0).length:=by lia
     rw[zf EL] at ho;obtain⟨a,r,e1,e2,e3,e4⟩:=wr ho;refine⟨λx=>x= .int (a:Int),⟨a,r,by rw[hy];exact e1,rfl⟩,?_⟩;rintro _ rfl;k_places;refine⟨a+1,a,_,rfl,rfl,by rw[e2];exact e4,λ_=>⟨?_,by lia⟩⟩;rw[zF,zF,e2];exact ya EL
    rintro z ⟨o,y,o4,rfl,hy,_,ho⟩;k_places;rw[gL] at ho;obtain⟨h1,h2⟩:=ho (by lia);rw[show(1+(j:Int)).toNat - 1=j by lia,c3] at h1;have h3:i=o - 1:=Option.some.inj h1;refine⟨_,rfl,?_⟩;show R (.bl (decide (_=_)));rw[decide_eq_true (by lia)];exact hR
   .refine⟨⟨by decide,by decide⟩,?_⟩;rw[if_neg (by decide+kernel)];refine⟨⟨by decide,by decide⟩,?_⟩;rw[if_pos (by decide+kernel)];refine⟨λx=>x= .bl true,rfl,?_⟩;rintro _ rfl;k_places;have c:=line_none syn e;rw[hf] at c;refine⟨⟨rfl,flat_bl qs⟩,?_⟩;rw[jr,c];exact hR
end
local macro_rules | `(tactic| walk_at "b1") => `(tactic| exact sS λ_ _ _ _ _ _ _ => rfl)
local macro_rules | `(tactic| walk_at "b2") => `(tactic| exact bind2 λ_ _ _ _ _ _ _ _ => rfl)
local macro_rules | `(tactic| walk_at "b3") => `(tactic| exact bind3 λ_ _ _ _ _ _ _ _ _ => rfl)
local macro_rules | `(tactic| walk_at "b4") => `(tactic| exact bind4 λ_ _ _ _ _ _ _ _ _ _ => rfl)
local macro_rules | `(tactic| walk_at "b5") => `(tactic| exact bind5 λ_ _ _ _ _ _ _ _ _ _ _ => rfl)
structure TopIn(K:xE):Prop where
 uFX:FnIn K "_law_at" gU
 uDJ:FnIn K "_law_draws" gX
 uFG:FnIn K "_law_shift_pair" gZ
 uEL:FnIn K "_law_pair" hU
 uCU:FnIn K "_law_dressed" hZ
 uER:FnIn K "_law_motif_text" ib
 uFD:FnIn K "_law_lines" ie
 uEO:FnIn K "line_from" ip
 uFW:FnIn K "lines_from" ir
 uGC:FnIn K "number_from" iv
 uDH:FnIn K "shift_from" iy
 uCX:FnIn K "levelled" iA
 uEG:FnIn K "spread" iC
 uDC:FnIn K "home" iE
 uFJ:FnIn K "hues_by_home" iG
 uGA:FnIn K "motif_from" iK
 uFV:FnIn K "over_from" eX
 uEB:FnIn K "shifted_from" eY
 uFY:FnIn K "rehue_from" eZ
 uCZ:FnIn K "form_from" fb
 uDF:FnIn K "measure" jc
 uDZ:FnIn K "met" je
 uFO:FnIn K "mirrored" jh
 uED:FnIn K "turned" jj
 uGG:FnIn K "read" jl
 uEK:FnIn K "_law_whole" jn
 uES:FnIn K "law" fB
 uDD:NnIn K "len"
 uEN:NnIn K "range"
 uGF:NnIn K "int"
 uDR:NnIn K "str"
 uEZ:NnIn K "abs"
 uEC:NnIn K "enumerate"
 uDP:NnIn K "isinstance"
 uFC:NnIn K "bool"
 uAO:ClIn K "Reading"
 uAT:ClIn K "Motif"
 uCG:ClIn K "Mirror"
 uCE:ClIn K "Turn"
 uBI:ClIn K "Over"
 uAQ:ClIn K "Shifted"
 uAU:ClIn K "Rehue"
 uCB:ClIn K "Pattern"
 uDL:InIn K "Motif" "Motif.__init__" iI
 uFM:InIn K "Mirror" "Mirror.__init__" iM
 uEA:InIn K "Turn" "Turn.__init__" iO
 uFK:InIn K "Over" "Over.__init__" iQ
 uEU:InIn K "Shifted" "Shifted.__init__" iS
 uFU:InIn K "Rehue" "Rehue.__init__" iU
 uEP:InIn K "Reading" "Reading.__init__" iW
 uFH:InIn K "Pattern" "Pattern.__init__" iY
 uEV:MtIn K "Reading" "may_take" "Reading.may_take" ik
 uDE:MtIn K "Reading" "take" "Reading.take" im
 uGB:MtIn K "Motif" "family" "Motif.family" fg
 uDW:MtIn K "Over" "family" "Over.family" fj
 uEX:MtIn K "Shifted" "family" "Shifted.family" fm
 uEQ:MtIn K "Mirror" "family" "Mirror.family" ft
 uFQ:MtIn K "Turn" "family" "Turn.family" fv
 uFR:MtIn K "Rehue" "family" "Rehue.family" fz
 uDB:NoIn K "Reading" "text"
 uFA:NoIn K "Reading" "place"
 uEM:NoIn K "Motif" "place"
 uEH:NoIn K "Motif" "shifts"
 uFZ:NoIn K "Motif" "hues"
 uFI:NoIn K "Mirror" "form"
 uCW:NoIn K "Turn" "form"
 uCV:NoIn K "Over" "above"
 uEE:NoIn K "Over" "below"
 uDG:NoIn K "Shifted" "form"
 uEF:NoIn K "Shifted" "x"
 uFF:NoIn K "Shifted" "y"
 uEJ:NoIn K "Rehue" "form"
 uFE:NoIn K "Rehue" "old"
 uCT:NoIn K "Rehue" "new"
 uDM:NoIn K "Pattern" "text"
 uDT:NoIn K "Pattern" "shifts"
 uDQ:NoIn K "Pattern" "form"
 uFP:CsIn K "SIGNS" ".123456"
 uGD:CiIn K "LONGEST" 8
 uDI:CiIn K "DEEP" 5
 uFL:CiIn K "MOST" 720
 eb:EbIn K
 uJ:E1In K "WrongSign" "WrongSign.__init__" ii
 uV:EaIn K "WrongSign"
 uCJ:NoIn K "WrongSign" "place"
 uFT:EgIn K "WrongSign"
 uL:E1In K "OneLine" "OneLine.__init__" ja
 uX:EaIn K "OneLine"
 uCO:NoIn K "OneLine" "place"
 uCY:EgIn K "OneLine"
 uCP:E0In K "TooGreat"
 uEY:EiIn K "MotifError"
 uCS:EmIn K "MotifError" "MotifError"
 uGE:EmIn K "MotifError" "WrongSign"
 uFS:EmIn K "MotifError" "OneLine"
 uDA:EmIn K "MotifError" "TooGreat"
 uDV:EmIn K "WrongSign" "MotifError"
 uDU:EmIn K "WrongSign" "WrongSign"
 uDX:EmIn K "WrongSign" "OneLine"
 uCR:EmIn K "WrongSign" "TooGreat"
 uEI:EmIn K "OneLine" "MotifError"
 uEW:EmIn K "OneLine" "WrongSign"
 uCQ:EmIn K "OneLine" "OneLine"
 uET:EmIn K "OneLine" "TooGreat"
 uFB:EmIn K "TooGreat" "MotifError"
 uDS:EmIn K "TooGreat" "WrongSign"
 uDN:EmIn K "TooGreat" "OneLine"
 uDO:EmIn K "TooGreat" "TooGreat"
def xy{V:Bx}{h:Heap}(t:TopIn V.K)(X:V.K.In h)(G:h.Ns GF V.mg){fa:GD}{fd:GR}(F:Fun V.K "law" "law" fB fa fd):FnOk V.P V.w V.K V.mg V.base (Exc.CX1 V.P V.w) 20 fa fd jq (lSp V.K cS):=by
 have uG:=mg_none_of X G t.uDD;have uC:=mg_none_of X G t.uEN;have uH:=mg_none_of X G t.uGF;have AN:=mg_none_of X G t.uDR;have Dc:=mg_none_of X G t.uEZ;have B2:=mg_none_of X G t.uEC;have B3:=mg_none_of X G t.uDP;have DG:=mg_none_of X G t.uFC;have uS:=t.uAO.a t.uDB;have uD:=t.uAO.a t.uFA;have uU:=t.uAT.a t.uEM;have uI:=t.uAT.a t.uEH;have Dh:=t.uAT.a t.uFZ;have uO:=t.uCG.a t.uFI;have uT:=t.uCE.a t.uCW;have uP:=t.uBI.a t.uCV;have uR:=t.uBI.a t.uEE;have uN:=t.uAQ.a t.uDG;have Dm:=t.uAQ.a t.uEF;have Dn:=t.uAQ.a t.uFF;have uQ:=t.uAU.a t.uEJ;have Do:=t.uAU.a t.uFE;have Dp:=t.uAU.a t.uCT;have Du:=t.uCB.a t.uDM;have Dv:=t.uCB.a t.uDT;have Dw:=t.uCB.a t.uDQ;have uW:=t.uFP.g X G;have B0:=t.uGD.g X G;have Bv:=t.uDI.g X G;have Dz:=t.uFL.g X G;have uV:=t.uJ.a t.eb t.uV X G;have C8:=t.uCJ.all;have uX:=t.uL.a t.eb t.uX X G;have Dx:=t.uCO.all;have DD:=t.uCP.k t.eb X G;have uY:=t.uEY.b X G;have DQ:V.x "place" ["WrongSign","OneLine"]:=AllP.mem ⟨t.uFT.g uV t.uCJ,t.uCY.g uX t.uCO,trivial⟩;have ek:nA V:=sT ⟨(let ⟨C,N,bm,k,_⟩:=t.eb.k X G;⟨C,N,bm,k⟩),(t.uJ.c t.eb X G),(t.uL.c t.eb X G),(let ⟨C,N,bm,k,_⟩:=t.uCP.k t.eb X G;⟨C,N,bm,k⟩),trivial⟩ ⟨⟨t.uCS,t.uGE,t.uFS,t.uDA,trivial⟩,⟨t.uDV,t.uDU,t.uDX,t.uCR,trivial⟩,⟨t.uEI,t.uEW,t.uCQ,t.uET,trivial⟩,⟨t.uFB,t.uDS,t.uDN,t.uDO,trivial⟩,trivial⟩;have uK:fD V:=ww (t.uFX.tx X G (by walk_at "b2")) uG;have DJ:js V:=wx (t.uDJ.tx X G (by walk_at "b3")) uC uK;have C5:jt V:=wy (t.uFG.tx X G (by walk_at "b1")) uH;have DK:ju V:=wA (t.uEL.tx X G (by walk_at "b2")) C5;have DL:jv V:=wC (t.uCU.tx X G (by walk_at "b2")) uC;have DM:jw V:=wD (t.uER.tx X G (by walk_at "b3")) AN;have DN:jx V:=wE (t.uFD.tx X G (by walk_at "b1")) uC uG;have uJ:fE V:=wF (t.uJ.txe t.eb X G (by walk_at "b2")) uY uV C8;have uF:cu V:=wG (t.uEV.txm t.uAO (by walk_at "b2")) uG uS uD;have uA:bT V:=wH (t.uDE.txm t.uAO (by walk_at "b2")) uD uF uJ;have BZ:jy V:=wI (t.uEO.tx X G (by walk_at "b3")) uC uW uA uF;have Di:jz V:=wJ (t.uFW.tx X G (by walk_at "b1")) uG BZ B0 uF;have B1:jA V:=wK (t.uGC.tx X G (by walk_at "b1")) uH uF uA;have uM:dN V:=wL (t.uDH.tx X G (by walk_at "b1")) B1 uA;have AO:fF V:=wM (t.uCX.tx X G (by walk_at "b2"));have uZ:fG V:=wN (t.uEG.tx X G (by walk_at "b2")) Dc AO;have Dd:jB V:=wO (t.uDC.tx X G (by walk_at "b3"));have Dg:jC V:=wP (t.uFJ.tx X G (by walk_at "b2")) B2 Dd uW;have Dj:jD V:=wQ (t.uDL.txi X G (by walk_at "b5")) uZ Dg uU uI Dh;have Bu:fH V:=wR (t.uGA.tx X G (by walk_at "b1")) Di uM uD Dj uA;have Bw:fJ V:=wS (t.uFM.txi X G (by walk_at "b2")) uO;have By:fK V:=wT (t.uEA.txi X G (by walk_at "b2")) uT;have Br:fL V:=wU (t.uFK.txi X G (by walk_at "b3")) uP uR;have Bs:fM V:=wV (t.uEU.txi X G (by walk_at "b4")) uN Dm Dn;have Bt:fN V:=wW (t.uFU.txi X G (by walk_at "b4")) uQ Do Dp;have uE:ny V:=xb (t.uFV.tx X G (by walk_at "b2")) (t.uEB.tx X G (by walk_at "b2")) (t.uFY.tx X G (by walk_at "b2")) (t.uCZ.tx X G (by walk_at "b2")) Br uA uM Bs uH Bt Bu Bv Bw By uF 6;have DB:jE V:=xc (t.uEP.txi X G (by walk_at "b2")) uS uD;have DC:jF V:=xg (t.uFH.txi X G (by walk_at "b4")) Du Dv Dw;have uL:fO V:=xh (t.uL.txe t.eb X G (by walk_at "b2")) uY uX Dx;have BA:jG V:=xi (t.uDF.tx X G (by walk_at "b2")) AO;have BB:fP V:=xj (t.uDZ.tx X G (by walk_at "b2")) BA;have BC:fQ V:=xk (t.uFO.tx X G (by walk_at "b1"));have BD:fR V:=xm (t.uED.tx X G (by walk_at "b1")) uZ;have uB:nz V:=xt (t.uGB.txm t.uAT (by walk_at "b1")) (t.uDW.txm t.uBI (by walk_at "b1")) (t.uEX.txm t.uAQ (by walk_at "b1")) (t.uEQ.txm t.uCG (by walk_at "b1")) (t.uFQ.txm t.uCE (by walk_at "b1")) (t.uFR.txm t.uAU (by walk_at "b1")) uI uU uL BB uP uR uN BC uO BD uT uQ 6;have DO:jH V:=xu (t.uGG.tx X G (by walk_at "b1")) uG uE Dz uD DB DC uB uJ DD;have DP:jI V:=xv (t.uEK.tx X G (by walk_at "b1")) B3 DG uH;exact xx F uC uK DJ DK DL DM DN DO DP DQ ek
def all_mk{l:zq}{w:GM}{K:xE}{h:Heap}{mg:y8->Option Da}{fa:GD}(X:K.In h)(G:h.Ns GF mg)(A_:mg "law"=be (.ref fa))(t:TopIn K):
  ∃ fd:GR,(∀ (s:GE) (v:Da),Hw s fd ⟨[v],[]⟩ [("_law_script",v)])/\∀ base:Heap,K.In base->base.Ns GF mg->FnOk l.prog w K mg base (Exc.CX1 l.prog w) 20 fa fd ["_law_script"] (lSp K cS):=by
 obtain⟨fd,b,F⟩:=t.uES.law X G A_ (λ_ _ _ _ _ _ _=>rfl);exact⟨fd,b,λbase _ _=>xy (V:=⟨l.prog,w,K,mg,base⟩) t X G F⟩
def law_walk{l:zq}{q:GH}{g6:List y8}{XP:(y8->Option Da)->Heap->Prop}{YP:GM->Heap->Prop}{d:DefRec}{K:Params->xE}(hn:l.most=be 63)(AY:d.params.defaults=[])
  (hY:∀ (w:GM) (h:Heap),YP w h->(K w.params).In h)
  (F:∀ (w:GM) (mg:y8->Option Da) (fa:GD) (h:Heap),(K w.params).In h->h.Ns GF mg->mg d.name=be (.ref fa)->
   ∃ fd:GR,(∀ (s:GE) (u:Da),Hw s fd ⟨[u],[]⟩ [("_law_script",u)])/\∀ base:Heap,(K w.params).In base->base.Ns GF mg->FnOk l.prog w (K w.params) mg base (Exc.CX1 l.prog w) 20 fa fd ["_law_script"] (lSp (K w.params) cS)):
  zP q g6 XP YP l.row.toRowW d [] (λf vs=>PySem.call f vs):=
 L2.walk_of (n:=63) (k:=20) (x:="_law_script") (CX:=λw=>Exc.CX1 l.prog w) (sp:=λw=>lSp (K w.params) cS) hn (by decide) AY ⟨rfl,by decide,by decide⟩ hY F (λ_ _ a ns hl _ hS=>qK hl hS) λ_ _ _ _ _ h=>by obtain⟨_,_,_,_,_,_,_,_,_,_,_,_,_,_,_,z⟩:=h;exact z
end My
open PySem PySem.W PyProof.Rows
local macro_rules | `(tactic| walk_at "top") => `(tactic| first | ((with_reducible refine' My.fnIn_mk ?a ?l ?c ?k); (case a => k_is); (case l => k_is); (case c => k_is); (case k => k_is)) | ((with_reducible refine' My.nnIn_mk ?a); (case a => k_is)) | ((with_reducible refine' My.noIn_mk ?a ?b); (case a => k_is); (case b => k_is)) | ((with_reducible refine' My.mtIn_mk ?a ?b ?i ?l ?c ?k); (case a => k_is); (case b => k_is); (case i => k_is); (case l => k_is); (case c => k_is); (case k => k_is)) | ((with_reducible refine' My.inIn_mk ?a ?mk ?b ?i ?kp ?l ?c ?k); (case a => k_is); (case mk => k_is); (case b => k_is); (case i => k_is); (case kp => k_is); (case l => k_is); (case c => k_is); (case k => k_is)) | ((with_reducible refine' My.clIn_mk ?a ?pg ?hd ?po ?sa ?ha ?hn ?ht ?hm); (case a => k_is); (case pg => k_is); (case hd => k_is); (case po => k_is); (case sa => k_is); (case ha => k_is); (case hn => k_is); (case ht => k_is); (case hm => k_is)) | ((with_reducible refine' My.ciIn_mk ?a); (case a => k_is)) | ((with_reducible refine' My.csIn_mk ?a); (case a => k_is)) | ((with_reducible refine' My.ebIn_mk ?a ?kp ?o ?nk ?al ?ni); (case a => k_is); (case kp => k_is); (case o => k_is); (case nk => k_is); (case al => rfl); (case ni => k_is)) | ((with_reducible refine' My.e0In_mk ?b ?a ?kp ?o ?nk ?al ?ni); (case b => k_is); (case a => k_is); (case kp => k_is); (case o => k_is); (case nk => k_is); (case al => rfl); (case ni => k_is)) | ((with_reducible refine' My.e1In_mk ?b ?a ?kp ?o ?j ?i ?l ?c ?k); (case b => k_is); (case a => k_is); (case kp => k_is); (case o => k_is); (case j => k_is); (case i => k_is); (case l => k_is); (case c => k_is); (case k => k_is)) | ((with_reducible refine' My.eaIn_mk ?a ?b); (case a => k_is); (case b => k_is)) | ((with_reducible refine' My.egIn_mk ?a ?b ?c); (case a => k_is); (case b => k_is); (case c => k_is)) | ((with_reducible refine' My.eiIn_mk ?a ?b ?c ?d); (case a => k_is); (case b => k_is); (case c => k_is); (case d => k_is)) | ((with_reducible refine' My.emIn_mkT ?e ?a ?c ?d); (case e => decide); (case a => k_is); (case c => k_is); (case d => k_is)) | ((with_reducible refine' My.emIn_mkF ?e ?a ?c ?d); (case e => decide); (case a => k_is); (case c => k_is); (case d => k_is)))
set_option maxRecDepth 100000 in
set_option maxHeartbeats 0 in
theorem PySem.Challenge.cw_motiffield_k10_one_line_holds : PySem.Challenge.rw_motiffield_k10_one_line.Holds := by
  w_on; o_law; k_head; (case hw => w_witness2)
  k_fill
  refine My.law_walk (l := PySem.Challenge.rw_motiffield_k10_one_line) rfl rfl (λw h Y => kIn_of Y) ?F
  case F =>
    intro w mg fa h KX G i7;refine My.all_mk KX G i7 ?_;constructor
    all_goals walk_at "top"
end
