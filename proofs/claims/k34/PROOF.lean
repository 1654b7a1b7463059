import PyProof.Rows.All
import Wide.All
import OpenK.AllK
import Wide.FinOn
import Lean
import PyProof.EqAt
import PyProof.EqKinds
import PyProof.TupleCall
import PySem.Challenge.RW_motiffield_k34_to_be_brought
set_option compiler.extract_closed false
set_option Elab.async false
set_option linter.all false
set_option maxRecDepth 100000
set_option maxHeartbeats 4000000
local macro_rules|`(#[$x,*])=>`(⟨$x,*⟩)
theorem KK{p:Prop}(h:p:=by lia):p:=h
theorem K3{p:Prop}(h:p:=by decide):p:=h
theorem K7{p:Prop}(h:p:=by decide+kernel):p:=h
theorem K_{p:Prop}(h:p:=by omega):p:=h
theorem K'{p:Prop}(h:p:=by simp):p:=h
theorem LZ{p:Prop}(h:p:=by k_memK):p:=h
theorem Mb{p:Prop}(h:p:=by walk_at "b2"):p:=h
theorem Md{p:Prop}(h:p:=by grind):p:=h
theorem Mi{p:Prop}(h:p:=by walk_at "b1"):p:=h
theorem Ni{p:Prop}(h:p:=by cases q:cd.mro with|nil=>rw[q]at hm;simp[aM]at hm|cons _ _=>rfl):p:=h
theorem NZ{p:Prop}(h:p:=by walk_at "b3"):p:=h
theorem O0{p:Prop}(h:p:=by show(2:Nat)<=1000;decide):p:=h
theorem P5{p:Prop}(h:p:=by show(1:Nat)<=1000;decide):p:=h
theorem Qc{p:Prop}(h:p:=by show(1:Nat)<1000;decide):p:=h
theorem Qk{p:Prop}(h:p:=by rw[<-hY];rfl):p:=h
theorem SN{p:Prop}(h:p:=by simp;lia):p:=h
theorem SO{p:Prop}(h:p:=by unfold mroIn;rw[hc,Ip,if_neg (by rw[ne];decide),eA K7 hm]):p:=h
open PySem renaming Str->F_
open Option renaming some->be,none->t9
open PySem renaming Value->KB,Addr->KF,wpAny_bind->KM,Shared->Os,mainGlobals->Pi,wpAny_pure->P3,model->SB,Stmt->SL,Program->SZ,Expr->Tn,wpAny->To,World->Tp,Around->Tq,starEach->Tr,assignEach->Ts,attributeBase->Tt,FuncData->Tu,eval->Tv,Pos->Tw,wpAny_Call_Name_kw->Tz,wpAny_newObj_type->TC,wpAny_mono->TF,swapsWith->TJ,compareOp->TK,Obj->TL,wpAny_loadPart_at->TM,bootBuiltins->TN,excClassObj->TQ,wpAny_holding->TR,behindInMarks->TU,binaryOp->TV,PassesOwn->TX,wpAny_passesOwn->TY,sysModules->TZ,holding->T1,Scope->T3,wpAny_standAt->T4,ExceptHandler->T5,wpAny_getItem_str_slice->T6,keywordEach->T7,codeAny_mono->T8,plainObj_wpAny_Assign_Attribute->T9,wpAny_call->T_,backTo->Ua,swapsWithSole->Ub,swappedStores->Uc,wpAny_field->Ud,sliceBounds->Ue,codeAny_call_builtin->Ug,NameKind->Uh,wpAny_execs_nil->Ui,assign->Uj,wpAny_isSubtype_exc->Uk,standAt->Ul,Env->Um,bindArgs->Uo,wpAny_truthy_bool->Up,wpAny_pyIter_enum->Uq,sizeLine_eq->Ur,tupleKind->Ut,noteFrame->Uu,backToKw->Uv,rawInt->Uw,BindsTo->Ux,post_val_or_str->Uy,letOwnedTupleGo->Uz,wpAny_setField->UA,getMethod->UB,codeAny->UC,Keyword->UD,isInstance->UE,wpAny_assign_Name->UG,callerA->UH,wpAny_lookBehind->UI,setFlight->UJ,pastItsLine_dict->UK,IsPart->UL,cLine->UM,atKey->UN,valueAt->UO,getItem->UP,wpAny_loadPart->UQ,wpAny_letOwnedTupleGo_enum->UR,handleBy->US,dictSetDefault->UT,bindName->UU,Operator->UV,wpAny_comprehension_free->UW,assignInOrder->UX,bindL->UY,bindC->UZ,ClassData->U0,wpAny_nsSet1->U1,setItem->U3,seqIndex_neg->U4,leaving->U5,getAttr->U6,codeAny_compStart_list->U7,call_meetsIn->U8,Sem->U9,codeAny_handlers_test->U_,wpAny_of_eq->Va,wpAny_newFunctionEnv->Vb,seqIndex_of->Vc,callWith->Vd,Model->Ve,GenState->Vf,CmpOp->Vg,wpAny_handleBy_cons->Vh,wpAny_call_exc_subT->Vi,wpAny_rule->Vj,wpAny_entryPlaceOf->Vk,wpAny_Name->Vl,typeIs_str->Vm,tupleKind_room_in1->Vn,builtinsNs->Vo,wpAny_frameOf_fun->Vp,setAttr->Vq,release->Vr,relabel->Vs,foldedSetIterable->Vt,Tok->Vv
open PyProof.Rows renaming envOfC->TB,AllBare->Us,assignInOrder_cons->UF,subscriptTail_builtinR->U2,IntsAre->U',assignInOrder_nil->Vu
open PySem.W renaming Frag->Ex,findIn->GR,mroIn->Hx,OpenLaw->IT,clsIn->IY,handedIn->Ju,WalkO->JA
open List renaming mem_singleton->GM,range->GO,mem_cons->GP,mem_cons_of_mem->GQ,mem_cons_self->GS,length_map->GT,length_cons->GU,size_toArray->GX,getElem?_map->GY,getElem?_eq_some_iff->GZ,getElem?_set_ne->G0,length_append->G2,lookup_cons->G3,getElem?_eq_getElem->G4,set_cons_succ->G6,map_cons->G7,set_cons_zero->G8,mem_append_right->Ha,mem_map->Hc,getElem_mem->Hg,mem_append->Hi,map_append->Hj,append_nil->Hl,getElem?_eq_none->Ho,getElem?_set_self->Hr,replicate->Hs,getElem?_append_left->Ht,length_set->Hv,getD->Hw,all_eq_true->Hy,append_assoc->HB,getElem?_range->HC,nodup_cons->HE,getElem?_append_right->HF,lookup->HJ,length_drop->HL,getElem?_set->HM,drop->HN,take_of_length_le->HP,drop_eq_getElem_cons->HU,mem_append_left->HV,all_cons->HW,map_nil->HX,find?_cons->HY,ext_getElem?->HZ,range_succ->H9,map_congr_left->Ia,nodup_append->Ib,map_map->Ie,not_mem_nil->Ii,length->Il,length_take->Im,mem_of_getElem?->Io,map->Iq,filterMap_cons->Ix,any_cons->IB,take_length->IH,drop_zero->IL,of_mem_zip->IQ,getElem?_replicate->IR,getElem?_take_of_lt->IS,contains_cons->IU,forIn_cons->IV,length_range->Jk,drop_of_length_le->Jn,mem_of_mem_drop->Jp,drop_eq_nil_of_le->Jq,mem_filter->Js,mem_filterMap->Jt,filterMap_map->Jw,length_singleton->Jz,nodup_nil->JD,take_succ->JH,dropLast_cons₂->JJ,eq_nil_of_length_eq_zero->JL,getElem?_drop->J4,map_take->J9,take_range->Ka,set_append_left->Kb,set_append_right->Kc,mem_or_eq_of_mem_set->Kd,map_set->Ke,take_append_drop->Kf,drop_length->Kg
open Nat renaming le_refl->GN,ne_of_lt->GV,le_trans->GW,lt_of_lt_of_le->G9,zero_le->Hb,ne_of_gt->HD,pow_succ->HG,lt_irrefl->HI,le_succ->HK,lt_or_ge->H8,pow_le_pow_right->Ig,min_eq_left->Ik,succ_mul->Ir,le_of_lt->Iw,le_of_eq->IA,le_of_not_lt->IC,mul_le_mul->IF,pow_pos->IJ,not_lt_zero->IK,min_eq_right->IM,lt_succ_of_lt->IW,add_comm->Jg,zero_add->Jl,sub_zero->Jo,lt_succ_self->Jv,lt_of_le_of_lt->JB,lt_trans->JC,log2_lt->JE,add_sub_add_right->JG,succ_ne_self->JK,mul_le_mul_right->JO,le_max_left->JS,le_max_right->JT,pow_add->JU,add_sub_cancel->JY,mod_eq_of_lt->J5,mul_succ->J8
open Bool renaming false_ne_true->G1,and_eq_true->Hf,eq_false_iff->Hm,eq_iff_iff->Iz,or_true->ID
open Int renaming mul_pos->G5,mul_comm->Hd,mul_le_mul_of_nonneg_right->Hk,mul_ediv_cancel->Hn,toNat_of_nonneg->Hq,toNat_natCast->Hu,emod_nonneg->Hz,emod_lt_of_pos->HA,zero_add->HH,natAbs_mul->HQ,emod_def->HR,mul_nonpos_of_nonpos_of_nonneg->HS,eq_of_mul_eq_mul_right->Ic,emod_add_mul_ediv->Ih,natCast_add->Ij,add_zero->Iu,le_trans->Iv,dvd_mul_of_dvd_right->IG,mul_neg->II,add_assoc->IN,ediv_nonneg->IP,mul_nonneg->Ja,fmod_eq_zero_of_dvd->Jb,natCast_mul->Jc,neg_mul->Jd,eq_of_mul_eq_mul_left->Je,dvd_add->Jf,mul_eq_zero->Jh,sub_mul->Ji,add_mul->Jj,ediv_le_self->Jr,natAbs_eq_zero->JF,fmod_nonneg_of_pos->JM,fmod_lt_of_pos->JN,mul_emod_left->JP,mul_le_mul_of_nonneg_left->JQ,dvd_mul_of_dvd_left->JR,mul_fdiv_cancel_of_fmod_eq_zero->JV,dvd_antisymm->JW,zero_mul->JX,add_mul_emod_self_right->J0,add_mul_ediv_right->J1,dvd_add_left->J2,dvd_mul_right->J3,natCast_emod->J6,ediv_eq_zero_of_lt->J7
open Option renaming bind_some->Ip,getD_none->Jy
open Array renaming length_toList->Iy,getElem?_eq_some_iff->IE,all_toList->IZ,getElem?_eq_getElem->JI,toList_inj->JZ
open PySem.W (InitBack any_some callWith_K callWith_K0 cellsFrom_some cls_value codeIn codeRec_of emptyDict eq_bytes findCls findObj_own fnOf get_value hasDictIn hideAll hideAll_get hideAll_none hideAll_size instObj isFn isNs_of_in kIn_of keepIn ki_setAt ki_setBack kia_one kitOne kitx_bool kitx_dict kitx_float kitx_int kitx_list kitx_none kitx_own kitx_str kitx_tuple kun_itemsOf len_bytes lookIn make_core makesIn makes_of methodCall_KW methodObj method_cls method_fn mg_none_of mg_of ne_bytes nsIn nsMap_none_of_in nsOkIn of_hideAll osa_open plainGet plainGet_of plainOver readsIn specialIn tailIn tail_of_in takerIn takesIn truthy_bytes)
def qZ0(_:0=0:=by rfl):=0
def zA0:=qZ0._auto_1
def qZ1(_:0=0:=by decide):=0
def zA1:=qZ1._auto_1
def qZ2(_:0=0:=by first|exact .inl rfl|exact .inr rfl|assumption):=0
def zA2:=qZ2._auto_1
def qZ3(_:0=0:=by exact λ_=>rfl):=0
def zA3:=qZ3._auto_1
def qZ4(_:0=0:=by first|exact Or.inl rfl|exact Or.inr rfl):=0
def zA4:=qZ4._auto_1
def qZ5(_:0=0:=by first|exact Or.inl rfl|exact Or.inr (Or.inl rfl)|exact Or.inr (Or.inr rfl)):=0
def zA5:=qZ5._auto_1
def qZ6(_:0=0:=by exact λ_ _=>rfl):=0
def zA6:=qZ6._auto_1
def qZ7(_:0=0:=by intros;rfl):=0
def zA7:=qZ7._auto_1
namespace PySem.W.Fast
def tw16632227781127442856:=Nat
def tw486668748768309424:=Nat
def tw15357066425758395815:=Nat
def tw8205048974535250123:=Nat
def tw4234704732055490401:=Nat
def tw17155469473775851899:=Nat
def tw6007315631320699071:=Nat
def tw6707209754392521904:=Nat
def tw1678440381463744506:=Nat
def tw11997681318607021308:=Nat
def tw17172939913168630029:=Nat
def tw16324166677259311820:=Nat
def tw2111764618499628898:=Nat
def tw13831978271277693147:=Nat
def tw10427426260134380713:=Nat
def tw3085714836398181650:=Nat
def tw6825878868676293664:=Nat
def tw8023208827337964949:=Nat
def tw1066970633967822518:=Nat
def tw6062496157910656039:=Nat
def tw17085497181987700556:=Nat
def tw9421117790209323923:=Nat
def tw5438476226006731009:=Nat
def tw2851425684914414518:=Nat
def tw1729284616253282619:=Nat
def tw18442146123334520026:=Nat
def tw9826305326044083666:=Nat
def tw3360492564241901836:=Nat
def tw5123420237196327379:=Nat
def tw17373421439237150043:=Nat
def tw7827048949669241578:=Nat
def tw17653804568369902220:=Nat
def tw352003308436120667:=Nat
def tw5118305468971435334:=Nat
def tw4343575301609061097:=Nat
def tw2281781555361396339:=Nat
def tw3651780410482759180:=Nat
def tw15185883575525001667:=Nat
def tw1795957456349265202:=Nat
def tw7128080993894469776:=Nat
def tw11133274632458412529:=Nat
def tw15469125454884105940:=Nat
def tw10759931483995996695:=Nat
def tw13723196645409341552:=Nat
def tw4206417722124747017:=Nat
def tw2417202704179554963:=Nat
def tw17740933573816139676:=Nat
def tw12760209926139505594:=Nat
def tw16282487345232040268:=Nat
def tw13549425683910894378:=Nat
def tw444826771458617842:=Nat
def tw13806417681987436704:=Nat
def tw16235698377102652919:=Nat
def tw4950469537681245847:=Nat
def tw4621023051310216005:=Nat
def tw6689847782009720117:=Nat
def tw17028102110951722296:=Nat
def tw8521864056123451391:=Nat
def tw5922554157697716759:=Nat
def tw3254451914461833631:=Nat
def tw1237328969894691695:=Nat
def tw10612286343389022578:=Nat
def tw13652972439110907818:=Nat
def tw4172130721275661205:=Nat
def tw8685124978232896858:=Nat
def tw688691688407261886:=Nat
def tw4106459519039747615:=Nat
def tw12662516486445821331:=Nat
def tw11375764444334347484:=Nat
def tw4626664696789980781:=Nat
def tw9010801319958785108:=Nat
def tw15550026383090556174:=Nat
def tw11454192594785038352:=Nat
def tw14953810560492778793:=Nat
def tw17423655343187382392:=Nat
def tw10332457642367633260:=Nat
def tw14761998933490343286:=Nat
def tw12510074453979215895:=Nat
def tw14206030472925978884:=Nat
def tw17491641142119460358:=Nat
def tw6187105959332886758:=Nat
def tw3293690305208810685:=Nat
def tw3937719226523198502:=Nat
def tw14431898591949879795:=Nat
def tw2503183300207537297:=Nat
def tw9030233785919933780:=Nat
def tw11301871680546586439:=Nat
def tw17387730030276691032:=Nat
def tw7052030589649324516:=Nat
def tw4205074209690216262:=Nat
def tw11754624776129042106:=Nat
def tw386536316597762630:=Nat
def tw17070174813606981937:=Nat
def tw5547888408887958257:=Nat
def tw10286336767882504564:=Nat
def tw15100647194192290763:=Nat
def tw4934089975236811466:=Nat
def tw1628094379563978311:=Nat
def tw9948896172042517660:=Nat
def tw5973354373560934333:=Nat
def tw1276852586812436116:=Nat
def tw15396881660649702978:=Nat
def tw18335907501236759501:=Nat
def tw7059079504491933659:=Nat
def tw17464042069620379037:=Nat
def tw14345722047211896343:=Nat
def tw1712408730126551857:=Nat
def tw17341741560356075211:=Nat
def tw11466395648156027160:=Nat
def tw4010851806006574006:=Nat
def tw6348293708169917586:=Nat
def tw3609060250900319090:=Nat
def tw10431657579077164741:=Nat
def tw11120159302055643075:=Nat
def tw3372134360447744795:=Nat
def tw7634924973799264307:=Nat
def tw169795174055336197:=Nat
def tw7322771732213421330:=Nat
def tw13596772378421879747:=Nat
def tw12170882092456746513:=Nat
def tw13387472776652464031:=Nat
def tw2933569397711499954:=Nat
def tw15632524705288218513:=Nat
def tw8001561950504987442:=Nat
def tw3864832896714683865:=Nat
def tw4349919321436014738:=Nat
def tw8079289598129413360:=Nat
def tw7987205202478684749:=Nat
def tw2001935131013309155:=Nat
def tw17542084272181191963:=Nat
def tw2947741232642053319:=Nat
def tw6016769045049662013:=Nat
def tw10528715061750247731:=Nat
def tw10390703528009506256:=Nat
def tw7677693068080567730:=Nat
def tw5847170678341303112:=Nat
def tw17976669964550475639:=Nat
def tw5806409358128293772:=Nat
def tw9599675879087798539:=Nat
def tw14934992125559466476:=Nat
def tw9053943113696739835:=Nat
def tw2234058701313196609:=Nat
def tw1670743967258872398:=Nat
def tw3232715807809261668:=Nat
def tw6000514632616468584:=Nat
def tw11555320356002616069:=Nat
def tw16825519333806933309:=Nat
def tw6391952342034720363:=Nat
def tw10455348670101387223:=Nat
def tw13886713676683429705:=Nat
def tw9716619439205741665:=Nat
def tw10129426894770775759:=Nat
def tw16181130643545014723:=Nat
def tw7918042651333189930:=Nat
def tw16407816108992378642:=Nat
def tw15786186156953748498:=Nat
def tw13806203886541963256:=Nat
def tw4774463082186835314:=Nat
def tw3457571770994150670:=Nat
def tw2694422186617596529:=Nat
def tw5266665894541124635:=Nat
def tw13719157205027256443:=Nat
def tw10085876035731058508:=Nat
def tw14644203098653710600:=Nat
def tw6885512673509132485:=Nat
def tw7808686983635245914:=Nat
def tw10048736900876348665:=Nat
def tw8133862469497970385:=Nat
def tw11219117698885046822:=Nat
def tw1456060223085436960:=Nat
def tw7380092055094056487:=Nat
def tw4547798427599095363:=Nat
def tw5427737379579305584:=Nat
def tw2438957916875166689:=Nat
def tw3079009995998307724:=Nat
def tw2727970850812407379:=Nat
def tw8628803035899010571:=Nat
def tw6704316447588992678:=Nat
def tw7672209654454512720:=Nat
def tw3912866304400227788:=Nat
def tw15544795634035127113:=Nat
def tw4088117005127011434:=Nat
def tw1018430742043603731:=Nat
def tw1286037120092778802:=Nat
def tw15589568358574489401:=Nat
def tw16072715548271458468:=Nat
def tw9795216850007027167:=Nat
def tw15112062023617517657:=Nat
def tw6349989992750384444:=Nat
def tw11863873898178905987:=Nat
def tw676844098064332995:=Nat
def tw16909267232418899402:=Nat
def tw13117633906694092806:=Nat
def tw16818006164289262573:=Nat
def tw6569405593971192611:=Nat
def tw16707382881414730030:=Nat
def tw13137033303630126244:=Nat
def tw18416929155708088127:=Nat
def tw7491297248591703471:=Nat
def tw487561950442381314:=Nat
def tw1767786291992239164:=Nat
def tw6008877145504861265:=Nat
def tw796676074008582878:=Nat
def tw3756522442494615003:=Nat
def tw6100320627789862566:=Nat
def tw5694976759699046068:=Nat
def tw11962960927664699691:=Nat
def tw2250443848126007653:=Nat
def tw1359947083482366709:=Nat
def tw12067847680533075504:=Nat
def tw16593259944198672250:=Nat
def tw5241777597533168210:=Nat
def tw9606125464086908749:=Nat
def tw1380735646836560693:=Nat
def tw4439296959668298052:=Nat
def tw16277877427830249042:=Nat
def tw2164556279991994938:=Nat
def tw10055728416985265011:=Nat
def tw10013572103432241727:=Nat
def tw5312256497667134098:=Nat
def tw5420626113956488378:=Nat
def tw8675011447993681221:=Nat
def tw6249813572469561689:=Nat
def tw15670190086281499392:=Nat
def tw5837130131402636687:=Nat
def tw10192999252898648757:=Nat
def tw13285734928412131733:=Nat
def tw3203395247751416850:=Nat
def tw14821841486830649214:=Nat
def tw9354509507967961234:=Nat
def tw16420472200477036062:=Nat
def tw8833848961886388249:=Nat
def tw16217848472967134949:=Nat
def tw7781624375045587243:=Nat
def tw15226692601739010379:=Nat
def tw3193946587601512866:=Nat
def tw15045697065088007425:=Nat
def tw2099172944228316397:=Nat
def tw14557865729904080561:=Nat
def tw1048942685246976550:=Nat
def tw11218086275542430791:=Nat
def tw8708495290580382901:=Nat
def tw12207882549928720290:=Nat
def tw3392111091292595443:=Nat
def tw17583103108513558193:=Nat
def tw1499503226674446793:=Nat
def tw2994078521729768372:=Nat
def tw2777703280537680424:=Nat
def tw17938003097085925655:=Nat
def tw14457220720562903215:=Nat
def tw12250080940388888578:=Nat
def tw7193846208648625731:=Nat
def tw17834692446852764136:=Nat
def tw13252839530476031378:=Nat
def tw10876348574893020318:=Nat
def tw15278483458489275572:=Nat
def tw765288033442783181:=Nat
def tw5590959866021047730:=Nat
def tw14943950831455304308:=Nat
def tw11669486682370843873:=Nat
def tw15821686169680509120:=Nat
def tw11164494081062633259:=Nat
def tw16445070609815945991:=Nat
def tw17245642805199653495:=Nat
def tw3356272889985358867:=Nat
def tw13280750357061035447:=Nat
def tw15593240856481516874:=Nat
def tw18221005461291340551:=Nat
def tw11017672828221014593:=Nat
def tw13007605375892373927:=Nat
def tw4129291647104793914:=Nat
def tw7332715284056650923:=Nat
def tw3035460983398459873:=Nat
def tw2318158777185982350:=Nat
def tw10606058421586825767:=Nat
def tw16939696612609837019:=Nat
def tw17100626307132531028:=Nat
def tw10956339643068722298:=Nat
def tw8295217233972587946:=Nat
def tw5118215183349523425:=Nat
def tw4939539567173251997:=Nat
def tw8341124389547336843:=Nat
def tw17122109326551025262:=Nat
def tw5428858890739701524:=Nat
def tw130141626866453189:=Nat
def tw15420511471553434300:=Nat
def tw16212757935457141182:=Nat
def tw9218522332362876012:=Nat
def tw4416587042565345738:=Nat
def tw11170834553105382895:=Nat
def tw15317190238082556624:=Nat
def tw5068725224190257019:=Nat
def tw11194025493145884604:=Nat
def tw7462660517283965542:=Nat
def tw11787683087619363129:=Nat
def tw5327383113522421133:=Nat
def tw3140013552922867658:=Nat
def tw15627988198691068673:=Nat
def tw5345406353378412315:=Nat
def tw14445441208053921631:=Nat
def tw15854713452987042553:=Nat
def tw6662308905179145498:=Nat
def tw9086456673883592739:=Nat
def tw950502904488260342:=Nat
def tw10164377773232461680:=Nat
def tw10630383737826826401:=Nat
def tw5005792417501405123:=Nat
def tw5584439607528937182:=Nat
def tw14642297575603183240:=Nat
def tw11292913227979254586:=Nat
def tw9459537056175727054:=Nat
def tw14688851833742441877:=Nat
def tw10802537833425633055:=Nat
def tw12179116318231673529:=Nat
def tw15316594599644316375:=Nat
def tw9305410955235828208:=Nat
def tw30160928248875132:=Nat
def tw17589317027973801885:=Nat
def tw6143312947433113694:=Nat
def tw10374093555441085728:=Nat
def tw13669435725899224930:=Nat
def tw9372148517216416799:=Nat
def tw15637791128912840123:=Nat
def tw5041155112749239821:=Nat
def tw15513796485920747477:=Nat
def tw15781979827207163997:=Nat
def tw16513814953344331220:=Nat
def tw18086285747023460164:=Nat
def tw4603107948033317476:=Nat
def tw14669133201619517270:=Nat
def tw18069455644686631294:=Nat
def tw11729241558676802753:=Nat
def tw11454608922076977470:=Nat
def tw1633226561008076480:=Nat
def tw13867208239312083672:=Nat
def tw11648604679246361804:=Nat
def tw560520327102352264:=Nat
def tw6018558530979881308:=Nat
def tw2540475391170968113:=Nat
def tw13365256534456283687:=Nat
def tw17424825202192804183:=Nat
def tw3429456763583267914:=Nat
def tw8141908474726693846:=Nat
def tw1402861756310615239:=Nat
def tw10706739656168811226:=Nat
def tw752693051938630575:=Nat
def tw6504074316785583735:=Nat
def tw4142758045567491253:=Nat
def tw4160966243138832007:=Nat
def tw11924801900603201212:=Nat
def tw16856518461608692646:=Nat
def tw13987513874113729311:=Nat
def tw17340682854513855692:=Nat
def tw5582734400359231481:=Nat
def tw4189900533814384740:=Nat
def tw14665478039687312028:=Nat
def tw12157679752721147758:=Nat
def tw8242036081128168596:=Nat
def tw17115152102248777230:=Nat
def tw6323825174300514771:=Nat
def tw2945927277573709426:=Nat
def tw6767292879472011830:=Nat
def tw3999260042847149097:=Nat
def tw17152481878104335053:=Nat
def tw9258198706262324777:=Nat
def tw3661054381394152496:=Nat
def tw14543847022131115194:=Nat
def tw17521550338173483641:=Nat
def tw17190515808850634877:=Nat
def tw6061748407142369781:=Nat
def tw4981137932350694718:=Nat
def tw13768233149703577944:=Nat
def tw9008595681534684910:=Nat
def tw16848301891642394403:=Nat
def tw16873458357258543086:=Nat
def tw6284124595682720129:=Nat
def tw1783614743730907093:=Nat
def tw3803377844655638086:=Nat
def tw10394915141366570702:=Nat
def tw12995397839028318199:=Nat
def tw2751061788198339620:=Nat
def tw3504649320033820527:=Nat
def tw13838803826491732650:=Nat
def tw12595007535507703460:=Nat
def tw17149388532952477326:=Nat
def tw5697395481367717401:=Nat
def tw16860093730880193890:=Nat
def tw7607265951238483607:=Nat
def tw12439153189858455915:=Nat
def tw5134688713622579201:=Nat
def tw15720489414730092499:=Nat
def tw10949318266957042056:=Nat
def tw15836113939593826191:=Nat
def tw17024292968074333495:=Nat
def tw3671030579475831865:=Nat
def tw7557569999057885925:=Nat
def tw16575236697417551520:=Nat
def tw15655439467261725242:=Nat
def tw12342796134708579388:=Nat
def tw17286841985452562947:=Nat
def tw15675252565730508477:=Nat
def tw11449633067118708768:=Nat
def tw12319976211062949576:=Nat
def tw9229576160559411341:=Nat
def tw7389019206089434964:=Nat
def tw13507722352418449320:=Nat
def tw1300236660436349314:=Nat
def tw9936747808156469138:=Nat
def tw5974666230014358175:=Nat
def tw3748380598467947600:=Nat
def tw8252908417667515162:=Nat
def tw10882009948135913448:=Nat
def tw1690129898975715253:=Nat
def tw4784680007305463304:=Nat
def tw7310650866350548887:=Nat
def tw1055832994619719954:=Nat
def tw10023103829737464320:=Nat
def tw15863409801101029575:=Nat
def tw14435133339978274109:=Nat
def tw9783373294162797672:=Nat
def tw346352002173574181:=Nat
def tw9313504187653903201:=Nat
def tw11080221235049024729:=Nat
def tw5000313836397478779:=Nat
def tw60615350919698348:=Nat
def tw5021658715615894820:=Nat
def tw4491113609159763849:=Nat
def tw11467662104274967018:=Nat
def tw9352470548584421276:=Nat
def tw6466095394827913133:=Nat
def tw16562271491125896160:=Nat
def tw2729168611901168427:=Nat
def tw5635796103884702420:=Nat
def tw16500070632590155412:=Nat
def tw12014600972547686500:=Nat
def tw3928034075072413305:=Nat
def tw8711591871037948780:=Nat
def tw8448497924928130627:=Nat
def tw8955563418362518571:=Nat
def tw8556034359592588547:=Nat
def tw6286781070033863942:=Nat
def tw17845169409917813287:=Nat
def tw16869646069098442959:=Nat
def tw4930946274494644564:=Nat
def tw13401624576614032825:=Nat
def tw17474955965880028414:=Nat
def tw3321850884401281600:=Nat
def tw17442987994006937997:=Nat
def tw15660810817893179789:=Nat
def tw1366257210219991826:=Nat
def tw11241454686247304164:=Nat
def tw13330219536902834251:=Nat
def tw13416660706024070352:=Nat
def tw16285168440604089325:=Nat
def tw12057290115978616915:=Nat
def tw10346237107393577048:=Nat
def tw1371788559438456850:=Nat
def tw11214773313134912281:=Nat
def tw1021293009068948188:=Nat
def tw8147468501215723524:=Nat
def tw5146549458635270613:=Nat
def tw9509222054508204456:=Nat
def tw12060187506838573352:=Nat
def tw9183634545671726367:=Nat
def tw12907058825472906210:=Nat
def tw3411217494877497765:=Nat
def tw10351701130111605559:=Nat
def tw9938669028190001430:=Nat
def tw7290882043902612467:=Nat
def tw3981627021062958004:=Nat
def tw5037957190343870673:=Nat
def tw6308687364935462022:=Nat
def tw13432748264183885640:=Nat
def tw14843381319444973046:=Nat
def tw570077015735226285:=Nat
def tw8648677247165064903:=Nat
def tw2774661567546240423:=Nat
def tw16240736132712736357:=Nat
def tw18424616628214130625:=Nat
def tw2343257451099301564:=Nat
def tw15833347922510375188:=Nat
def tw14499943314281213990:=Nat
def tw5033840331291678138:=Nat
def tw13531016238471818026:=Nat
def tw14886469251349894432:=Nat
def tw5591702313429702386:=Nat
def tw11275302860767599709:=Nat
def tw4110641795761871360:=Nat
def tw12713062628814771342:=Nat
def tw14316848392229805592:=Nat
def tw13618132768489590098:=Nat
def tw8507913827420823943:=Nat
def tw3888202844696516588:=Nat
def tw8176675491338776361:=Nat
def tw3226250202826355270:=Nat
def tw16107944026671518938:=Nat
def tw3856062010682679771:=Nat
def tw7377079254263981442:=Nat
def tw16733106538504069375:=Nat
def tw11899770744827798625:=Nat
def tw4741188740909631645:=Nat
def tw5704385573734748047:=Nat
def tw12685891194354160144:=Nat
def tw14307441266807320082:=Nat
def tw8384519957699654521:=Nat
def tw817376169528392980:=Nat
def tw16704483417657633133:=Nat
def tw15901715974221339532:=Nat
def tw860025236980118528:=Nat
def tw4409173420306454722:=Nat
def tw1489945918253333546:=Nat
def tw6756396906839014519:=Nat
def tw11150166688601555268:=Nat
def tw565252695065914272:=Nat
def tw629875917638291056:=Nat
def tw5719117338483167783:=Nat
def tw7114076757139923365:=Nat
def tw8741191806200033908:=Nat
def tw10175396058335945637:=Nat
def tw17543403817788652721:=Nat
def tw4677526759661297660:=Nat
def tw12398809272510152797:=Nat
def tw12386370252452738971:=Nat
def tw5039358753872960053:=Nat
def tw8757601022627424166:=Nat
def tw11275953849764743580:=Nat
def tw12118756108641066308:=Nat
def tw17373444984092587007:=Nat
def tw10333697124456316756:=Nat
def tw15988751792448512678:=Nat
def tw16988007573644032784:=Nat
def tw2419596852772301201:=Nat
def tw13436715530142937023:=Nat
def tw1255311808315271771:=Nat
def tw17959500418231593654:=Nat
def tw17751314394597353262:=Nat
def tw6566525892944764979:=Nat
def tw6246590924346724270:=Nat
def tw10582656386422458361:=Nat
def tw6883222560487468756:=Nat
def tw2424694135229252235:=Nat
def tw16272311229426562015:=Nat
def tw15502867031388986474:=Nat
def tw12983546393255383824:=Nat
def tw10041137751102726055:=Nat
def tw9664934357234447631:=Nat
def tw11079226423517167479:=Nat
def tw2714851444616760166:=Nat
def tw4432397134205348110:=Nat
def tw8917981868158906565:=Nat
def tw9203673525742681446:=Nat
def tw5337433890060785511:=Nat
def tw332057070147193613:=Nat
def tw7330606822821320248:=Nat
def tw13834095181111678712:=Nat
def tw5411788551041479940:=Nat
def tw3455893130322772964:=Nat
def tw9523177396307240634:=Nat
def tw7872926703466995937:=Nat
def tw11047992806801155508:=Nat
def tw3536908407740880371:=Nat
def tw17936747678680047323:=Nat
def tw15710541344483904082:=Nat
def tw11467474648243958899:=Nat
def tw1912382414598381403:=Nat
def tw13848432838508085183:=Nat
def tw8449541251874852634:=Nat
def tw9089605494844369193:=Nat
def tw17119578369402529362:=Nat
def tw14487266956009541065:=Nat
def tw10171512758439518978:=Nat
end PySem.W.Fast
section
namespace L2
open PySem PySem.Spec PyProof.Rows
abbrev Key:=Sum Int F_
def dS:Key->KB->Bool
 |.inl k,v=>Value.isInt k v
 |.inr x,v=>Value.isStrOf x v
def keyH(w:Tp):Key->Int
 |.inl k=>hashInt k
 |.inr x=>hashStr w x
def keyIs_shape:∀{k:Key} {v:KB},dS k v=true->(∃i t,k=Sum.inl i/\v=Value.int i t)\/(∃x t,k=Sum.inr x/\v=Value.str x t)
 |.inl i,v,h=>by
  obtain⟨t,e⟩:=Value.isInt_shape (k:=i) (v:=v) h;exact .inl #[i,t,rfl,e]
 |.inr x,v,h=>by
  obtain⟨t,e⟩:=Value.isStrOf_shape (x:=x) (v:=v) h;exact .inr #[x,t,rfl,e]
def vS(i:Int)(t:Vv):dS (.inl i) (.int i t)=true:=by simp[dS,Value.isInt]
def vT(x:F_)(t:Vv):dS (.inr x) (.str x t)=true:=by simp[dS,Value.isStrOf]
def vU(a b:Int):decide ((Sum.inl a:Key)=Sum.inl b)=(a==b):=by
 by_cases e:a=b
 .subst e;simp
 .have h:¬(Sum.inl a:Key)=Sum.inl b:=λq=>e (Sum.inl.inj q);rw[decide_eq_false h];exact(beq_eq_false_iff_ne.mpr e).symm
def vV(a b:F_):decide ((Sum.inr a:Key)=Sum.inr b)=decide (a=b):=by
 by_cases e:a=b
 .subst e;simp
 .have h:¬(Sum.inr a:Key)=Sum.inr b:=λq=>e (Sum.inr.inj q);rw[decide_eq_false h,decide_eq_false e]
def vW(a:Int)(b:F_):decide ((Sum.inl a:Key)=Sum.inr b)=false:=decide_eq_false (λq=>nomatch q)
def vX(a:F_)(b:Int):decide ((Sum.inr a:Key)=Sum.inl b)=false:=decide_eq_false (λq=>nomatch q)
def bL(prog:SZ)(w:Tp):PySem.KeyKind prog w Key where
 is:=dS
 hash:=keyH w
 inj:=λv a b ha hb=>by
  rcases keyIs_shape ha with⟨i,t,rfl,rfl⟩|⟨x,t,rfl,rfl⟩
  .rcases keyIs_shape hb with⟨j,u,rfl,e⟩|⟨y,u,rfl,e⟩
   .injection e with e1 _;rw[e1]
   .exact nomatch e
  .rcases keyIs_shape hb with⟨j,u,rfl,e⟩|⟨y,u,rfl,e⟩
   .exact nomatch e
   .injection e with e1 _;rw[e1]
 byValue:=λk v h=>by
  rcases keyIs_shape h with⟨i,t,rfl,rfl⟩|⟨x,t,rfl,rfl⟩<;>rfl
 pyHash:=λhv h=>by
  rcases keyIs_shape hv with⟨i,t,rfl,rfl⟩|⟨x,t,rfl,rfl⟩
  .exact wpAny_pyHash_int h
  .exact wpAny_pyHash_str h
 eqBool:=λhu hv h=>by
  rcases keyIs_shape hu with⟨i,t,rfl,rfl⟩|⟨x,t,rfl,rfl⟩
  .rcases keyIs_shape hv with⟨j,u,rfl,rfl⟩|⟨y,u,rfl,rfl⟩
   .rw[vU]at h;exact wpAny_eqBool_int h
   .rw[vW]at h;exact SeqAt.EqAt.int_str i t y u _ _ _ _ h
  .rcases keyIs_shape hv with⟨j,u,rfl,rfl⟩|⟨y,u,rfl,rfl⟩
   .rw[vX]at h;exact SeqAt.EqAt.str_int x t j u _ _ _ _ h
   .rw[vV]at h;exact wpAny_eqBool_str h
 «strs»:=λk x t v h=>by
  rcases keyIs_shape h with⟨i,u,rfl,e⟩|⟨y,u,rfl,e⟩
  .exact nomatch e
  .injection e with e1 _;subst e1;cases v<;>rfl
def mixKind_int(prog:SZ)(w:Tp)(i:Int)(t:Vv):(bL prog w).is (.inl i) (.int i t)=true:=vS i t
def vY(prog:SZ)(w:Tp)(x:F_)(t:Vv):(bL prog w).is (.inr x) (.str x t)=true:=vT x t
inductive V where
 |non|bl (b:Bool)|int (i:Int)|str (x:Str)|byt (b:Array UInt8)|flt (b:UInt64)|ref (a:KF)|ty (n:String)
 deriving DecidableEq
def RelV:V->KB->Prop
 |.non,u=>u=Value.none
 |.bl b,u=>u=Value.bool b
 |.int i,u=>∃t,u=Value.int i t
 |.str x,u=>∃t,u=Value.str x t
 |.byt b,u=>∃t,u=Value.bytes b t
 |.flt b,u=>∃t,u=Value.float b t
 |.ref a,u=>u=Value.ref a
 |.ty n,u=>u=Value.type n
abbrev Vals:List V->List KB->Prop:=Paired RelV
variable{xs:List V}{us:List KB}
def Vals.length(r:Vals xs us):xs.length=us.length:=Paired.length r
def Vals.get:∀{xs:List V} {us:List KB} {i:Nat} {x:V},Vals xs us->xs[i]?=be x->∃u,us[i]?=be u/\RelV x u
 |_,_,_,_,.nil,e=>by simp at e
 |_,_,0,_,.cons r _,e=>by simp at e;subst e;exact#[_,rfl,r]
 |_,_,i+1,x,.cons _ t,e=>by
  obtain⟨u,h1,h2⟩:=Vals.get (i:=i) (x:=x) t (by simpa using e);exact#[u,by simpa using h1,h2]
def Vals.set{x:V}{u:KB}(r:RelV x u):∀{xs:List V} {us:List KB} (i:Nat),Vals xs us->Vals (xs.set i x) (us.set i u)
 |_,_,_,.nil=>.nil
 |_,_,0,.cons _ t=>.cons r t
 |_,_,i+1,.cons q t=>.cons q (Vals.set r i t)
def Vals.append:∀{xs ys:List V} {us ws:List KB},Vals xs us->Vals ys ws->Vals (xs++ys) (us++ws):=by
 intro xs ys us ws h s;induction h with
 |nil=>exact s
 |cons r _ e=>exact .cons r e
def Vals.take:∀{xs:List V} {us:List KB} (n:Nat),Vals xs us->Vals (xs.take n) (us.take n)
 |_,_,0,_=>.nil
 |_,_,_+1,.nil=>.nil
 |_,_,n+1,.cons r t=>.cons r (Vals.take n t)
def Vals.drop:∀{xs:List V} {us:List KB} (n:Nat),Vals xs us->Vals (xs.drop n) (us.drop n)
 |_,_,0,r=>r
 |_,_,_+1,.nil=>.nil
 |_,_,n+1,.cons _ t=>Vals.drop n t
def RelO:Option V->Option KB->Prop
 |some v,be u=>RelV v u
 |none,t9=>True
 |_,_=>False
def KV{κ:Type}:List (κ×V)->List (κ×KB)->Prop:=Paired λ(p:κ×V) (q:κ×KB)=>p.1=q.1/\RelV p.2 q.2
def kV:Key->V
 |.inl i=>.int i
 |.inr x=>.str x
inductive HO where
  |lst (xs:List V)
  |tup (xs:List V)
  |dK (a9:List (Key×V))|dT (a9:List (List Key×V))
  |set (S:Int->Bool) (n:Nat)
  |ins (C dx:KF) (fs:List (F_×V))
  |own (x:KF)
  |xd (fs:List (F_×V))
  |met (f x:KF)
  |rng (lo hi:Int)
  |frz (o:TL) (u:HO)
  |tbl (ps:Array KB)
  |ext (φ:Heap->Prop)
abbrev Hp:=KF->Option HO
def upd(H:Hp)(a:KF)(o:HO):Hp:=λb=>if b=a then be o else H b
variable{H:Hp}{a:KF}{o:HO}
def az:upd H a o a=be o:=by unfold upd;rw[if_pos rfl]
variable{b:KF}
def aq(h:b≠a):upd H a o b=H b:=by unfold upd;rw[if_neg h]
def vZ{u:HO}(h:H a=be o)(h':H b=be u)(d:o≠u):a≠b:=by
 intro e;subst e;rw[h]at h';exact d (Option.some.inj h')
def bG(h:H a=be o)(h':H b=t9):a≠b:=by
 intro e;subst e;rw[h]at h';cases h'
section
variable (P:SZ)(w:Tp)
def ObjOk(H:Hp)(h:Heap)(a:KF):HO->Prop
 |.lst xs=>xs.length<=sizeLine/\∃(its:List KB) (n:Nat),Vals xs its/\h.get? a=be {cls:=.type "list",data:=.seq its.toArray n}
 |.tup xs=>xs.length<=sizeLine/\∃its:List KB,Vals xs its/\IsTup h a its.toArray
 |.dK a9=>a9.length<=sizeLine/\(a==TZ)=false/\∃vs,KV a9 vs/\h.DictOf (bL P w) a vs
 | .dT a9=>a9.length<=sizeLine/\(a==TZ)=false/\∃xs:List (List Key×KF×KB),
   Paired (λ(p:List Key×V) (q:List Key×KF×KB)=>p.1=q.1/\H q.2.1=be (.tup (p.1.map kV))/\RelV p.2 q.2.2) a9 xs/\
   ∃o es ep,h.get? a=be o/\o.ExactDict/\o.data=.dict es ep/\es.toList=xs.map (entryOfKey (Ut (bL P w)))/\(xs.map (·.1)).Nodup
 |.set S n=>h.SetOf (intKind P w) a S n
 | .ins C dx fs=>H dx=be (.own a)/\fs.length<=1000/\dx≠a/\h.get? a=be (instObj C dx)/\
   ∃mA,h.Ns1 dx mA/\(∀f,RelO (fs.lookup f) (mA f))/\PySem.Within mA (fs.map (·.1))
 |.own _=>∃o,h.get? a=be o
 |.xd fs=>∃mA,h.Ns1 a mA/\∀f,RelO (fs.lookup f) (mA f)
 |.rng lo hi=>∃t u v,h.get? a=be {cls:=.type "range",data:=.fields [.int lo t,.int hi u,.int 1 v].toArray}
 |.frz o u=>h.get? a=be o/\ObjOk H h a u
 |.tbl ps=>h.get? a=be {cls:=.none,data:=.fields ps}
 |.met f x=>h.get? a=be (methodObj (.ref f) (.ref x))
 |.ext φ=>φ h/\(∃o,h.get? a=be o)/\∀h1 h2:Heap,φ h1->(∀o,h1.get? a=be o->h2.get? a=be o)->φ h2
def HOk(H:Hp)(h:Heap):Prop:=∀a o,H a=be o->ObjOk P w H h a o
end
section
variable {P:SZ}{w:Tp}{H H':Hp}{h h':Heap}{a:KF}{o:HO}
def ObjOk.lt(x:ObjOk P w H h a o):a<h.objs.size:=by
 cases o with
 |lst xs=>obtain⟨_,_,_,_,e⟩:=x;exact Heap.lt_size e
 |tup xs=>obtain⟨_,_,_,p⟩:=x;exact p.lt
 |dK a9=>obtain⟨_,_,_,_,o,_,_,e,_⟩:=x;exact Heap.lt_size e
 |dT a9=>obtain⟨_,_,_,_,o,_,_,e,_⟩:=x;exact Heap.lt_size e
 |set S n=>obtain⟨o,_,_,_,e,_⟩:=x;exact Heap.lt_size e
 |ins C dx fs=>obtain⟨_,_,_,e,_⟩:=x;exact Heap.lt_size e
 |own y=>obtain⟨_,e⟩:=x;exact Heap.lt_size e
 |xd fs=>obtain⟨_,⟨_,_,_,e,_⟩,_⟩:=x;exact Heap.lt_size e
 |rng lo hi=>obtain⟨_,_,_,e⟩:=x;exact Heap.lt_size e
 |frz ob u=>obtain⟨e,_⟩:=x;exact Heap.lt_size e
 |tbl ps=>exact Heap.lt_size (show h.get? a=be _ from x)
 |met f y=>exact Heap.lt_size (show h.get? a=be _ from x)
 |ext φ=>obtain⟨_,⟨_,e⟩,_⟩:=x;exact Heap.lt_size e
def Paired.mapP{α β:Type}{F G:α->β->Prop}:∀{l₁:List α} {l₂:List β},Paired F l₁ l₂->(∀a b,F a b->G a b)->Paired G l₁ l₂:=by
 intro l₁ l₂ h f;induction h with
 |nil=>exact .nil
 |cons r _ e=>exact .cons (f _ _ r) e
def ObjOk.stay(x:ObjOk P w H h a o)(k:∀b u,(b=a\/H b=be (.own a))->h.get? b=be u->h'.get? b=be u)
  (ho:∀b,H b=be (.own a)->H' b=be (.own a)) (ht:∀b xs,H b=be (.tup xs)->H' b=be (.tup xs)):ObjOk P w H' h' a o:=by
 induction o with
 |lst xs=>obtain⟨z,its,n,r,e⟩:=x;exact#[z,its,n,r,k _ _ (.inl rfl) e]
 |tup xs=>obtain⟨z,its,r,ob,e,c⟩:=x;exact#[z,its,r,ob,k _ _ (.inl rfl) e,c]
 |dK a9=>obtain⟨z,y,vs,r,ob,es,ep,e,c⟩:=x;exact#[z,y,vs,r,ob,es,ep,k _ _ (.inl rfl) e,c]
 |dT a9=>
  obtain⟨z,y,xs,r,ob,es,ep,e,c⟩:=x;exact#[z,y,xs,Paired.mapP r λp q z=>#[z.1,ht _ _ z.2.1,z.2.2],ob,es,ep,k _ _ (.inl rfl) e,c]
 |set S n=>obtain⟨ob,es,ep,t,e,c⟩:=x;exact#[ob,es,ep,t,k _ _ (.inl rfl) e,c]
 |ins C dx fs=>
  obtain⟨d,z,ne,e,mA,⟨od,es,ep,e2,c⟩,r⟩:=x;exact#[ho _ d,z,ne,k _ _ (.inl rfl) e,mA,#[od,es,ep,k _ _ (.inr d) e2,c],r]
 |own y=>obtain⟨ob,e⟩:=x;exact#[ob,k _ _ (.inl rfl) e]
 |xd fs=>obtain⟨mA,⟨od,es,ep,e,c⟩,r⟩:=x;exact#[mA,#[od,es,ep,k _ _ (.inl rfl) e,c],r]
 |rng lo hi=>obtain⟨t,u,v,e⟩:=x;exact#[t,u,v,k _ _ (.inl rfl) e]
 |frz ob u ih=>obtain⟨e,q⟩:=x;exact#[k _ _ (.inl rfl) e,ih q]
 |tbl ps=>
  have e:h.get? a=be {cls:=.none,data:=.fields ps}:=x;show h'.get? a=be {cls:=.none,data:=.fields ps};exact k a _ (.inl rfl) e
 |met f y=>
  have e:h.get? a=be (methodObj (.ref f) (.ref y)):=x;show h'.get? a=be (methodObj (.ref f) (.ref y));exact k a _ (.inl rfl) e
 |ext φ=>obtain⟨p,⟨o,e⟩,st⟩:=x;exact#[st _ _ p λo q=>k _ _ (.inl rfl) q,#[o,k _ _ (.inl rfl) e],st]
def HOk.lt(x:HOk P w H h)(e:H a=be o):a<h.objs.size:=(x a o e).lt
def HOk.fresh(x:HOk P w H h)(e:h.objs.size<=a):H a=none:=by
 cases q:H a with
 |none=>rfl
 |some u=>exact absurd (G9 (x.lt q) e) (HI _)
def HOk.kept(x:HOk P w H h)(k:∀b u,h.get? b=be u->h'.get? b=be u):HOk P w H h':=λa o e=>
 (x a o e).stay (λb u _ q=>k b u q) (λ_ q=>q) λ_ _ q=>q
def HOk.laid(x:HOk P w H h)(k:∀b u,h.get? b=be u->h'.get? b=be u)(hp:h.objs.size<=a)(new:ObjOk P w (upd H a o) h' a o):HOk P w (upd H a o) h':=λb u e=>by
 have hn:=x.fresh hp;by_cases hb:b=a
 .subst hb;rw[az]at e;cases e;exact new
 .rw[aq hb]at e;exact(x b u e).stay (λc v _ q=>k c v q) (λc q=>by rw[aq (bG q hn)];exact q) λc xs q=>by rw[aq (bG q hn)];exact q
end
def Rd(H:Hp)(a:KF)(u:HO):Prop:=H a=be u\/∃o,H a=be (.frz o u)
variable{P:SZ}{w:Tp}{h:Heap}
def Rd.ok{u:HO}(r:Rd H a u)(x:HOk P w H h):ObjOk P w H h a u:=by
 rcases r with r|⟨o,r⟩
 .exact x a u r
 .obtain⟨_,q⟩:=x a _ r;exact q
def Mut:Option HO->Prop
 |some (.lst _)=>True
 |some (.dK _)=>True
 |some (.dT _)=>True
 |some (.set _ _)=>True
 |some (.ins _ _ _)=>True
 |some (.ext _)=>True
 |_=>False
section
variable {P:SZ}{w:Tp}{H:Hp}{h h':Heap}{x e:KF}{o':HO}
def HOk.write(ok:HOk P w H h)(mu:Mut (H x))(he:e=x\/H e=be (.own x))(k:∀b u,b≠e->h.get? b=be u->h'.get? b=be u)(z9:∃u,h'.get? e=be u)
  (new:ObjOk P w (upd H x o') h' x o'):HOk P w (upd H x o') h':=λb u q=>by
 have nown:∀c y,H c=be (.own y)->c≠x:=λc y r z=>by subst z;rw[r]at mu;exact mu
 have NI:∀c xs,H c=be (.tup xs)->c≠x:=λc xs r z=>by subst z;rw[r]at mu;exact mu
 by_cases hb:b=x
 .subst hb;rw[az]at q;cases q;exact new
 .rw[aq hb]at q;by_cases KZ:b=e
  .have q':H b=be (.own x):=by
    rcases he with z|z
    .exact absurd (KZ.trans z) hb
    .rw[KZ];exact z
   rw[q]at q';cases q';obtain⟨v,hv⟩:=z9;exact#[v,by rw[KZ];exact hv]
  .refine(ok b u q).stay (λc v hc r=>k c v ?_ r) (λc r=>by rw[aq (nown c b r)];exact r) λc xs r=>by rw[aq (NI c xs r)];exact r
   rcases hc with rfl|hc
   .exact KZ
   .rintro rfl;rcases he with z|z
    .exact nown c b hc z
    .rw[hc]at z;cases z;exact hb rfl
end
structure Un(fs ex:List KF)(H H':Hp)(h h':Heap):Prop where
 keep:∀b o,h.get? b=be o->H b=t9->b∉fs->b∉ex->h'.get? b=be o
 slot:∀b o,h.get? b=be o->H b=t9->b∈fs->b∉ex->∃sl,h'.get? b=be {o with slots:=sl}
 free:∀b o,h.get? b=be o->H b=t9->b∉ex->H' b=t9
 there:∀b o,h.get? b=be o->b∉ex->∃o',h'.get? b=be o'
 tups:∀b xs,H b=be (.tup xs)->H' b=be (.tup xs)
 frzs:∀b o u,H b=be (.frz o u)->H' b=be (.frz o u)
 tbls:∀b ps,H b=be (.tbl ps)->∃more,H' b=be (.tbl (ps++more))
section
variable {fs l6 ex PZ:List KF}{H H1 H2:Hp}{h h1 h2 h':Heap}{a x e:KF}{o:HO}
def Un.any(u:Un fs ex H H1 h h1){b:KF}{ob:TL}(q:h.get? b=be ob)(n:H b=t9)(hx:b∉ex):∃sl,h1.get? b=be {ob with slots:=sl}:=by
 by_cases hb:b∈fs
 .exact u.slot b ob q n hb hx
 .exact#[ob.slots,u.keep b ob q n hb hx]
def Un.kept(k:∀b u,h.get? b=be u->h'.get? b=be u):Un fs ex H H h h':=
 #[λb ob q _ _ _=>k b ob q,λb ob q _ _ _=>#[ob.slots,k b ob q],λ_ _ _ n _=>n,λb ob q _=>#[ob,k b ob q],λ_ _ q=>q,λ_ _ _ q=>q,λ_ ps q=>#[[].toArray,by rw[q];simp]]
def Un.refl:Un fs ex H H h h:=Un.kept λ_ _ q=>q
def Un.laid(k:∀b u,h.get? b=be u->h'.get? b=be u)(hp:h.objs.size<=a)(hn:H a=t9):Un fs ex H (upd H a o) h h' where
 keep:=λb u q _ _ _=>k b u q
 slot:=λb u q _ _ _=>#[u.slots,k b u q]
 free:=λb u q n _=>by rw[aq (GV (G9 (Heap.lt_size q) hp))];exact n
 there:=λb u q _=>#[u,k b u q]
 tups:=λb xs q=>by rw[aq (bG q hn)];exact q
 frzs:=λb u xs q=>by rw[aq (bG q hn)];exact q
 tbls:=λb ps q=>#[[].toArray,by rw[aq (bG q hn),q];simp]
def Un.write(mu:Mut (H x))(he:e=x\/H e=be (.own x))(k:∀b u,b≠e->h.get? b=be u->h'.get? b=be u)(z9:∃u,h'.get? e=be u):Un fs ex H (upd H x o) h h':=by
 have hx:∀b,H b=t9->b≠x:=λb n z=>by subst z;rw[n]at mu;exact mu
 have hb:∀b,H b=t9->b≠e:=λb n z=>by
  subst z;rcases he with r|r
  .exact hx b n r
  .rw[n]at r;cases r
 have hm:∀b u,H b=be u->¬Mut (be u)->b≠x:=λb u q nm z=>by subst z;rw[q]at mu;exact nm mu
 refine⟨λb u q n _ _=>k b u (hb b n) q,λb u q n _ _=>#[u.slots,k b u (hb b n) q],λb u q n _=>by rw[aq (hx b n)];exact n,λb u q _=>?_,
  λb xs q=>by rw[aq (hm b _ q λz=>z)];exact q,λb u xs q=>by rw[aq (hm b _ q λz=>z)];exact q,λb ps q=>#[[].toArray,by rw[aq (hm b _ q λz=>z),q];simp]⟩
 by_cases KZ:b=e
 .subst KZ;exact z9
 .exact#[u,k b u KZ q]
end
def trk(h:Heap)(H:Hp):List KF:=(GO h.objs.size).filter λa=>(H a).isSome
def hidT(h:Heap)(H:Hp):Heap:=hideAll h (trk h H)
def wa(h:Heap)(H:Hp):(hidT h H).objs.size=h.objs.size:=hideAll_size _ _
def wc{o:TL}(e:h.get? b=be o)(n:H b=t9):(hidT h H).get? b=be o:=
 hideAll_get _ e λhm=>by
  have q:(H b).isSome=true:=(Js.mp hm).2;rw[n]at q;simp at q
def we{o:TL}(e:(hidT h H).get? b=be o):h.get? b=be o/\H b=none:=by
 have e':h.get? b=be o:=of_hideAll (trk h H) e;refine#[e',?_];cases q:H b with
 |none=>rfl
 |some x=>
  have hm:b∈trk h H:=Js.mpr #[List.mem_range.mpr (Heap.lt_size e'),by simp[q]];have z:(hidT h H).get? b=none:=hideAll_none (trk h H) hm;rw[z]at e;cases e
structure Mod(K:Ex)(mg:Str->Option KB)(base:Heap):Prop where
 kin:K.In base
 glob:base.Ns Pi mg
 blt:∃mb,base.Ns Vo mb/\∀x:F_,x≠"__name__"->mb x=TN x
 nolimit:base.NoLimit
structure Cx where
 prog:SZ
 w:Tp
 K:Ex
 mg:F_->Option KB
 base:Heap
 A:Tq
 N:List F_
 s₀:Os
 H₀:Hp
 env:Um
 outer:List Um
 stack:List Um
 ex:List KF
 fn:F_->Bool
 calm:Bool
 pn:List (KF×TL)
 xe:KB->Os->Prop
abbrev zSE(X:Cx)(e:Tn)(es:List Tn):Prop:=Tr (e::es) X.env=(false,Tv e X.env)::Tr es X.env
abbrev zPL(X:Cx)(p:Tw)(es:List Tn):Prop:=(Ua p (Tr es X.env)).any (·.1)=false
abbrev zHF(X:Cx)(p:Tw)(es:List Tn):Prop:=((Ua p (Tr es X.env)).all (λx=>!x.1)&&(Uv p (T7 [] X.env)).all (λx=>x.1.isSome)&&decide (es.length+([]:List UD).length+(if([]:List UD).isEmpty then 0 else 1)<30))=true
abbrev zFN(X:Cx)(x:F_):Prop:=X.fn x=true\/X.env.scope.names.lookup x=be .local
abbrev zND(x:F_):Prop:=(x==("__debug__":F_))=false
abbrev zNC(x:F_):Prop:=(x==("__classdict__":F_))=false
abbrev zFS(X:Cx)(e:Tn)(y:KB):Prop:=Vt e X.env y=pure y
def frs(l:List Um):List KF:=l.filterMap (·.frame)
abbrev Cx.fs(X:Cx):List KF:=frs X.outer
def Vis(sc:T3)(x:F_):Prop:=sc.names.lookup x=be .local\/sc.names.lookup x=be .cell\/sc.names.lookup x=be .free
def Loc(sc:T3)(x:F_):Prop:=sc.names.lookup x=be .local\/sc.names.lookup x=be .cell
def Look(env:Um)(h:Heap)(m:F_->Option KB)(x:F_)(u:KB):Prop:=
 (env.kindOf x=be .local/\m x=be u)\/((env.kindOf x=be .cell\/env.kindOf x=be .free)/\∃c,env.cells.lookup x=be c/\h.IsCell c (be u))
structure Cx.Ok(X:Cx):Prop where
 mod:Mod X.K X.mg X.base
 kind:X.env.scope.kind=.function
 glob:X.env.globals=Pi
 blt:X.env.builtins=Vo
 above:X.s₀.heap.objs.size<=X.env.locals
 inj:∀x y c,X.env.cells.lookup x=be c->X.env.cells.lookup y=be c->x=y
 has:∀x,(X.env.kindOf x=be .cell\/X.env.kindOf x=be .free)->∃c,X.env.cells.lookup x=be c
 cab:∀x c,X.fn x=true->X.env.cells.lookup x=be c->X.s₀.heap.objs.size<=c
 hd:X.calm=true->X.A.handled=t9
 frames:X.A.frames=be X.stack
 stk:X.stack=X.outer\/(X.stack=X.env::X.outer/\X.env.frame=be X.env.locals)
 exf:∀b∈X.ex,b≠X.env.locals/\∀x c,X.env.cells.lookup x=be c->c≠b
 bs:∀b o,X.base.get? b=be o->X.s₀.heap.get? b=be o/\X.H₀ b=t9
 bsz:X.base.objs.size<=X.s₀.heap.objs.size
 noex:∀b o,X.base.get? b=be o->b∉X.ex
 exfs:∀b∈X.ex,b∉X.fs
 funs:X.s₀.heap.FunFrames X.base X.outer
 frf:∀b∈X.fs,X.H₀ b=t9
structure Inv(X:Cx)(pins:List (KF×TL))(σ:List (Option V))(H:Hp)(s:Os):Prop where
 ok:X.Ok
 os:s.os=X.s₀.os
 bare:Us s.gens
 base:Un X.fs X.ex X.H₀ H X.s₀.heap s.heap
 loc:∃m,s.heap.Ns X.env.locals m/\∀(i:Nat) (x:F_) (v:V),X.N[i]?=be x->σ[i]?=be (be v)->Vis X.env.scope x->∃u,RelV v u/\Look X.env s.heap m x u
 cell:∀x c,X.env.cells.lookup x=be c->∃v,s.heap.IsCell c v
 free:H X.env.locals=t9
 freeC:∀x c,X.env.cells.lookup x=be c->H c=t9
 pin:∀p∈X.pn++pins,s.heap.get? p.1=be p.2/\H p.1=t9/\p.1≠X.env.locals/\p.1∉X.fs/\∀v,p.2.data≠.cell v
 hok:HOk X.prog X.w H s.heap
 len:σ.length=X.N.length
section
variable {X:Cx}{pins:List (KF×TL)}{σ:List (Option V)}{H H':Hp}{s:Os}{h':Heap}
def Cx.Ok.nofr(ok:X.Ok){b:KF}{o:TL}(e:X.base.get? b=be o):b∉X.fs:=λhb=>by
 have:=(ok.funs.mem hb).1;rw[e]at this;cases this
def Inv.bs(I:Inv X pins σ H s):∀b o,X.base.get? b=be o->s.heap.get? b=be o/\H b=none:=λb o e=>
 #[I.base.keep b o (I.ok.bs b o e).1 (I.ok.bs b o e).2 (I.ok.nofr e) (I.ok.noex b o e),I.base.free b o (I.ok.bs b o e).1 (I.ok.bs b o e).2 (I.ok.noex b o e)]
def Inv.bk(I:Inv X pins σ H s):∀b o,X.base.get? b=be o->s.heap.get? b=be o:=λb o e=>(I.bs b o e).1
def Inv.mod(I:Inv X pins σ H s):Mod X.K X.mg X.base:=I.ok.mod
def Inv.kIn(I:Inv X pins σ H s):X.K.In s.heap:=I.ok.mod.kin.keeps I.bk
def Inv.lt(I:Inv X pins σ H s):X.env.locals<s.heap.objs.size:=let ⟨_,hn,_⟩:=I.loc;hn.lt
def Inv.sz(I:Inv X pins σ H s):X.s₀.heap.objs.size<=s.heap.objs.size:=GW I.ok.above (Iw I.lt)
def Inv.nofs(I:Inv X pins σ H s){a:KF}(h:s.heap.objs.size<=a):a∉X.fs:=λhb=>by
 obtain⟨_,o,ho,_⟩:=I.ok.funs.mem hb;exact absurd (G9 (Heap.lt_size ho) (GW I.sz h)) (HI _)
def Inv.cne(I:Inv X pins σ H s):∀x c,X.env.cells.lookup x=be c->c≠X.env.locals:=λx c e z=>by
 obtain⟨v,o,ho,hd⟩:=I.cell x c e;obtain⟨m,⟨o',es,ep,K0,e_,_⟩,_⟩:=I.loc;rw[z,K0]at ho;cases ho;rw[e_]at hd;cases hd
def Inv.funs(I:Inv X pins σ H s):s.heap.FunFrames X.base X.outer:=by
 have all:∀(l:List Um),(∀b∈frs l,b∈X.fs)->X.s₀.heap.FunFrames X.base l->s.heap.FunFrames X.base l:=by
  intro l;induction l with
  |nil=>intro _ _;trivial
  |cons env r ih=>
   intro hs hl;obtain⟨hk,⟨L,o,hf,hn,ho,hd⟩,hr⟩:=hl;have hL:L∈X.fs:=hs L (by unfold frs;rw[Ix,hf];exact GS);obtain⟨sl,e⟩:=I.base.slot L o ho (I.ok.frf L hL) hL λz=>I.ok.exfs L z hL;exact#[hk,#[L,_,hf,hn,e,hd],ih (λb hb=>hs b (by unfold frs;rw[Ix,hf];exact GQ _ hb)) hr]
 exact all X.outer (λ_ hb=>hb) I.ok.funs
def Inv.stack(I:Inv X pins σ H s):s.heap.FunFrames X.base X.stack:=by
 rcases I.ok.stk with e|⟨e,hf⟩
 .rw[e];exact I.funs
 .rw[e];obtain⟨m,hn,_⟩:=I.loc;refine .cons (by rw[I.ok.kind];decide) hf hn ?_ I.funs;exact Heap.get?_none_of_le (GW I.ok.bsz I.ok.above)
def Inv.stkSub(I:Inv X pins σ H s):∀b∈frs X.stack,b∈X.env.locals::X.fs:=λb hb=>by
 rcases I.ok.stk with e|⟨e,hf⟩
 .rw[e]at hb;exact GQ _ hb
 .rw[e]at hb;unfold frs at hb;rw[Ix,hf]at hb;exact hb
def Inv.stkFree(I:Inv X pins σ H s):∀b∈frs X.stack,H b=none:=λb hb=>by
 rcases GP.mp (I.stkSub b hb)with e|hb
 .rw[e];exact I.free
 .obtain⟨_,o,ho,_⟩:=I.ok.funs.mem hb;exact I.base.free b o ho (I.ok.frf b hb) λz=>I.ok.exfs b z hb
variable{g':Array Vf}{ch:List KF}
def Inv.step{t':Nat}{d':Drawn}(I:Inv X pins σ H s)
  (z_:∀b∈ch,(b∈X.ex\/X.s₀.heap.objs.size<=b)/\b≠X.env.locals/\(∀x c,X.env.cells.lookup x=be c->c≠b)/\∀p∈X.pn++pins,p.1≠b)
  (keep:∀b o,b≠X.env.locals->b∉X.fs->b∉ch->s.heap.get? b=be o->H b=t9->h'.get? b=be o)
  (slot:∀b o,b≠X.env.locals->b∈X.fs->b∉ch->s.heap.get? b=be o->H b=t9->∃sl,h'.get? b=be {o with slots:=sl}) (free:∀b o,b∉ch->s.heap.get? b=be o->H b=t9->H' b=t9)
  (there:∀b o,b∉ch->s.heap.get? b=be o->∃o',h'.get? b=be o')
  (tups:∀b xs,H b=be (.tup xs)->H' b=be (.tup xs)) (frzs:∀b o u,H b=be (.frz o u)->H' b=be (.frz o u)) (tbls:∀b ps,H b=be (.tbl ps)->∃more,H' b=be (.tbl (ps++more)))
  (ns:∀m,s.heap.Ns X.env.locals m->h'.Ns X.env.locals m) (hok:HOk X.prog X.w H' h') (hg:Us g'):
  Inv X pins σ H' {s with heap:=h',gens:=g',drawn:=d',toks:=t'}:=by
 have P0:∀b o,X.s₀.heap.get? b=be o->b≠X.env.locals:=λb o e=>GV (G9 (Heap.lt_size e) I.ok.above);have M_:∀b o,X.s₀.heap.get? b=be o->b∉X.ex->b∉ch:=λb o e hx hb=>by
  rcases(z_ b hb).1 with z|z
  .exact hx z
  .exact absurd (G9 (Heap.lt_size e) z) (HI _)
 have l9:∀x c,X.env.cells.lookup x=be c->∀v,s.heap.IsCell c v->h'.IsCell c v:=λx c e v ⟨o,ho,hd⟩=>by
  have LW:c∉ch:=λz=>(z_ c z).2.2.1 x c e rfl;by_cases hc:c∈X.fs
  .obtain⟨sl,q⟩:=slot c o (I.cne x c e) hc LW ho (I.freeC x c e);exact#[_,q,hd]
  .exact#[o,keep c o (I.cne x c e) hc LW ho (I.freeC x c e),hd]
 refine#[I.ok,I.os,hg,#[λb o e n hb hx=>?_,λb o e n hb hx=>?_,λb o e n hx=>?_,λb o e hx=>?_,λb xs e=>tups b xs (I.base.tups b xs e),λb o xs e=>frzs b o xs (I.base.frzs b o xs e),λb ps e=>?_],?_,λx c e=>?_,?_,λx c e=>?_,λp hp=>?_,hok,I.len]
 .exact keep b o (P0 b o e) hb (M_ b o e hx) (I.base.keep b o e n hb hx) (I.base.free b o e n hx)
 .obtain⟨sl,e1⟩:=I.base.slot b o e n hb hx;obtain⟨t7,e2⟩:=slot b _ (P0 b o e) hb (M_ b o e hx) e1 (I.base.free b o e n hx);exact#[t7,e2]
 .obtain⟨o',e1⟩:=I.base.there b o e hx;exact free b o' (M_ b o e hx) e1 (I.base.free b o e n hx)
 .obtain⟨o',e1⟩:=I.base.there b o e hx;exact there b o' (M_ b o e hx) e1
 .obtain⟨m1,e1⟩:=I.base.tbls b ps e;obtain⟨m2,e2⟩:=tbls b _ e1;exact#[m1++m2,by rw[e2,Array.append_assoc]]
 .obtain⟨m,hn,hl⟩:=I.loc;refine#[m,ns m hn,λi x v e1 e2 e3=>?_];obtain⟨u,r,l⟩:=hl i x v e1 e2 e3;refine#[u,r,?_];rcases l with l|⟨k,c,e,z⟩
  .exact .inl l
  .exact .inr #[k,c,e,l9 x c e _ z]
 .obtain⟨v,z⟩:=I.cell x c e;exact#[v,l9 x c e v z]
 .obtain⟨m,⟨o,_,_,ho,_⟩,_⟩:=I.loc;exact free _ o (λz=>(z_ _ z).2.1 rfl) ho I.free
 .obtain⟨v,o,ho,hd⟩:=I.cell x c e;exact free c o (λz=>(z_ c z).2.2.1 x c e rfl) ho (I.freeC x c e)
 .obtain⟨e,n,ne,nf,d⟩:=I.pin p hp;have LW:p.1∉ch:=λz=>(z_ p.1 z).2.2.2 p hp rfl;exact#[keep p.1 p.2 ne nf LW e n,free p.1 p.2 LW e n,ne,nf,d]
def Inv.un{t':Nat}(I:Inv X pins σ H s)(u:Un X.fs [] H H' s.heap h')(hok:HOk X.prog X.w H' h'):Inv X pins σ H' {s with heap:=h',toks:=t'}:=by
 obtain⟨m,⟨o,es,ep,ho,r⟩,_⟩:=id I.loc;obtain⟨sl,hL⟩:=u.any ho I.free K';exact I.step (g':=s.gens) (d':=s.drawn) (ch:=[]) (λ_ z=>nomatch z) (λb o _ hb _ e n=>u.keep b o e n hb K') (λb o _ hb _ e n=>u.slot b o e n hb K') (λb o _ e n=>u.free b o e n K') (λb o _ e=>u.there b o e K') u.tups u.frzs u.tbls (λm' hm=>by
  obtain⟨o',NJ,NK,K0,r'⟩:=hm;rw[ho]at K0;cases K0;exact#[_,NJ,NK,hL,r']) hok I.bare
def Inv.call{t':Nat}{d':Drawn}(I:Inv X pins σ H s)(u:Un (frs X.stack) ch H H' s.heap h')(hok:HOk X.prog X.w H' h')(hg:Us g')
  (z_:∀b∈ch,(b∈X.ex\/X.s₀.heap.objs.size<=b)/\b≠X.env.locals/\(∀x c,X.env.cells.lookup x=be c->c≠b)/\∀p∈X.pn++pins,p.1≠b):
  Inv X pins σ H' {s with heap:=h',gens:=g',drawn:=d',toks:=t'}:=by
 obtain⟨m,⟨o,es,ep,ho,r⟩,_⟩:=id I.loc;obtain⟨sl,hL⟩:=u.any ho I.free λz=>(z_ _ z).2.1 rfl;exact I.step (ch:=ch) z_ (λb o hL hb hc e n=>u.keep b o e n (λz=>(GP.mp (I.stkSub b z)).elim hL hb) hc) (λb o _ _ hc e n=>u.any e n hc) (λb o hc e n=>u.free b o e n hc) (λb o hc e=>u.there b o e hc) u.tups u.frzs u.tbls (λm' hm=>by
  obtain⟨o',NJ,NK,K0,r'⟩:=hm;rw[ho]at K0;cases K0;exact#[_,NJ,NK,hL,r']) hok hg
def Inv.turned{t':Nat}{it:KF}(I:Inv X pins σ H s)(k:∀b o,b≠it->s.heap.get? b=be o->h'.get? b=be o)(hn:H it=t9)(hL:it≠X.env.locals)
  (h1:it∈X.ex\/X.s₀.heap.objs.size<=it) (h2:∀x c,X.env.cells.lookup x=be c->c≠it) (h3:∀p∈X.pn++pins,p.1≠it):Inv X pins σ H {s with heap:=h',toks:=t'}:=by
 have K1:∀b u,H b=be u->b≠it:=λb u e z=>by rw[z,hn]at e;cases e
 refine I.step (g':=s.gens) (d':=s.drawn) (ch:=[it]) (λb hb=>?_) (λb o _ _ hc e _=>k b o (λz=>hc (by simp[z])) e) (λb o _ _ hc e _=>#[o.slots,k b o (λz=>hc (by simp[z])) e]) (λ_ _ _ _ n=>n)
  (λb o hc e=>#[o,k b o (λz=>hc (by simp[z])) e]) (λ_ _ e=>e) (λ_ _ _ e=>e) (λb ps e=>#[[].toArray,by rw[e];simp]) (λm hm=>?_) (λb u e=>?_) I.bare
 .have e:b=it:=by simpa using hb
  subst e;exact#[h1,hL,h2,h3]
 .obtain⟨o,es,ep,ho,r⟩:=hm;exact#[o,es,ep,k _ o (Ne.symm hL) ho,r]
 .refine(I.hok b u e).stay (λc v hc q=>k c v ?_ q) (λ_ q=>q) λ_ _ q=>q;rcases hc with z|z
  .rw[z];exact K1 b u e
  .exact K1 c _ z
def Inv.tok(I:Inv X pins σ H s)(t:Nat):Inv X pins σ H {s with toks:=t}:=I.un (h':=s.heap) (t':=t) Un.refl I.hok
def Inv.kept{t':Nat}(I:Inv X pins σ H s)(k:∀b u,s.heap.get? b=be u->h'.get? b=be u):Inv X pins σ H {s with heap:=h',toks:=t'}:=I.un (Un.kept k) (I.hok.kept k)
def Inv.laid{a:KF}{o:HO}{t':Nat}(I:Inv X pins σ H s)(k:∀b u,s.heap.get? b=be u->h'.get? b=be u)(hp:s.heap.objs.size<=a)(new:ObjOk X.prog X.w (upd H a o) h' a o):
  Inv X pins σ (upd H a o) {s with heap:=h',toks:=t'}:=I.un (Un.laid k hp (I.hok.fresh hp)) (I.hok.laid k hp new)
def Inv.write{x e:KF}{o:HO}{t':Nat}(I:Inv X pins σ H s)(mu:Mut (H x))(he:e=x\/H e=be (.own x))(k:∀b u,b≠e->s.heap.get? b=be u->h'.get? b=be u)(z9:∃u,h'.get? e=be u)
  (new:ObjOk X.prog X.w (upd H x o) h' x o):Inv X pins σ (upd H x o) {s with heap:=h',toks:=t'}:=I.un (Un.write mu he k z9) (I.hok.write mu he k z9 new)
def Inv.pins_of{KD:List (KF×TL)}(I:Inv X pins σ H s)(h:∀p∈KD,s.heap.get? p.1=be p.2/\H p.1=t9/\p.1≠X.env.locals/\p.1∉X.fs/\∀v,p.2.data≠.cell v):Inv X KD σ H s:=
 #[I.ok,I.os,I.bare,I.base,I.loc,I.cell,I.free,I.freeC,λp hp=>(Hi.mp hp).elim (λz=>I.pin p (HV _ z)) (h p),I.hok,I.len]
variable{x:F_}{i:Nat}
def jJ{N:List F_}(hN:N.Nodup){j:Nat}(a:N[i]?=be x)(b:N[j]?=be x):i=j:=by
 obtain⟨h1,e1⟩:=GZ.mp a;obtain⟨h2,e2⟩:=GZ.mp b;exact(List.getElem_inj hN).mp (e1.trans e2.symm)
variable{E:KB->Os->Prop}{Q:Unit->Os->Prop}
def qo{M:Ve}{A:Tq}{v:V}{u:KB}(I:Inv X pins σ H s)(hN:X.N.Nodup)(hi:X.N[i]?=be x)(hx:Loc X.env.scope x)(r:RelV v u)
  (h:∀s',Inv X pins (σ.set i (be v)) H s'->(∃a,Heap.SameBut a s.heap s'.heap/\(a=X.env.locals\/X.env.cells.lookup x=be a))->Q () s') (hf:autoParam (zFN X x) zA2):To M A (storeName X.env x u) Q E s:=by
 obtain⟨m,hn,hl⟩:=id I.loc;have v8:(X.env.scope.kind== .class||(X.env.scope.kind== .module&&X.env.locals !=X.env.globals))=false:=by rw[I.ok.kind];rfl
 have hiσ:i<σ.length:=by rw[I.len];exact(GZ.mp hi).1
 have cne:=I.cne;have gt:∀{a:KF} {h':Heap},(∃o,s.heap.get? a=be o/\H a=t9)->Heap.SameBut a s.heap h'->HOk X.prog X.w H h':=λ{a h'} ha hs b ob e=>by
  obtain⟨_,_,j_⟩:=ha;refine(I.hok b ob e).stay (λc w' hc q=>(hs.2 c ?_).trans q) (λ_ q=>q) λ_ _ q=>q;rintro rfl;rcases hc with rfl|hc
  .rw[j_]at e;cases e
  .rw[j_]at hc;cases hc
 rcases hx with hk|hk
 .refine wpAny_storeName_local hk hn (λh' g8 hs=>?_) v8;obtain⟨oL,_,_,P1,_⟩:=id hn;refine h _ #[I.ok,I.os,I.bare,#[λb o e n hb hx=>?_,λb o e n hb hx=>?_,I.base.free,λb o e hx=>?_,I.base.tups,I.base.frzs,I.base.tbls],#[_,g8,λj y v' e1 e2 e3=>?_],λy c e=>?_,I.free,I.freeC,λp hp=>?_,gt #[oL,P1,I.free] hs,by simpa using I.len] #[_,hs,.inl rfl]
  .exact(hs.2 b (GV (G9 (Heap.lt_size e) I.ok.above))).trans (I.base.keep b o e n hb hx)
  .obtain⟨sl,e1⟩:=I.base.slot b o e n hb hx;exact#[sl,(hs.2 b (GV (G9 (Heap.lt_size e) I.ok.above))).trans e1]
  .obtain⟨o',e1⟩:=I.base.there b o e hx;exact#[o',(hs.2 b (GV (G9 (Heap.lt_size e) I.ok.above))).trans e1]
  .by_cases hj:j=i
   .subst hj;rw[hi]at e1;cases e1;rw[Hr hiσ]at e2;cases e2;exact#[u,r,.inl #[hk,K']]
   .rw[G0 (Ne.symm hj)]at e2;obtain⟨u',r',q⟩:=hl j y v' e1 e2 e3;refine#[u',r',?_];rcases q with⟨k,e⟩|⟨k,c,e,z⟩
    .refine .inl #[k,?_];have:y≠x:=λe=>hj (jJ hN e1 (e ▸ hi));simp[this,e]
    .exact .inr #[k,c,e,z.sameBut hs (cne y c e)]
  .obtain⟨w',z⟩:=I.cell y c e;exact#[w',z.sameBut hs (cne y c e)]
  .obtain⟨e,n,ne,nf,d⟩:=I.pin p hp;exact#[(hs.2 p.1 ne).trans e,n,ne,nf,d]
 .have LX:X.fn x=true:=by
   rcases hf with z|z
   .exact z
   .rw[z]at hk;cases hk
  obtain⟨c,hc⟩:=I.ok.has x (.inl hk);obtain⟨w',z⟩:=I.cell x c hc;refine wpAny_storeName_cell I.ok.kind hk hc z (λh' KE hs=>?_);obtain⟨oc,P2,NL⟩:=id z;refine h {s with heap:=h'} #[I.ok,I.os,I.bare,#[λb o e n hb hx=>?_,λb o e n hb hx=>?_,I.base.free,λb o e hx=>?_,I.base.tups,I.base.frzs,I.base.tbls],#[m,hn.sameBut hs (Ne.symm (cne x c hc)),λj y v' e1 e2 e3=>?_],λy c' e=>?_,I.free,I.freeC,λp hp=>?_,gt #[oc,P2,I.freeC x c hc] hs,by simpa using I.len] #[c,hs,.inr hc]
  .exact(hs.2 b (GV (G9 (Heap.lt_size e) (I.ok.cab x c LX hc)))).trans (I.base.keep b o e n hb hx)
  .obtain⟨sl,e1⟩:=I.base.slot b o e n hb hx;exact#[sl,(hs.2 b (GV (G9 (Heap.lt_size e) (I.ok.cab x c LX hc)))).trans e1]
  .obtain⟨o',e1⟩:=I.base.there b o e hx;exact#[o',(hs.2 b (GV (G9 (Heap.lt_size e) (I.ok.cab x c LX hc)))).trans e1]
  .by_cases hj:j=i
   .subst hj;rw[hi]at e1;cases e1;rw[Hr hiσ]at e2;cases e2;exact#[u,r,.inr #[.inl hk,c,hc,KE]]
   .rw[G0 (Ne.symm hj)]at e2;obtain⟨u',r',q⟩:=hl j y v' e1 e2 e3;refine#[u',r',?_];rcases q with q|⟨k,c',e,z'⟩
    .exact .inl q
    .refine .inr #[k,c',e,z'.sameBut hs ?_];rintro rfl;exact hj (jJ hN e1 (I.ok.inj _ _ _ e hc ▸ hi))
  .by_cases P4:c'=c
   .subst P4;exact#[_,KE]
   .obtain⟨w2,z2⟩:=I.cell y c' e;exact#[w2,z2.sameBut hs P4]
  .obtain⟨e,n,ne,nf,d⟩:=I.pin p hp;refine#[(hs.2 p.1 ?_).trans e,n,ne,nf,d];intro q;rw[q,P2]at e;have q':oc=p.2:=Option.some.inj e;exact d w' (by rw[<-q'];exact NL)
def dU{M:Ve}{A:Tq}{v:V}{u:KB}(I:Inv X pins σ H s)(hN:X.N.Nodup)(hi:X.N[i]?=be x)(hx:Loc X.env.scope x)(r:RelV v u)
  (h:∀s',Inv X pins (σ.set i (be v)) H s'->Q () s') (hf:autoParam (zFN X x) zA2):To M A (storeName X.env x u) Q E s:=
 qo I hN hi hx r (λs' I' _=>h s' I') hf
def Inv.call'{s':Os}(I:Inv X pins σ H s)(ho:s'.os=s.os)(u:Un (frs X.stack) ch H H' s.heap s'.heap)(hok:HOk X.prog X.w H' s'.heap)(hg:Us s'.gens)
  (z_:∀b∈ch,(b∈X.ex\/X.s₀.heap.objs.size<=b)/\b≠X.env.locals/\(∀x c,X.env.cells.lookup x=be c->c≠b)/\∀p∈X.pn++pins,p.1≠b):Inv X pins σ H' s':=by
 obtain⟨h',g',d',t',o'⟩:=s';have e:o'=s.os:=ho;subst e;exact I.call (g':=g') (t':=t') (d':=d') u hok hg z_
end
abbrev XK:=KB->Option KF->Hp->Prop
abbrev St:=List (Option V)
abbrev VK:=V->Hp->Prop
abbrev TE:=St->Hp->VK->Prop
abbrev TT:=St->Hp->(Bool->Hp->Prop)->Prop
abbrev TA:=St->Hp->(List V->Hp->Prop)->Prop
structure Ends where
 nx:St->Hp->Prop
 rt:VK
 bk:St->Hp->Prop:=λ_ _=>False
 ct:St->Hp->Prop:=λ_ _=>False
abbrev TS:=Ends->St->Hp->Prop
def EP(X:Cx)(pins:List (KF×TL))(σ:St)(Q:VK)(u:KB)(s':Os):Prop:=∃v H',Inv X pins σ H' s'/\RelV v u/\Q v H'
def TP(X:Cx)(pins:List (KF×TL))(σ:St)(Q:Bool->Hp->Prop)(b:Bool)(s':Os):Prop:=∃H',Inv X pins σ H' s'/\Q b H'
def AP(X:Cx)(pins:List (KF×TL))(σ:St)(Q:List V->Hp->Prop)(us:List KB)(s':Os):Prop:=∃vs H',Inv X pins σ H' s'/\Vals vs us/\Q vs H'
def SP(X:Cx)(pins:List (KF×TL))(D:Ends)(f:Flow)(s':Os):Prop:=
 match f with
 |.next=>∃σ' H',Inv X pins σ' H' s'/\D.nx σ' H'
 |.brk=>∃σ' H',Inv X pins σ' H' s'/\D.bk σ' H'
 |.cont=>∃σ' H',Inv X pins σ' H' s'/\D.ct σ' H'
 |.ret u=>∃v σ' H',Inv X pins σ' H' s'/\RelV v u/\D.rt v H'
def PE(X:Cx)(e:Tn)(t:TE):Prop:=
 ∀(pins:List (KF×TL)) (s:Os) (σ:St) (H:Hp) (Q:VK),Inv X pins σ H s->t σ H Q->To (SB X.prog X.w) X.A (Tv e X.env) (EP X pins σ Q) X.xe s
def PT(X:Cx)(e:Tn)(t:TT):Prop:=
 ∀(pins:List (KF×TL)) (s:Os) (σ:St) (H:Hp) (Q:Bool->Hp->Prop),Inv X pins σ H s->t σ H Q->To (SB X.prog X.w) X.A (isTrue e X.env (Tv e X.env)) (TP X pins σ Q) X.xe s
def PW(X:Cx)(e:Tn)(t:TT):Prop:=
 ∀(f7:U9 KB) (pins:List (KF×TL)) (s:Os) (σ:St) (H:Hp) (Q:Bool->Hp->Prop),Inv X pins σ H s->t σ H Q->To (SB X.prog X.w) X.A (isTrue e X.env f7) (TP X pins σ Q) X.xe s
variable{X:Cx}
def PW.pt{e:Tn}{t:TT}(h:PW X e t):PT X e t:=h _
def PA(X:Cx)(es:List Tn)(t:TA):Prop:=
 ∀(pos:Tw) (pins:List (KF×TL)) (s:Os) (σ:St) (H:Hp) (Q:List V->Hp->Prop),Inv X pins σ H s->t σ H Q->To (SB X.prog X.w) X.A (spliced (Ua pos (Tr es X.env))) (AP X pins σ Q) X.xe s
def PS(X:Cx)(st:SL)(t:TS):Prop:=
 ∀(pins:List (KF×TL)) (s:Os) (σ:St) (H:Hp) (D:Ends),Inv X pins σ H s->t D σ H->To (SB X.prog X.w) X.A (exec st X.env) (SP X pins D) X.xe s
def PSs(X:Cx)(st:List SL)(t:TS):Prop:=
 ∀(pins:List (KF×TL)) (s:Os) (σ:St) (H:Hp) (D:Ends),Inv X pins σ H s->t D σ H->To (SB X.prog X.w) X.A (execs st X.env) (SP X pins D) X.xe s
variable{A:Tq}{E:KB->Os->Prop}{s:Os}
def thn{α:Type}{t:U9 α}{Q Q':α->Os->Prop}{M:Ve}(h:To M A t Q E s)(hQ:∀a s,Q a s->Q' a s):To M A t Q' E s:=TF h hQ λ_ _ x=>x
section
variable {X:Cx}
def tVar(i:Nat):TE:=λσ H Q=>∃v,σ[i]?=be (be v)/\Q v H
def tC(v:V):TE:=λ_ H Q=>Q v H
variable{x:F_}{pos:Tw}
def cK{i:Nat}(hN:X.N[i]?=be x)(hv:Vis X.env.scope x)(hd:autoParam (zND x) zA1)(gV:autoParam (zNC x) zA1):PE X (.Name x pos) (tVar i):=by
 intro pins s σ H Q I h;obtain⟨v,e,h⟩:=h;obtain⟨m,hn,hl⟩:=I.loc;obtain⟨u,r,l⟩:=hl i x v hN e hv;have d_:EP X pins σ Q u s:=#[v,H,I,r,h];rcases l with⟨hk,hm⟩|⟨hk,c,hc,l_⟩
 .exact Vl (wpAny_loadName_local I.ok.kind hk hn hm d_) hd
 .rcases hk with hk|hk
  .exact Vl (wpAny_loadName_cell I.ok.kind hk hc l_ d_) hd
  .exact Vl (wpAny_loadName_free I.ok.kind hk hc l_ d_ gV) hd
def wg{i j pos}:PE X (.Constant (.int i) j pos) (tC (.int i)):=λ_ _ _ H _ I h=>wpAny_Constant_int #[.int i,H,I.tok _,#[_,rfl],h]
def wj{b j pos}:PE X (.Constant (.bool b) j pos) (tC (.bl b)):=λ_ _ _ H _ I h=>Constant_bool #[.bl b,H,I,rfl,h]
def wk{j pos}:PE X (.Constant .none j pos) (tC .non):=λ_ _ _ H _ I h=>Constant_none #[.non,H,I,rfl,h]
def qp{x j pos}:PE X (.Constant (.str x) j pos) (tC (.str x)):=λ_ _ _ H _ I h=>Calls.Constant_str #[.str x,H,I.tok _,#[_,rfl],h]
def Gl(X:Cx)(x:F_):Prop:=X.env.kindOf x=be .globalImplicit
variable{E Q:KB->Os->Prop}{pins:List (KF×TL)}{u:KB}
def cv{s:Os}{σ:St}{H:Hp}(I:Inv X pins σ H s)(hg:Gl X x)(hm:X.mg x=be u)(h:Q u s)
  (hd:autoParam (zND x) zA1):To (SB X.prog X.w) X.A (Tv (.Name x pos) X.env) Q E s:=
 Calls.Name_function_global I.ok.kind hg (Calls.loadGlobal_global (by rw[I.ok.glob];exact I.mod.glob.keeps I.bk) hm h) hd
def dE{s:Os}{σ:St}{H:Hp}(I:Inv X pins σ H s)(hg:Gl X x)(hm:X.mg x=t9)(hv:TN x=be u)(h:Q u s)
  (hn:autoParam (x≠"__name__") zA1) (hd:autoParam (zND x) zA1):To (SB X.prog X.w) X.A (Tv (.Name x pos) X.env) Q E s:=by
 obtain⟨mb,h1,h2⟩:=I.mod.blt;exact Calls.Name_function_global I.ok.kind hg (Calls.loadGlobal_builtin (by rw[I.ok.glob];exact I.mod.glob.keeps I.bk) hm (by rw[I.ok.blt];exact h1.keeps I.bk) ((h2 x hn).trans hv) h) hd
def wl{v:V}(hg:Gl X x)(hm:X.mg x=be u)(r:RelV v u)(hd:autoParam (zND x) zA1):PE X (.Name x pos) (tC v):=
 λ_ _ _ H _ I h=>cv I hg hm #[v,H,I,r,h] hd
def wn{v:V}(hg:Gl X x)(hm:X.mg x=t9)(hv:TN x=be u)(r:RelV v u)(hn:autoParam (x≠"__name__") zA1)(hd:autoParam (zND x) zA1):PE X (.Name x pos) (tC v):=
 λ_ _ _ H _ I h=>dE I hg hm hv #[v,H,I,r,h] hn hd
variable {a b:Tn}{ta tb:TE}{pos:Tw}
variable {tA D':TT}{rest:List Tn}
def tAnd(t u:TT):TT:=λσ H Q=>t σ H λc H1=>if c=true then u σ H1 Q else Q false H1
def tOr(t u:TT):TT:=λσ H Q=>t σ H λc H1=>if c=true then Q true H1 else u σ H1 Q
def tNot(t:TT):TT:=λσ H Q=>t σ H λc H1=>Q (!c) H1
def qq(ha:PT X a tA):PW X (.BoolOp .And [a] pos) tA:=by
 intro wh pins s σ H Q I h;refine isTrue_and (thn (ha pins s σ H Q I h) λc s1 e=>?_);cases c with
 |true=>exact isTrue_and_nil e
 |false=>exact e
def qr(ha:PT X a tA):PW X (.BoolOp .Or [a] pos) tA:=by
 intro wh pins s σ H Q I h;refine isTrue_or (thn (ha pins s σ H Q I h) λc s1 e=>?_);cases c with
 |false=>exact isTrue_or_nil e
 |true=>exact e
def qt(ha:PT X a tA)(hb:PW X (.BoolOp .And (b::rest) pos) D'):PW X (.BoolOp .And (a::b::rest) pos) (tAnd tA D'):=by
 intro wh pins s σ H Q I h;refine isTrue_and (thn (ha pins s σ H _ I h) λc s1 b9=>?_);obtain⟨H1,I1,q1⟩:=b9;cases c with
 |true=>exact hb wh pins s1 σ H1 Q I1 q1
 |false=>exact#[H1,I1,q1]
def qu(ha:PT X a tA)(hb:PW X (.BoolOp .Or (b::rest) pos) D'):PW X (.BoolOp .Or (a::b::rest) pos) (tOr tA D'):=by
 intro wh pins s σ H Q I h;refine isTrue_or (thn (ha pins s σ H _ I h) λc s1 b9=>?_);obtain⟨H1,I1,q1⟩:=b9;cases c with
 |true=>exact#[H1,I1,q1]
 |false=>exact hb wh pins s1 σ H1 Q I1 q1
def wo(ha:PT X a tA):PT X (.UnaryOp .Not a pos) (tNot tA):=by
 intro pins s σ H Q I h;exact isTrue_not (ha pins s σ H (λc H1=>Q (!c) H1) I h)
def wt(ta tb:TE):TE:=λσ H Q=>ta σ H λx H1=>∃c,x=.bl c/\if c=true then tb σ H1 Q else Q (.bl false) H1
def wu(ta:TE):TE:=λσ H Q=>ta σ H λx H1=>∃c,x=.bl c/\Q (.bl (!c)) H1
def wv{op}{t:TE}(h:PE X a t):PE X (.BoolOp op [a] pos) t:=λpins s σ H Q I hw=>BoolOp_one (h pins s σ H Q I hw)
def ww(ha:PE X a ta)(hb:PE X (.BoolOp .And (b::rest) pos) tb):PE X (.BoolOp .And (a::b::rest) pos) (wt ta tb):=by
 intro pins s σ H Q I h;refine BoolOp_and (thn (ha pins s σ H _ I h) λv s1 b9=>?_);obtain⟨x,H1,I1,r1,q1⟩:=b9;obtain⟨c,rfl,q1⟩:=q1;cases r1;refine Up ?_;cases c with
 |true=>exact hb pins s1 σ H1 Q I1 q1
 |false=>exact#[.bl false,H1,I1,rfl,q1]
def wx(ha:PE X a ta):PE X (.UnaryOp .Not a pos) (wu ta):=by
 intro pins s σ H Q I h;refine UnaryOp_ (thn (ha pins s σ H _ I h) λv s1 b9=>?_);obtain⟨x,H1,I1,r1,q1⟩:=b9;obtain⟨c,rfl,q1⟩:=q1;cases r1;exact not_of (Up #[.bl (!c),H1,I1,rfl,q1])
def tIf(t:TT)(ta tb:TE):TE:=λσ H Q=>t σ H λc H1=>if c=true then ta σ H1 Q else tb σ H1 Q
def wy{c:Tn}(hc:PT X c tA)(ha:PE X a ta)(hb:PE X b tb):PE X (.IfExp c a b pos) (tIf tA ta tb):=by
 intro pins s σ H Q I h;refine wpAny_IfExp (thn (hc pins s σ H _ I h) λd s1 b9=>?_);obtain⟨H1,I1,q1⟩:=b9;cases d with
 |true=>exact ha pins s1 σ H1 Q I1 q1
 |false=>exact hb pins s1 σ H1 Q I1 q1
end
def SqL(K:Ex)(H:Hp)(a:KF)(xs:List V):Prop:=
 Rd H a (.lst xs)\/
  ∃(o:TL) (its:Array KB) (n:Nat),K.lookup a=be o/\o.cls=.type "list"/\o.dict=t9/\o.data=.seq its n/\its.size<=sizeLine/\Vals xs its.toList
def SqT(K:Ex)(H:Hp)(a:KF)(xs:List V):Prop:=
 Rd H a (.tup xs)\/
  ∃(o:TL) (its:Array KB) (n:Nat),K.lookup a=be o/\o.cls=.type "tuple"/\o.data=.seq its n/\its.size<=sizeLine/\Vals xs its.toList
def absV:KB->Option V
 |.none=>be .non
 |.bool b=>be (.bl b)
 |.int i _=>be (.int i)
 |.str x _=>be (.str x)
 |.bytes b _=>be (.byt b)
 |.float b _=>be (.flt b)
 |.ref a=>be (.ref a)
 |.type n=>be (.ty n)
 |_=>t9
variable{u:KB}
def RelV.abs{x:V}(r:RelV x u):absV u=be x:=by
 cases x with
 |non=>cases r;rfl
 |bl _=>cases r;rfl
 |int _=>obtain⟨t,rfl⟩:=r;rfl
 |str _=>obtain⟨t,rfl⟩:=r;rfl
 |byt _=>obtain⟨t,rfl⟩:=r;rfl
 |flt _=>obtain⟨t,rfl⟩:=r;rfl
 |ref _=>cases r;rfl
 |ty _=>cases r;rfl
def RelV.inj{x y:V}(r:RelV x u)(q:RelV y u):x=y:=Option.some.inj (r.abs.symm.trans q.abs)
def Vals.inj:∀{xs ys:List V} {us:List KB},Vals xs us->Vals ys us->xs=ys:=by
 intro xs ys us h;induction h generalizing ys with
 |nil=>intro g;cases g;rfl
 |cons r _ e=>
  intro g;cases g with
  |cons r' t'=>rw[r.inj r',e t']
section
variable {X:Cx}{pins:List (KF×TL)}{σ:St}{H:Hp}{s:Os}{a:KF}{xs ys:List V}
def SqL.of{K:Ex}(h:H a=be (.lst xs)):SqL K H a xs:=.inl (.inl h)
def SqT.of{K:Ex}(h:H a=be (.tup xs)):SqT K H a xs:=.inl (.inl h)
def Inv.list(I:Inv X pins σ H s)(h:SqL X.K H a xs):∃its:List KB,Vals xs its/\PlainL s.heap a its.toArray/\xs.length<=sizeLine:=by
 rcases h with h|⟨o,its,n,hk,hc,hd,hs,hz,r⟩
 .obtain⟨z,its,n,r,e⟩:=h.ok I.hok;exact#[its,r,#[_,n,e,rfl,rfl,rfl],z]
 .refine#[its.toList,r,#[o,n,I.kIn a o hk,hc,hd,by simpa using hs],?_];have e:=r.length;simp only[Iy]at e;lia
def Inv.tuple(I:Inv X pins σ H s)(h:SqT X.K H a xs):∃its:List KB,Vals xs its/\IsTup s.heap a its.toArray/\xs.length<=sizeLine:=by
 rcases h with h|⟨o,its,n,hk,hc,hs,hz,r⟩
 .obtain⟨z,its,r,p⟩:=h.ok I.hok;exact#[its,r,p,z]
 .refine#[its.toList,r,#[o,I.kIn a o hk,hc,n,by simpa using hs],?_];have e:=r.length;simp only[Iy]at e;lia
def Inv.list_inj(I:Inv X pins σ H s)(h:SqL X.K H a xs)(h':SqL X.K H a ys):xs=ys:=by
 obtain⟨its,r,⟨o,n,e,_,_,d⟩,_⟩:=I.list h;obtain⟨its',r',⟨o',n',e',_,_,d'⟩,_⟩:=I.list h';rw[e]at e';cases e';rw[d]at d';injection d' with d1 _;have:its=its':=by simpa using congrArg Array.toList d1
 subst this;exact r.inj r'
end
abbrev Cx.wish(X:Cx)(E:KB->Os->Prop):Cx:={X with xe:=E}
abbrev Cx.nox(X:Cx):Cx:=X.wish λ_ _=>False
def Cx.Ok.wish(ok:X.Ok)(E:KB->Os->Prop):(X.wish E).Ok:=
 #[ok.mod,ok.kind,ok.glob,ok.blt,ok.above,ok.inj,ok.has,ok.cab,ok.hd,ok.frames,ok.stk,ok.exf,ok.bs,ok.bsz,ok.noex,ok.exfs,ok.funs,ok.frf]
def Cx.Ok.unwish(ok:(X.wish E).Ok):X.Ok:=
 #[ok.mod,ok.kind,ok.glob,ok.blt,ok.above,ok.inj,ok.has,ok.cab,ok.hd,ok.frames,ok.stk,ok.exf,ok.bs,ok.bsz,ok.noex,ok.exfs,ok.funs,ok.frf]
section
variable {X:Cx}{pins:List (KF×TL)}{σ:St}{H:Hp}{s:Os}{E:KB->Os->Prop}
def Inv.wish(I:Inv X pins σ H s)(E:KB->Os->Prop):Inv (X.wish E) pins σ H s:=#[I.ok.wish E,I.os,I.bare,I.base,I.loc,I.cell,I.free,I.freeC,I.pin,I.hok,I.len]
def Inv.unwish(I:Inv (X.wish E) pins σ H s):Inv X pins σ H s:=#[I.ok.unwish,I.os,I.bare,I.base,I.loc,I.cell,I.free,I.freeC,I.pin,I.hok,I.len]
def SP.unwish{D:Ends}{f:Flow}{s':Os}(h:SP (X.wish E) pins D f s'):SP X pins D f s':=by
 cases f with
 |next=>obtain⟨σ',H',I,q⟩:=h;exact#[σ',H',I.unwish,q]
 |brk=>obtain⟨σ',H',I,q⟩:=h;exact#[σ',H',I.unwish,q]
 |cont=>obtain⟨σ',H',I,q⟩:=h;exact#[σ',H',I.unwish,q]
 |ret u=>obtain⟨v,σ',H',I,r,q⟩:=h;exact#[v,σ',H',I.unwish,r,q]
def PSs.nox{st:List SL}{t:TS}(h:PSs X.nox st t):PSs X st t:=λpins s σ H D I hw=>
 TF (h pins s σ H D (I.wish _) hw) (λ_ _ q=>q.unwish) λ_ _ z=>False.elim z
end
section
variable {X:Cx}{st:SL}{rest:List SL}{t u:TS}{e:Tn}{te:TE}{pos:Tw}
def wz:TS:=λD σ H=>D.nx σ H
def tSeq(t u:TS):TS:=λD σ H=>t {D with nx:=u D} σ H
def pss_nil:PSs X [] wz:=λ_ _ σ H _ I h=>Ui #[σ,H,I,h]
def dW(h1:PS X st t)(h2:PSs X rest u):PSs X (st::rest) (tSeq t u):=by
 intro pins s σ H D I h;refine wpAny_execs_cons (thn (h1 pins s σ H {D with nx:=u D} I h) λf s1 q=>?_);cases f with
 |next=>
  obtain⟨σ',H',I',q⟩:=q;exact h2 pins s1 σ' H' D I' q
 |ret v=>exact q
 |brk=>exact q
 |cont=>exact q
def qv(h1:PS X st t):PSs X [st] t:=by
 intro pins s σ H D I h;refine wpAny_execs_cons (thn (h1 pins s σ H D I h) λf s1 q=>?_);cases f with
 |next=>exact Ui q
 |ret v=>exact q
 |brk=>exact q
 |cont=>exact q
def Inv.quiet{pins:List (KF×TL)}{σ:St}{H:Hp}{s:Os}(I:Inv X pins σ H s):interactive X.env=false:=by simp[interactive,I.ok.kind]
def wA(te:TE):TS:=λD σ H=>te σ H λ_ H1=>D.nx σ H1
def jK(he:PE X e te)(hs:autoParam (TJ e t9 pos.line X.env=pure false) zA0):PS X (.Expr e pos) (wA te):=by
 intro pins s σ H D I h;exact wpAny_Expr_any (thn (he pins s σ H _ I h) λv s1 ⟨x,H1,I1,r1,q1⟩=>#[σ,H1,I1,q1]) I.quiet hs
def tRet(te:TE):TS:=λD σ H=>te σ H D.rt
def qw(he:PE X e te):PS X (.Return (be e) pos) (tRet te):=by
 intro pins s σ H D I h;exact wpAny_Return_some (thn (he pins s σ H _ I h) λv s1 ⟨x,H1,I1,r1,q1⟩=>#[x,σ,H1,I1,r1,q1])
def tIfS(c:TT)(t u:TS):TS:=λD σ H=>c σ H λb H1=>if b=true then t D σ H1 else u D σ H1
def qy{c:Tn}{a b:List SL}{tc:TT}(hc:PT X c tc)(ha:PSs X a t)(hb:PSs X b u):PS X (.If c a b pos) (tIfS tc t u):=by
 intro pins s σ H D I h;refine wpAny_If (thn (hc pins s σ H _ I h) λd s1 b9=>?_);obtain⟨H1,I1,q1⟩:=b9;cases d with
 |true=>exact ha pins s1 σ H1 D I1 q1
 |false=>exact hb pins s1 σ H1 D I1 q1
def wB:TS:=λ_ _ _=>False
def ps_never:PS X st wB:=λ_ _ _ _ _ _ h=>h.elim
end
abbrev TG:=V->St->Hp->(St->Hp->Prop)->Prop
abbrev TGs:=List V->St->Hp->(St->Hp->Prop)->Prop
def PG(X:Cx)(g6:Tn)(t:TG):Prop:=
 ∀(pins:List (KF×TL)) (s:Os) (σ:St) (H:Hp) (v:V) (u:KB) (Q:St->Hp->Prop),Inv X pins σ H s->RelV v u->t v σ H Q->
  To (SB X.prog X.w) X.A (Uj g6 X.env u) (λ_ s'=>∃σ' H',Inv X pins σ' H' s'/\Q σ' H') X.xe s
def PGs(X:Cx)(ts:List Tn)(t:TGs):Prop:=
 ∀(pins:List (KF×TL)) (s:Os) (σ:St) (H:Hp) (vs:List V) (us:List KB) (Q:St->Hp->Prop),Inv X pins σ H s->Vals vs us->t vs σ H Q->
  To (SB X.prog X.w) X.A (UX ((Ts ts X.env).map (·.2)) us) (λ_ s'=>∃σ' H',Inv X pins σ' H' s'/\Q σ' H') X.xe s
abbrev TSet:=V->V->V->Hp->(Hp->Prop)->Prop
def PSet(X:Cx)(t:TSet):Prop:=
 ∀(pins:List (KF×TL)) (s:Os) (σ:St) (H:Hp) (o i v:V) (ov iv u:KB) (Q:Hp->Prop),Inv X pins σ H s->RelV o ov->RelV i iv->RelV v u->t o i v H Q->
  To (SB X.prog X.w) X.A (U3 ov iv u) (λ_ s'=>∃H',Inv X pins σ H' s'/\Q H') X.xe s
abbrev TIp:=V->V->Hp->VK->Prop
def PIp(X:Cx)(op:UV)(t:TIp):Prop:=
 ∀(pins:List (KF×TL)) (s:Os) (σ:St) (H:Hp) (x y:V) (v u:KB) (Q:VK),Inv X pins σ H s->RelV x v->RelV y u->t x y H Q->
  To (SB X.prog X.w) X.A (inplaceOp op v u) (EP X pins σ Q) X.xe s
section
variable {X:Cx}{pos:Tw}
def fE(i:Nat):TG:=λv σ H Q=>Q (σ.set i (be v)) H
variable{i:Nat}{x:F_}
def dX(hN:X.N.Nodup)(hi:X.N[i]?=be x)(hx:Loc X.env.scope x)(hf:autoParam (zFN X x) zA2):PG X (.Name x pos) (fE i):=by
 intro pins s σ H v u Q I r h;exact UG (dU I hN hi hx r (λs' I'=>#[_,H,I',h]) hf)
def gNil:TGs:=λvs σ H Q=>vs=[]/\Q σ H
def wC(t:TG)(u:TGs):TGs:=λvs σ H Q=>∃v r,vs=v::r/\t v σ H λσ' H'=>u r σ' H' Q
def wE:PGs X [] gNil:=by
 intro pins s σ H vs us Q I r h;obtain⟨e,h⟩:=h;subst e;cases r;exact Vu #[σ,H,I,h]
variable{e:Tn}{es:List Tn}
def wF{t:TG}{u:TGs}(h1:PG X e t)(h2:PGs X es u)
  (hs:autoParam ((Ts (e::es) X.env).map (·.2)=Uj e X.env::(Ts es X.env).map (·.2)) zA0):PGs X (e::es) (wC t u):=by
 intro pins s σ H vs us Q I r h;obtain⟨v,vr,e1,h⟩:=h;subst e1;cases r with
 |cons r rr=>
  rw[hs];refine UF (thn (h1 pins s σ H _ _ _ I r h) λ_ s1 b9=>?_);obtain⟨σ1,H1,I1,q1⟩:=b9;exact h2 pins s1 σ1 H1 _ _ Q I1 rr q1
def gTup(K:Ex)(n:Nat)(t:TGs):TG:=λv σ H Q=>∃a xs,v=.ref a/\SqT K H a xs/\xs.length=n/\t xs σ H Q
def gH{k:Nat}{t:TGs}{n:Nat}(hc:X.calm=true)(h:PGs X es t)
  (hn:autoParam ((Ts es X.env).length=n) zA0) (m4:autoParam ((Ts es X.env).findIdx? (·.1)=none) zA0):PG X (.Tuple es k pos) (gTup X.K n t):=by
 intro pins s σ H v u Q I r hw;obtain⟨a,xs,e1,hq,hl,hw⟩:=hw;subst e1;cases r;obtain⟨its,rv,ht,hz⟩:=I.tuple hq;refine assign_Tuple_tuple (I.ok.hd hc) ht (by simp[hn,<-hl,rv.length]) m4 λh' hx=>?_;have I1:Inv X pins σ H {s with heap:=h'}:=I.kept (t':=s.toks) λb o e=>hx b o (GV (Heap.lt_size e)) e;exact h pins _ σ H xs _ Q I1 (by simpa using rv) hw
def gSub(to ti:TE)(t:TSet):TG:=λv σ H Q=>to σ H λo H1=>ti σ H1 λi H2=>t o i v H2 λH3=>Q σ H3
def wG{o i:Tn}{to ti:TE}{t:TSet}(ho:PE X o to)(hi:PE X i ti)(hs:PSet X t)
  (ha:∀v,Uj (.Subscript o i pos) X.env v=(do
   let ov <-T1 [v] (Tv o X.env)
   let iv <-T1 [v,ov] (Tv i X.env)
   Ul pos
   T1 [v,ov,iv] (U3 ov iv v)
   Vr [v,ov,iv] []):=by intro _;rfl):PG X (.Subscript o i pos) (gSub to ti t):=by
 intro pins s σ H v u Q I r h;rw[ha];refine KM (TR (thn (ho pins s σ H _ I h) λov s1 b9=>?_));obtain⟨x,H1,I1,r1,q1⟩:=b9;refine KM (TR (thn (hi pins s1 σ H1 _ I1 q1) λiv s2 b9=>?_));obtain⟨y,H2,I2,r2,q2⟩:=b9;refine KM (T4 (KM (TR (thn (hs pins s2 σ H2 x y v ov iv u _ I2 r1 r2 r q2) λ_ s3 b9=>?_))));obtain⟨H3,I3,q3⟩:=b9;exact wpAny_release #[σ,H3,I3,q3]
def tAsg(te:TE)(g:TG):TS:=λD σ H=>te σ H λx H1=>g x σ H1 D.nx
variable{te:TE}
def jL{tg:Tn}{g:TG}(he:PE X e te)(hg:PG X tg g)(hs:autoParam (Ub [tg] e pos.line X.env=pure false) zA0)(hw:autoParam (Uc [tg] e X.env=pure none) zA0)
  (h1:autoParam ((Ts [tg] X.env).map (·.2)=[Uj tg X.env]) zA0):PS X (.Assign [tg] e pos) (tAsg te g):=by
 intro pins s σ H D I h;refine wpAny_Assign_stores (thn (he pins s σ H _ I h) λv s1 hh=>?_) hs hw;obtain⟨x,H1,I1,r1,q1⟩:=hh;rw[h1];exact thn (hg pins s1 σ H1 x v _ I1 r1 q1) λ_ s2 q=>q
def gI{b_:Tw}(hN:X.N.Nodup)(hi:X.N[i]?=be x)(hx:Loc X.env.scope x)(he:PE X e te)(hs:autoParam (TJ e (be (.Name x b_)) pos.line X.env=pure false) zA0)(hf:autoParam (zFN X x) zA2):
  PS X (.Assign [.Name x b_] e pos) (tAsg te (fE i)):=by
 intro pins s σ H D I h;refine wpAny_Assign_Name (thn (he pins s σ H _ I h) λv s1 hh=>?_) hs;obtain⟨y,H1,I1,r1,q1⟩:=hh;exact dU I1 hN hi hx r1 (λs2 I2=>#[_,H1,I2,q1]) hf
def tPar(i j:Nat)(ta:TA):TS:=λD σ H=>ta σ H λvs H1=>∃v w,vs=[v,w]/\D.nx ((σ.set i (be v)).set j (be w)) H1
def wH{j:Nat}{y:F_}{a b:Tn}{ta:TA}{px py pt:Tw}{kt k2 K2}(hc:X.calm=true)(hN:X.N.Nodup)(hi:X.N[i]?=be x)(hj:X.N[j]?=be y)(NM:i≠j)
  (hx:X.env.scope.names.lookup x=be .local) (hy:X.env.scope.names.lookup y=be .local) (ha:PA X [a,b] ta)
  (hw:Uc [.Tuple [.Name x px,.Name y py] kt pt] (.Tuple [a,b] k2 K2) X.env=pure (be [x,y]))
  (hs:autoParam (Ub [.Tuple [.Name x px,.Name y py] kt pt] (.Tuple [a,b] k2 K2) pos.line X.env=pure false) zA0):
  PS X (.Assign [.Tuple [.Name x px,.Name y py] kt pt] (.Tuple [a,b] k2 K2) pos) (tPar i j ta):=by
 intro pins s σ H D I h;rw[exec_Assign_arm];refine KM (T4 ?_);rw[hs];refine KM (P3 ?_);rw[if_neg K3];refine KM (Tuple_ (thn (ha _ pins s σ H _ I h) λus s1 b9=>?_));obtain⟨vs,H1,I1,r1,q1⟩:=b9;obtain⟨v,w,e1,q1⟩:=q1;subst e1;obtain⟨u1,u2,rfl,rv,h_⟩:∃u1 u2,us=[u1,u2]/\RelV v u1/\RelV w u2:=by
  cases r1 with
  |cons p q=>
   cases q with
   |cons p' q'=>
    cases q';exact#[_,_,rfl,p,p']
 refine TC ?_ (by show 2<=sizeLine;decide);have I2:Inv X pins σ H1 {s1 with heap:=s1.heap.push {cls:=.type "tuple",data:=.seq [u1,u2].toArray} }:=I1.kept (t':=s1.toks) λb o e=>Heap.get?_push_of_some _ e;rw[hw];refine KM (P3 ?_);show To (SB X.prog X.w) X.A (do rule "assign.swapped-stores";let items <-unpackItems (.ref s1.heap.objs.size) 2 t9;UX [λv=>UU X.env y v,λv=>UU X.env x v] items.reverse;pure Flow.next) _ _ _;refine KM (Vj (KM (unpackItems_tuple (items:=[u1,u2].toArray) (I.ok.hd hc) (IsTup.new s1.heap _) λh' f8=>?_)));have I3:=I2.kept (h':=h') (t':=s1.toks) λb o e=>f8 b o (GV (Heap.lt_size e)) e;show To _ _ (UX [λv=>UU X.env y v,λv=>UU X.env x v] [u2,u1]>>=λ_=>pure Flow.next) _ _ _;refine KM (UF (wpAny_bindName (dU I3 hN hj (.inl hy) h_ (λs2 I4=>?_) (.inr hy))));refine UF (wpAny_bindName (dU I4 hN hi (.inl hx) rv (λs3 I5=>Vu (P3 ?_)) (.inr hx)));rw[List.set_comm _ _ (Ne.symm NM)]at I5;exact#[_,H1,I5,q1]
def wI(to ti te:TE)(D_:V->V->Hp->VK->Prop)(Na:TIp)(E_:TSet):TS:=λD σ H=>to σ H λo H1=>ti σ H1 λi H2=>D_ o i H2 λx H3=>te σ H3 λy H4=>Na x y H4 λz H5=>E_ o i z H5 λH6=>D.nx σ H6
def PGet(X:Cx)(t:V->V->Hp->VK->Prop):Prop:=
 ∀(pins:List (KF×TL)) (s:Os) (σ:St) (H:Hp) (o i:V) (ov iv:KB) (Q:VK),Inv X pins σ H s->RelV o ov->RelV i iv->t o i H Q->
  To (SB X.prog X.w) X.A (UP ov iv) (EP X pins σ Q) X.xe s
def wJ{o i:Tn}{to ti:TE}{D_:V->V->Hp->VK->Prop}{Na:TIp}{E_:TSet}{op:UV}{LY:Tw}(ho:PE X o to)(hi:PE X i ti)(hg:PGet X D_)(he:PE X e te)(hp:PIp X op Na)(hs:PSet X E_)
  (ha:autoParam (∀ov iv new,augStore i ov iv new=(do T1 [new,ov,iv] (U3 ov iv new);Vr [new,ov,iv] [];pure .next)) zA7):PS X (.AugAssign (.Subscript o i LY) op e pos) (wI to ti te D_ Na E_):=by
 intro pins s σ H D I h;refine wpAny_AugAssign_SubscriptAny (thn (ho pins s σ H _ I h) λov s1 hh=>?_) ha;obtain⟨x1,H1,I1,r1,q1⟩:=hh;refine thn (hi pins s1 σ H1 _ I1 q1) λiv s2 b9=>?_;obtain⟨x2,H2,I2,r2,q2⟩:=b9;refine thn (hg pins s2 σ H2 x1 x2 ov iv _ I2 r1 r2 q2) λd6 s3 b9=>?_;obtain⟨x3,H3,I3,r3,q3⟩:=b9;refine thn (he pins s3 σ H3 _ I3 q3) λv s4 b9=>?_;obtain⟨x4,H4,I4,r4,q4⟩:=b9;refine thn (hp pins s4 σ H4 x3 x4 d6 v _ I4 r3 r4 q4) λnew s5 b9=>?_;obtain⟨x5,H5,I5,r5,q5⟩:=b9;exact thn (hs pins s5 σ H5 x1 x2 x5 ov iv new _ I5 r1 r2 r5 q5) λ_ s6 ⟨H6,I6,q6⟩=>#[σ,H6,I6,q6]
def ipI(f:Int->Int->Int):TIp:=λx y H Q=>∃i j,x=.int i/\y=.int j/\Q (.int (f i j)) H
def wK:PIp X .Add (ipI λi j=>i+j):=by
 intro pins s σ H x y v u Q I r1 r2 h;obtain⟨i,j,e1,e2,q⟩:=h;subst e1;subst e2;obtain⟨t,rfl⟩:=r1;obtain⟨t',rfl⟩:=r2;exact iadd_int #[.int _,H,I.tok _,#[_,rfl],q]
def wL(c:TT)(tb:TS):TS:=λD σ H=>∃W:Nat->St->Hp->Prop,(∃m,W m σ H)/\∀m σ H,W m σ H->
 c σ H λb H1=>if b=true then ∃N:St->Hp->Prop,(∀σ' H',N σ' H'->∃m',m'<m/\W m' σ' H')/\tb {D with nx:=N,ct:=N,bk:=D.nx} σ H1 else D.nx σ H1
def qz{c:Tn}{body:List SL}{tc:TT}{tb:TS}(hp:TX (SB X.prog X.w) X.A X.env X.xe)(hc:PT X c tc)(hb:PSs X body tb):PS X (.While c body [] pos) (wL tc tb):=by
 intro pins s σ H D I h;obtain⟨W,⟨m0,w0⟩,c7⟩:=h;refine wpAny_While (codeAny_whileLoop (λn s'=>∃σ' H',Inv X pins σ' H' s'/\W n σ' H') ?_ m0 #[σ,H,I,w0]);rintro n s1⟨σ1,H1,I1,w1⟩;refine TY hp (thn (hc pins s1 σ1 H1 _ I1 (c7 n σ1 H1 w1)) λb s2 b9=>?_);obtain⟨H2,I2,q2⟩:=b9;cases b with
 |true=>
  obtain⟨N,hN,q2⟩:=q2;rw[if_pos rfl];refine TY hp (thn (hb pins s2 σ1 H2 _ I2 q2) λf s3 q3=>?_);cases f with
  |next=>
   obtain⟨σ3,H3,I3,n3⟩:=q3;obtain⟨m',hm,w3⟩:=hN σ3 H3 n3;exact#[m',hm,σ3,H3,I3,w3]
  |cont=>
   obtain⟨σ3,H3,I3,n3⟩:=q3;obtain⟨m',hm,w3⟩:=hN σ3 H3 n3;exact#[m',hm,σ3,H3,I3,w3]
  |brk=>exact q3
  |ret v=>exact q3
 |false=>
  rw[if_neg G1];exact Ui #[σ1,H2,I2,q2]
end
structure It where
 go:Nat->Hp->Prop
 yld:Nat->Hp->V->Hp->Prop
 stop:Nat->Hp->Prop
def FpOk(X:Cx)(pins:List (KF×TL))(H:Hp)(b:KF):Prop:=
 H b=t9/\b≠X.env.locals/\b∉X.fs/\(b∈X.ex\/X.s₀.heap.objs.size<=b)/\(∀x c,X.env.cells.lookup x=be c->c≠b)/\∀p∈X.pn++pins,p.1≠b
variable{σ:St}
def Inv.fpOk{pins:List (KF×TL)}{H':Hp}(I:Inv X pins σ H s)(hb:s.heap.objs.size<=b)(hn:H' b=t9):FpOk X pins H' b:=by
 refine#[hn,HD (G9 I.lt hb),I.nofs hb,.inr (GW I.sz hb),λx c e z=>?_,λp hp z=>?_]
 .obtain⟨v,q⟩:=I.cell x c e;exact absurd (G9 q.lt (by rw[z];exact hb)) (HI _)
 .exact absurd (G9 (Heap.lt_size (I.pin p hp).1) (by rw[z];exact hb)) (HI _)
structure Turn(P:SZ)(w:Tp)(K:Ex)(tg:Tn)(J:It)(fp:List KF)(it:KF)(tn:Nat->Heap->Prop):Prop where
 mem:it∈fp
 obj:∀i h,tn i h->∀b∈fp,∃o,h.get? b=be o/\∀v,o.data≠.cell v
 keep:∀i h h',tn i h->(∀b∈fp,∀o,h.get? b=be o->h'.get? b=be o)->tn i h'
 item:∀(X:Cx),X.prog=P->X.w=w->X.K=K->X.calm=true->∀(i:Nat) (pins:List (KF×TL)) (s:Os) (σ:St) (H:Hp) (E:KB->Os->Prop),Inv X pins σ H s->(∀b∈fp,FpOk X pins H b)->tn i s.heap->J.go i H->
  To (SB P w) X.A (pyNext (.ref it)) (λr s1=>∃u,r=be u/\
   To (SB P w) X.A (Uz tg (.ref it) u) (λ_ s2=>∃x H',Inv X pins σ H' s2/\RelV x u/\J.yld i H x H'/\tn (i+1) s2.heap/\∀b∈fp,H' b=t9) E s1) E s
 done:∀(X:Cx),X.prog=P->X.w=w->X.K=K->X.calm=true->∀(i:Nat) (pins:List (KF×TL)) (s:Os) (σ:St) (H:Hp) (E:KB->Os->Prop),Inv X pins σ H s->(∀b∈fp,FpOk X pins H b)->tn i s.heap->J.stop i H->
  To (SB P w) X.A (pyNext (.ref it)) (λr s1=>r=t9/\Inv X pins σ H s1) E s
 self:∀(A:Tq) (i:Nat) (s:Os) (Q:KB->Os->Prop) (E:KB->Os->Prop),tn i s.heap->Q (.ref it) s->To (SB P w) A (pyIter (.ref it)) Q E s
abbrev TI:=St->Hp->(It->Hp->Prop)->Prop
def PIE(X:Cx)(pins:List (KF×TL))(σ:St)(tg:Tn)(R:It->Hp->Prop)(Nb:KB)(s2:Os):Prop:=
 ∃(it:KF) (fp:List KF) (tn:Nat->Heap->Prop) (J:It) (H':Hp),Nb=.ref it/\Inv X pins σ H' s2/\Turn X.prog X.w X.K tg J fp it tn/\tn 0 s2.heap/\(∀b∈fp,FpOk X pins H' b)/\R J H'
def PI(X:Cx)(tg iter:Tn)(wi:TI):Prop:=
 ∀(pins:List (KF×TL)) (s:Os) (σ:St) (H:Hp) (R:It->Hp->Prop),Inv X pins σ H s->wi σ H R->
  To (SB X.prog X.w) X.A (Tv iter X.env) (λv s1=>To (SB X.prog X.w) X.A (pyIter v) (PIE X pins σ tg R) X.xe s1) X.xe s
variable{tg:Tn}
def jM{M:Ve}{it:KF}{o:TL}{n:String}{vs:Array KB}{Q:Unit->Os->Prop}(ho:s.heap.get? it=be o)(hc:o.cls=.type n)(hd:o.data=.fields vs)
    (hn:["enumerate","zip","dict_itemiterator","dict_reverseitemiterator","odict_iterator","itertools.zip_longest","itertools.pairwise"].contains n=false) (hQ:Q () s):To M A (Uz tg (.ref it) u) Q E s:=by
  unfold Uz;cases tg<;>first
    |exact P3 hQ
    |(cases u<;>first
        |exact P3 hQ
        |( refine KM (wpAny_load ho ?_)
           rw[hc,hd];show To M A (if(["enumerate","zip","dict_itemiterator","dict_reverseitemiterator","odict_iterator","itertools.zip_longest","itertools.pairwise"].contains n&&vs[0]?==be (Uw _))=true then _ else _) Q E s;rw[if_neg (by intro h;rw[hn,Bool.false_and]at h;cases h)];exact P3 hQ))
def Itl(K:Ex)(a:KF):It:=
 #[λi H=>∃xs x,SqL K H a xs/\xs[i]?=be x,λi H x H'=>H'=H/\∀xs,SqL K H a xs->xs[i]?=be x,λi H=>∃xs,SqL K H a xs/\xs.length<=i]
def Itr(lo:Int)(n:Nat):It:=#[λi _=>i<n,λi H x H'=>H'=H/\x=.int (lo+i),λi _=>n<=i]
variable{K:Ex}
def wM(a it:KF):Turn P w K tg (Itl K a) [it] it (λi h=>h.IsListIter it a i) where
 mem:=K'
 obj:=λi h st b hb=>by
  have e:b=it:=by simpa using hb
  subst e;obtain⟨o,e,c,d⟩:=st;exact#[o,e,λv z=>by rw[d]at z;cases z]
 keep:=λi h h' st k=>st.at λo e=>k it K' o e
 item:=by
  intro X hP hw hK hc i pins s σ H E I hf st hg;subst hP hw hK;obtain⟨xs,x,hq,hx⟩:=hg;obtain⟨its,rv,p,hz⟩:=I.list hq;obtain⟨u,hu,ru⟩:=rv.get hx;obtain⟨f0,f1,f2,f3,f4,f5⟩:=hf it K';refine wpAny_pyNext_list_item st p.isList (x:=u) (by simpa using hu) λh' t8 sb=>?_;have I1:Inv X pins σ H {s with heap:=h'}:=I.turned (t':=s.toks) (λb o hb e=>(sb.2 b hb).trans e) f0 f1 f3 f4 f5;obtain⟨o,e,c,d⟩:=id t8;exact#[u,rfl,jM (s:={s with heap:=h'}) e c d K3 #[x,H,I1,ru,#[rfl,λys hy=>by rw[I.list_inj hy hq];exact hx],t8,λb hb=>(hf b hb).1]]
 done:=by
  intro X hP hw hK hc i pins s σ H E I hf st hg;subst hP hw hK;obtain⟨xs,hq,hx⟩:=hg;obtain⟨its,rv,p,hz⟩:=I.list hq;obtain⟨f0,f1,f2,f3,f4,f5⟩:=hf it K';have hl:=rv.length;exact wpAny_pyNext_list_end (I.ok.hd hc) st p.isList SN λh' eb=>#[rfl,I.turned (t':=s.toks) (λb o hb e=>eb b o hb e) f0 f1 f3 f4 f5]
 self:=λ_ _ _ _ _ st h=>wpAny_pyIter_listiter st h
def wO(it:KF)(lo:Int)(n:Nat):Turn P w K tg (Itr lo n) [it] it (λi h=>IsRangeIter h it (lo+(i:Nat)*1) ((n:Int)-(i:Nat)) 1) where
 mem:=K'
 obj:=λi h st b hb=>by
  have e:b=it:=by simpa using hb
  subst e;exact⟨_,st,λv z=>by
   have z':Data.fields _=Data.cell v:=z;cases z'⟩
 keep:=λi h h' st k=>k it K' _ st
 item:=by
  intro X hP hw hK hc i pins s σ H E I hf st hg;subst hP hw hK;obtain⟨f0,f1,f2,f3,f4,f5⟩:=hf it K';have W:=Walks.range (prog:=X.prog) (w:=X.w) (I.ok.hd hc) it lo 1 n;refine W.item i s _ _ hg st λv h' tk hv t8 kk=>?_;obtain⟨t,rfl⟩:=hv;have I1:Inv X pins σ H {s with heap:=h',toks:=tk}:=I.turned (λb o hb e=>kk b o (by simpa using hb) e) f0 f1 f3 f4 f5;refine#[_,rfl,jM (s:={s with heap:=h',toks:=tk}) (n:="range_iterator") t8 rfl rfl K3 #[.int (lo+i),H,I1,#[t,?_],#[rfl,rfl],t8,λb hb=>(hf b hb).1]];rw[Int.mul_one]
 done:=by
  intro X hP hw hK hc i pins s σ H E I hf st hg;subst hP hw hK;obtain⟨f0,f1,f2,f3,f4,f5⟩:=hf it K';exact wpAny_pyNext_range_end (I.ok.hd hc) st (by have:n<=i:=hg;lia) λh' eb=>#[rfl,I.turned (t':=s.toks) (λb o hb e=>eb b o hb e) f0 f1 f3 f4 f5]
 self:=λ_ _ _ _ _ st h=>wpAny_pyIter_rangeiter st h
section
variable {X:Cx}{tg:Tn}
def qA(K:Ex)(tl:TE):TI:=λσ H R=>tl σ H λx H1=>∃a,x=.ref a/\(∃xs,SqL K H1 a xs)/\R (Itl K a) H1
def qB{l:Tn}{tl:TE}(hl:PE X l tl):PI X tg l (qA X.K tl):=by
 intro pins s σ H R I h;refine thn (hl pins s σ H _ I h) λv s1 b9=>?_;obtain⟨x,H1,I1,r1,q1⟩:=b9;obtain⟨a,e,⟨xs,hq⟩,q⟩:=q1;subst e;cases r1;obtain⟨its,rv,p,hz⟩:=I1.list hq;refine wpAny_pyIter_list p.isList ?_;refine#[s1.heap.objs.size,[s1.heap.objs.size],_,_,H1,rfl,I1.kept (t':=s1.toks) λb o e=>Heap.get?_push_of_some _ e,wM a _,#[_,Heap.get?_push_size _ rfl,rfl,rfl],λb hb=>?_,q];have e:b=s1.heap.objs.size:=by simpa using hb
 subst e;exact I1.fpOk (GN _) (I1.hok.fresh (GN _))
variable{pins:List (KF×TL)}{σ:St}{H:Hp}{s:Os}
def qC{R:It->Hp->Prop}{E:KB->Os->Prop}{lo hi:Int}{t u v:Vv}{tk:Nat}(I:Inv X pins σ H s)(h1:-(2^62)<=lo)(h2:lo<2^62)(h3:-(2^62)<=hi)(h4:hi<2^62)
  (q:R (Itr lo (hi-lo).toNat) H):To (SB X.prog X.w) X.A (pyIter (.ref s.heap.objs.size)) (PIE X pins σ tg R) E {s with heap:=s.heap.push {cls:=.type "range",data:=.fields [.int lo t,.int hi u,.int 1 v].toArray},toks:=tk}:=by
 refine wpAny_pyIter_range (IsRange.new ..) (small_one h1 h2 h3 h4) ?_;have I1:Inv X pins σ H {s with heap:=s.heap.push {cls:=.type "range",data:=.fields [.int lo t,.int hi u,.int 1 v].toArray},toks:=tk}:=I.kept λb o e=>Heap.get?_push_of_some _ e;refine⟨(s.heap.push {cls:=.type "range",data:=.fields [.int lo t,.int hi u,.int 1 v].toArray}).objs.size,[(s.heap.push {cls:=.type "range",data:=.fields [.int lo t,.int hi u,.int 1 v].toArray}).objs.size],_,_,H,rfl,
  I1.kept (t':=tk) λb o e=>Heap.get?_push_of_some _ e,wO _ lo (hi-lo).toNat,?_,λb hb=>?_,q⟩
 .have e1:lo+((0:Nat):Int)*1=lo:=by simp
  have e2:(((hi-lo).toNat:Nat):Int)-((0:Nat):Int)=Builtin.Range.rangeSize lo hi 1:=by rw[rangeSize_one];split<;>lia
  show IsRangeIter _ _ (lo+((0:Nat):Int)*1) ((((hi-lo).toNat:Nat):Int)-((0:Nat):Int)) 1;rw[e1,e2];exact Heap.get?_push_size _ rfl
 .have e:b=(s.heap.push {cls:=.type "range",data:=.fields [.int lo t,.int hi u,.int 1 v].toArray}).objs.size:=by simpa using hb
  subst e;exact I1.fpOk (GN _) (I1.hok.fresh (GN _))
def qD(ta:TA):TI:=λσ H R=>ta σ H λvs H1=>∃j:Int,vs=[.int j]/\-(2^62)<=j/\j<2^62/\R (Itr 0 j.toNat) H1
def wP(ta:TA):TI:=λσ H R=>ta σ H λvs H1=>∃i j:Int,vs=[.int i,.int j]/\(-(2^62)<=i/\i<2^62/\-(2^62)<=j/\j<2^62)/\R (Itr i (j-i).toNat) H1
variable{pos:Tw}
def jN{a:Tn}{ta:TA}{p:Tw}(hg:Gl X "range")(hm:X.mg "range"=t9)(ha:PA X [a] ta)(hs:autoParam (Tr [a] X.env=[(false,Tv a X.env)]) zA0):PI X tg (.Call (.Name "range" p) [a] [] pos) (qD ta):=by
 intro pins s σ H R I h;refine Call_ (dE I hg hm boot_range (PyProof.Rows.callWith_type1 (thn (ha pos pins s σ H _ I h) λus s1 hh=>?_) hs rfl));obtain⟨vs,H1,I1,r1,q1⟩:=hh;obtain⟨j,e,q1,q2,q⟩:=q1;subst e;cases r1 with
 |cons r rr=>
  cases rr;obtain⟨t,rfl⟩:=r;exact call_range_1 (qC I1 KK KK q1 q2 (by simpa using q))
def wQ{a b:Tn}{ta:TA}{p:Tw}(hg:Gl X "range")(hm:X.mg "range"=t9)(ha:PA X [a,b] ta)(hs:autoParam (Tr [a,b] X.env=[(false,Tv a X.env),(false,Tv b X.env)]) zA0)(n4:autoParam (Tr [b] X.env=[(false,Tv b X.env)]) zA0):
  PI X tg (.Call (.Name "range" p) [a,b] [] pos) (wP ta):=by
 intro pins s σ H R I h;refine Call_ (dE I hg hm boot_range (PyProof.Rows.callWith_type1 (thn (ha pos pins s σ H _ I h) λus s1 hh=>?_) (by rw[hs,n4]) (by rw[n4];rfl)));obtain⟨vs,H1,I1,r1,q1⟩:=hh;obtain⟨i,j,e,⟨q1,q2,q3,q4⟩,q⟩:=q1;subst e;cases r1 with
 |cons r rr=>
  cases rr with
  |cons r' rr=>
   cases rr;obtain⟨t,rfl⟩:=r;obtain⟨t',rfl⟩:=r';exact call_range_2 (qC I1 q1 q2 q3 q4 q)
def tFor(wi:TI)(g:TG)(tb:TS):TS:=λD σ H=>wi σ H λJ H1=>∃W:Nat->Nat->St->Hp->Prop,(∃m,W 0 m σ H1)/\∀i m σ H,W i m σ H->
 (J.stop i H/\D.nx σ H)\/(J.go i H/\∃N:St->Hp->Prop,(∀σ' H',N σ' H'->∃m',m'<m/\W (i+1) m' σ' H')/\∀x H',J.yld i H x H'->g x σ H' λσ2 H2=>tb {D with nx:=N,ct:=N,bk:=D.nx} σ2 H2)
def gJ(fp:List KF)(h:Heap):List (KF×TL):=fp.filterMap λb=>(h.get? b).map λo=>(b,o)
variable{fp:List KF}
def dY{h:Heap}{b:KF}{o:TL}(hb:b∈fp)(e:h.get? b=be o):(b,o)∈gJ fp h:=Jt.mpr #[b,hb,by rw[e];rfl]
def wR{h:Heap}{p:KF×TL}(hp:p∈gJ fp h):p.1∈fp/\h.get? p.1=be p.2:=by
 obtain⟨b,hb,e⟩:=Jt.mp hp;cases q:h.get? b with
 |none=>rw[q]at e;cases e
 |some o=>
  rw[q]at e;have e':(b,o)=p:=Option.some.inj e;subst e';exact#[hb,q]
def Inv.pinned(I:Inv X pins σ H s)(hf:∀b∈fp,FpOk X pins H b)(ho:∀b∈fp,∃o,s.heap.get? b=be o/\∀v,o.data≠.cell v):Inv X (pins++gJ fp s.heap) σ H s:=
 I.pins_of λp hp=>(Hi.mp hp).elim (λz=>I.pin p (Ha _ z)) λz=>by
  obtain⟨hb,e⟩:=wR z;obtain⟨f0,f1,f2,_⟩:=hf p.1 hb;obtain⟨o,e',d⟩:=ho p.1 hb;rw[e]at e';cases e';exact#[e,f0,f1,f2,d]
def Inv.unpinned{pl:List (KF×TL)}(I:Inv X (pins++pl) σ H s):Inv X pins σ H s:=I.pins_of λp hp=>I.pin p (Ha _ (HV _ hp))
def cV{iter:Tn}{body:List SL}{wi:TI}{g:TG}{tb:TS}(hp:TX (SB X.prog X.w) X.A X.env X.xe)(hc:X.calm=true)(hi:PI X tg iter wi)(hg:PG X tg g)(hb:PSs X body tb)
  (hs:∀x,Vt iter X.env x=pure x:=by intro _;rfl):PS X (.For tg iter body [] pos) (tFor wi g tb):=by
 intro pins s σ H D I h;refine wpAny_For (thn (hi pins s σ H _ I h) λv s1 h1=>thn h1 λNb s2 h2=>?_) hs;obtain⟨it,fp,tn,J,H2,e,I2,T,q8,f2,W,⟨m0,w0⟩,c7⟩:=h2;subst e;have n6:∀{H':Hp},(∀b∈fp,H' b=t9)->∀b∈fp,FpOk X pins H' b:=λhn b hb=>#[hn b hb,(f2 b hb).2];refine codeAny_forLoop_any (λn s'=>∃i σ' H',Inv X pins σ' H' s'/\tn i s'.heap/\(∀b∈fp,H' b=t9)/\W i n σ' H') ?_ m0 #[0,σ,H2,I2,q8,λb hb=>(f2 b hb).1,w0];rintro n s3⟨i,σ3,H3,I3,A',P6,w3⟩;rcases c7 i n σ3 H3 w3 with⟨stop,qn⟩|⟨go,N,hN,step⟩
 .refine TY hp (thn (T.done X rfl rfl rfl hc i pins s3 σ3 H3 X.xe I3 (n6 P6) A' stop) λr s4 b9=>?_);obtain⟨hr,I4⟩:=b9;subst hr;exact Ui #[σ3,H3,I4,qn]
 .refine TY hp (thn (T.item X rfl rfl rfl hc i pins s3 σ3 H3 X.xe I3 (n6 P6) A' go) λr s4 b9=>?_);obtain⟨u,hr,h4⟩:=b9;subst hr;refine TY hp (thn h4 λ_ s5 b9=>?_);obtain⟨x,H5,I5,r5,y5,G',NN⟩:=b9;have Q0:=I5.pinned (n6 NN) (T.obj _ _ G');refine TY hp (thn (hg _ s5 σ3 H5 x u _ Q0 r5 (step x H5 y5)) λ_ s6 b9=>?_);obtain⟨σ6,H6,I6,q6⟩:=b9;refine TY hp (thn (hb _ s6 σ6 H6 _ I6 q6) λf s7 q7=>?_);have again:∀{σ7:St} {H7:Hp},Inv X (pins++gJ fp s5.heap) σ7 H7 s7->N σ7 H7->∃m,m<n/\∃i σ' H',Inv X pins σ' H' s7/\tn i s7.heap/\(∀b∈fp,H' b=t9)/\W i m σ' H':=λ{σ7 H7} I7 n7=>by
   obtain⟨m',hm,w7⟩:=hN σ7 H7 n7;refine#[m',hm,i+1,σ7,H7,I7.unpinned,T.keep _ _ _ G' λb hb o e=>(I7.pin (b,o) (Ha _ (Ha _ (dY hb e)))).1,λb hb=>?_,w7];obtain⟨o,e,d⟩:=T.obj _ _ G' b hb;exact(I7.pin (b,o) (Ha _ (Ha _ (dY hb e)))).2.1
  cases f with
  |next=>obtain⟨σ7,H7,I7,n7⟩:=q7;exact again I7 n7
  |cont=>obtain⟨σ7,H7,I7,n7⟩:=q7;exact again I7 n7
  |brk=>obtain⟨σ7,H7,I7,q7⟩:=q7;exact#[σ7,H7,I7.unpinned,q7]
  |ret v=>obtain⟨x7,σ7,H7,I7,r7,q7⟩:=q7;exact#[x7,σ7,H7,I7.unpinned,r7,q7]
end
def qE{g:TG}{tb:TS}{D:Ends}(Pv:Nat->St->Hp->Prop)(h0:Pv 0 σ H)(hl:∀i σ H,i<=xs.length->Pv i σ H->SqL K H a xs)
  (hs:∀i x σ H,xs[i]?=be x->Pv i σ H->g x σ H λσ2 H2=>tb {D with nx:=Pv (i+1),ct:=Pv (i+1),bk:=D.nx} σ2 H2) (hd:∀σ H,Pv xs.length σ H->D.nx σ H):
  ∃W:Nat->Nat->St->Hp->Prop,(∃m,W 0 m σ H)/\∀i m σ H,W i m σ H->
   ((Itl K a).stop i H/\D.nx σ H)\/((Itl K a).go i H/\∃N:St->Hp->Prop,(∀σ' H',N σ' H'->∃m',m'<m/\W (i+1) m' σ' H')/\∀x H',(Itl K a).yld i H x H'->g x σ H' λσ2 H2=>tb {D with nx:=N,ct:=N,bk:=D.nx} σ2 H2):=by
 refine#[λi m σ H=>m=xs.length-i/\i<=xs.length/\Pv i σ H,#[xs.length,K',Hb _,h0],?_];rintro i m σ H ⟨rfl,hi,p⟩;have q:=hl i σ H hi p;by_cases f9:i<xs.length
 .refine .inr #[#[xs,xs[i],q,by simp[f9]],Pv (i+1),λσ' H' p'=>#[xs.length-(i+1),KK,rfl,f9,p'],λx H' y=>?_];obtain⟨e,y⟩:=y;subst e;exact hs i x σ _ (y xs q) p
 .have e:i=xs.length:=by lia
  subst e;exact .inl #[#[xs,q,GN _],hd σ H p]
def jO{lo:Int}{n:Nat}{g:TG}{tb:TS}{D:Ends}(Pv:Nat->St->Hp->Prop)(h0:Pv 0 σ H)
  (hs:∀i σ H,i<n->Pv i σ H->g (.int (lo+i)) σ H λσ2 H2=>tb {D with nx:=Pv (i+1),ct:=Pv (i+1),bk:=D.nx} σ2 H2) (hd:∀σ H,Pv n σ H->D.nx σ H):
  ∃W:Nat->Nat->St->Hp->Prop,(∃m,W 0 m σ H)/\∀i m σ H,W i m σ H->
   ((Itr lo n).stop i H/\D.nx σ H)\/((Itr lo n).go i H/\∃N:St->Hp->Prop,(∀σ' H',N σ' H'->∃m',m'<m/\W (i+1) m' σ' H')/\∀x H',(Itr lo n).yld i H x H'->g x σ H' λσ2 H2=>tb {D with nx:=N,ct:=N,bk:=D.nx} σ2 H2):=by
 refine#[λi m σ H=>m=n-i/\i<=n/\Pv i σ H,#[n,K',Hb _,h0],?_];rintro i m σ H ⟨rfl,hi,p⟩;by_cases f9:i<n
 .refine .inr #[f9,Pv (i+1),λσ' H' p'=>#[n-(i+1),KK,rfl,f9,p'],λx H' y=>?_];obtain⟨e,y⟩:=y;subst e y;exact hs i σ _ f9 p
 .have e:i=n:=by lia
  subst e;exact .inl #[GN _,hd σ H p]
abbrev R2:=V->V->Hp->VK->Prop
def OpR(X:Cx)(f:KB->KB->U9 KB)(r:R2):Prop:=
 ∀(pins:List (KF×TL)) (s:Os) (σ:St) (H:Hp) (x y:V) (v u:KB) (Q:VK),Inv X pins σ H s->RelV x v->RelV y u->r x y H Q->
  To (SB X.prog X.w) X.A (f v u) (EP X pins σ Q) X.xe s
def UnR(X:Cx)(f:KB->U9 KB)(r:V->Hp->VK->Prop):Prop:=
 ∀(pins:List (KF×TL)) (s:Os) (σ:St) (H:Hp) (x:V) (v:KB) (Q:VK),Inv X pins σ H s->RelV x v->r x H Q->
  To (SB X.prog X.w) X.A (f v) (EP X pins σ Q) X.xe s
def bM(X:Cx)(f:KB)(r:List V->Hp->VK->Prop):Prop:=
 ∀(pins:List (KF×TL)) (s:Os) (σ:St) (H:Hp) (xs:List V) (us:List KB) (Q:VK),Inv X pins σ H s->Vals xs us->r xs H Q->
  To (SB X.prog X.w) X.A (call f us) (EP X pins σ Q) X.xe s
def TruR(X:Cx)(r:V->Hp->(Bool->Hp->Prop)->Prop):Prop:=
 ∀(pins:List (KF×TL)) (s:Os) (σ:St) (H:Hp) (x:V) (v:KB) (Q:Bool->Hp->Prop),Inv X pins σ H s->RelV x v->r x H Q->
  To (SB X.prog X.w) X.A (truthy v) (TP X pins σ Q) X.xe s
def tOp(r:R2)(ta tb:TE):TE:=λσ H Q=>ta σ H λx H1=>tb σ H1 λy H2=>r x y H2 Q
def tUn(r:V->Hp->VK->Prop)(ta:TE):TE:=λσ H Q=>ta σ H λx H1=>r x H1 Q
def rI(C:Int->Int->Prop)(g:Int->Int->V):R2:=λx y H Q=>∃i j,x=.int i/\y=.int j/\C i j/\Q (g i j) H
def rI0(g:Int->Int->V):R2:=λx y H Q=>∃i j,x=.int i/\y=.int j/\Q (g i j) H
def rU(g:Int->V):V->Hp->VK->Prop:=λx H Q=>∃i,x=.int i/\Q (g i) H
section
variable {X:Cx}{a b c:Tn}{ta tb tc:TE}{pos:Tw}
variable{f:KB->KB->U9 KB}
def binT(ha:PE X a ta)(hb:PE X b tb){pins:List (KF×TL)}{s:Os}{σ:St}{H:Hp}{R:V->V->Hp->Prop}(I:Inv X pins σ H s)
  (h:ta σ H λx H1=>tb σ H1 λy H2=>R x y H2) {Q:KB->Os->Prop} 
  (hf:∀v u s2 x y H2,Inv X pins σ H2 s2->RelV x v->RelV y u->R x y H2->To (SB X.prog X.w) X.A (f v u) Q X.xe s2):
  To (SB X.prog X.w) X.A (Tv a X.env) (λv s₁=>To (SB X.prog X.w) X.A (Tv b X.env) (λu s₂=>To (SB X.prog X.w) X.A (f v u) Q X.xe s₂) X.xe s₁) X.xe s:=by
 refine thn (ha pins s σ H _ I h) λv s1 b9=>?_;obtain⟨x,H1,I1,r1,q1⟩:=b9;refine thn (hb pins s1 σ H1 _ I1 q1) λu s2 b9=>?_;obtain⟨y,H2,I2,r2,q2⟩:=b9;exact hf v u s2 x y H2 I2 r1 r2 q2
def jP{op:UV}{r:R2}(ho:OpR X (TV op) r)(ha:PE X a ta)(hb:PE X b tb):PE X (.BinOp a op b pos) (tOp r ta tb):=by
 intro pins s σ H Q I h;exact wpAny_BinOp (binT ha hb I h λv u s2 x y H2 I2 rx ry q=>ho pins s2 σ H2 x y v u Q I2 rx ry q)
def wS{op:UnaryOp}{r:V->Hp->VK->Prop}(ho:UnR X (unaryOp op) r)(ha:PE X a ta):PE X (.UnaryOp op a pos) (tUn r ta):=by
 intro pins s σ H Q I h;exact UnaryOp_ (thn (ha pins s σ H _ I h) λv s1 ⟨x,H1,I1,r1,q1⟩=>ho pins s1 σ H1 x v Q I1 r1 q1)
variable{g:Int->Int->Int}
def opI{C:Int->Int->Prop}
  (rule:∀(i j:Int) (t u:Vv) (s:Os) (Q:KB->Os->Prop) (E:KB->Os->Prop),C i j->Q (.int (g i j) s.toks) {s with toks:=s.toks+1}->To (SB X.prog X.w) X.A (f (.int i t) (.int j u)) Q E s):
  OpR X f (rI C λi j=>.int (g i j)):=by
 intro pins s σ H x y v u Q I rx ry h;obtain⟨i,j,rfl,rfl,hc,q⟩:=h;obtain⟨t,rfl⟩:=rx;obtain⟨t',rfl⟩:=ry;exact rule i j t t' s _ _ hc #[.int (g i j),H,I.tok _,#[_,rfl],q]
def opI0
  (rule:∀(i j:Int) (t u:Vv) (s:Os) (Q:KB->Os->Prop) (E:KB->Os->Prop),Q (.int (g i j) s.toks) {s with toks:=s.toks+1}->To (SB X.prog X.w) X.A (f (.int i t) (.int j u)) Q E s):
  OpR X f (rI0 λi j=>.int (g i j)):=by
 intro pins s σ H x y v u Q I rx ry h;obtain⟨i,j,rfl,rfl,q⟩:=h;obtain⟨t,rfl⟩:=rx;obtain⟨t',rfl⟩:=ry;exact rule i j t t' s _ _ #[.int (g i j),H,I.tok _,#[_,rfl],q]
def opB0{g:Int->Int->Bool}
  (rule:∀(i j:Int) (t u:Vv) (s:Os) (Q:KB->Os->Prop) (E:KB->Os->Prop),Q (.bool (g i j)) s->To (SB X.prog X.w) X.A (f (.int i t) (.int j u)) Q E s):
  OpR X f (rI0 λi j=>.bl (g i j)):=by
 intro pins s σ H x y v u Q I rx ry h;obtain⟨i,j,rfl,rfl,q⟩:=h;obtain⟨t,rfl⟩:=rx;obtain⟨t',rfl⟩:=ry;exact rule i j t t' s _ _ #[.bl (g i j),H,I,rfl,q]
def CDiv(i j:Int):Prop:=0<j/\j<1073741824
def CMul(i j:Int):Prop:=(-(2^64)<i/\i<2^64)\/(-(2^64)<j/\j<2^64)
def CMul.ok{i j:Int}(h:CMul i j):IntMulOk i j:=by
 rcases h with⟨h1,h2⟩|⟨h1,h2⟩
 .exact .of_left (intBits_le_64 h1 h2)
 .exact .of_right (intBits_le_64 h1 h2)
def wT:OpR X (TV .Add) (rI0 λi j=>.int (i+j)):=opI0 λ_ _ _ _ _ _ _ q=>add_int q
def qF:OpR X (TV .Sub) (rI0 λi j=>.int (i-j)):=opI0 λ_ _ _ _ _ _ _ q=>sub_int q
def wU:OpR X (TV .Mult) (rI CMul λi j=>.int (i*j)):=opI λ_ _ _ _ _ _ _ hc q=>mul_int q hc.ok
def wV:OpR X (TV .FloorDiv) (rI CDiv λi j=>.int (i/j)):=opI λi j _ _ _ _ _ hc q=>by
 have h1:(0:Int)<j:=hc.1;have h2:j<1073741824:=hc.2;exact floordiv_int KK (by rw[Int.fdiv_eq_ediv_of_nonneg i KK];exact q) (.inl (PyProof.noPylong_small KK))
def wW:OpR X (TV .Mod) (rI (λ_ j=>0<j) λi j=>.int (i%j)):=opI λi j _ _ _ _ _ hc q=>by
 have h1:(0:Int)<j:=hc;exact mod_int' KK (by rw[Int.fmod_eq_emod_of_nonneg i KK];exact q)
def wX:OpR X (TV .Mod) (rI (λ_ j=>j≠0) λi j=>.int (i.fmod j)):=opI λ_ _ _ _ _ _ _ hc q=>mod_int' hc q
def unI{f:KB->U9 KB}{g:Int->Int}
  (rule:∀(i:Int) (t:Vv) (s:Os) (Q:KB->Os->Prop) (E:KB->Os->Prop),Q (.int (g i) s.toks) {s with toks:=s.toks+1}->To (SB X.prog X.w) X.A (f (.int i t)) Q E s):
  UnR X f (rU λi=>.int (g i)):=by
 intro pins s σ H x v Q I rx h;obtain⟨i,rfl,q⟩:=h;obtain⟨t,rfl⟩:=rx;exact rule i t s _ _ #[.int (g i),H,I.tok _,#[_,rfl],q]
def wY:UnR X (unaryOp .USub) (rU λi=>.int (-i)):=unI λ_ _ _ _ _ q=>neg_int q
end
def scal:V->V->Bool
 |.non,.non=>true|.non,.int _=>true|.int _,.non=>true|.non,.bl _=>true|.bl _,.non=>true|.non,.str _=>true|.str _,.non=>true
 |.int _,.int _=>true|.bl _,.bl _=>true|.str _,.str _=>true|.byt _,.byt _=>true
 |.int _,.str _=>true|.str _,.int _=>true|.bl _,.str _=>true|.str _,.bl _=>true
 |_,_=>false
def rEq:R2:=λx y H Q=>scal x y=true/\Q (.bl (decide (x=y))) H
def rNe:R2:=λx y H Q=>scal x y=true/\Q (.bl (!decide (x=y))) H
def qG{i j:Int}:decide (V.int i=V.int j)=(i==j):=by
 rw[Iz];simp
def qH{i j:Bool}:decide (V.bl i=V.bl j)=(i==j):=by
 rw[Iz];simp
def qI{i j:F_}:decide (V.str i=V.str j)=(i==j):=by
 rw[Iz];simp
def qJ{i j:Array UInt8}:decide (V.byt i=V.byt j)=(i.toList==j.toList):=by
 rw[Iz];cases i;cases j;simp
section
variable {X:Cx}{a b c:Tn}{ta tb tc:TE}{pos:Tw}
def aQ{pins:List (KF×TL)}{σ:St}{H:Hp}{s:Os}{Q:VK}{k k':Bool}(I:Inv X pins σ H s)(q:Q (.bl k) H)(e:k=k'):EP X pins σ Q (.bool k') s:=by
 subst e;exact#[.bl k,H,I,rfl,q]
def jQ:OpR X (TK .Eq) rEq:=by
 intro pins s σ H x y v u Q I rx ry h;obtain⟨hs,q⟩:=h;cases x with
 |non=>
  cases rx;cases y with
  |non=>cases ry;exact PySem.EqNone.eq_none_none (aQ I q K')
  |bl j=>cases ry;exact PySem.EqNone.eq_none_bool (aQ I q K')
  |int j=>obtain⟨t',rfl⟩:=ry;exact PySem.EqNone.eq_none_int (aQ I q K')
  |str j=>obtain⟨t',rfl⟩:=ry;exact PySem.EqNone.eq_none_str (aQ I q K')
  |_=>exact absurd (show false=true from hs) G1
 |bl i=>
  cases rx;cases y with
  |non=>cases ry;exact PySem.EqNone.eq_bool_none (aQ I q K')
  |bl j=>cases ry;exact eq_bool (aQ I q qH)
  |str j=>obtain⟨t',rfl⟩:=ry;exact PySem.EqMixed.eq_bool_str (aQ I q K')
  |_=>exact absurd (show false=true from hs) G1
 |int i=>
  obtain⟨t,rfl⟩:=rx;cases y with
  |non=>cases ry;exact PySem.EqNone.eq_int_none (aQ I q K')
  |int j=>obtain⟨t',rfl⟩:=ry;exact eq_int (aQ I q qG)
  |str j=>obtain⟨t',rfl⟩:=ry;exact PySem.EqMixed.eq_int_str (aQ I q K')
  |_=>exact absurd (show false=true from hs) G1
 |str i=>
  obtain⟨t,rfl⟩:=rx;cases y with
  |non=>cases ry;exact PySem.EqNone.eq_str_none (aQ I q K')
  |bl j=>cases ry;exact PySem.EqMixed.eq_str_bool (aQ I q K')
  |int j=>obtain⟨t',rfl⟩:=ry;exact PySem.EqMixed.eq_str_int (aQ I q K')
  |str j=>obtain⟨t',rfl⟩:=ry;exact eq_str (aQ I q qI)
  |_=>exact absurd (show false=true from hs) G1
 |byt i=>
  obtain⟨t,rfl⟩:=rx;cases y with
  |byt j=>obtain⟨t',rfl⟩:=ry;exact eq_bytes (aQ I q qJ)
  |_=>exact absurd (show false=true from hs) G1
 |_=>cases y<;>exact absurd (show false=true from hs) G1
def qK:OpR X (TK .NotEq) rNe:=by
 intro pins s σ H x y v u Q I rx ry h;obtain⟨hs,q⟩:=h;cases x with
 |non=>
  cases rx;cases y with
  |non=>cases ry;exact PySem.EqNone.ne_none_none (aQ I q K')
  |bl j=>cases ry;exact PySem.EqNone.ne_none_bool (aQ I q K')
  |int j=>obtain⟨t',rfl⟩:=ry;exact PySem.EqNone.ne_none_int (aQ I q K')
  |str j=>obtain⟨t',rfl⟩:=ry;exact PySem.EqNone.ne_none_str (aQ I q K')
  |_=>exact absurd (show false=true from hs) G1
 |bl i=>
  cases rx;cases y with
  |non=>cases ry;exact PySem.EqNone.ne_bool_none (aQ I q K')
  |bl j=>cases ry;exact ne_bool (aQ I q (congrArg not qH))
  |str j=>obtain⟨t',rfl⟩:=ry;exact PySem.EqMixed.ne_bool_str (aQ I q K')
  |_=>exact absurd (show false=true from hs) G1
 |int i=>
  obtain⟨t,rfl⟩:=rx;cases y with
  |non=>cases ry;exact PySem.EqNone.ne_int_none (aQ I q K')
  |int j=>obtain⟨t',rfl⟩:=ry;exact ne_int (aQ I q (congrArg not qG))
  |str j=>obtain⟨t',rfl⟩:=ry;exact PySem.EqMixed.ne_int_str (aQ I q K')
  |_=>exact absurd (show false=true from hs) G1
 |str i=>
  obtain⟨t,rfl⟩:=rx;cases y with
  |non=>cases ry;exact PySem.EqNone.ne_str_none (aQ I q K')
  |bl j=>cases ry;exact PySem.EqMixed.ne_str_bool (aQ I q K')
  |int j=>obtain⟨t',rfl⟩:=ry;exact PySem.EqMixed.ne_str_int (aQ I q K')
  |str j=>obtain⟨t',rfl⟩:=ry;exact ne_str (aQ I q (congrArg not qI))
  |_=>exact absurd (show false=true from hs) G1
 |byt i=>
  obtain⟨t,rfl⟩:=rx;cases y with
  |byt j=>obtain⟨t',rfl⟩:=ry;exact ne_bytes (aQ I q (congrArg not qJ))
  |_=>exact absurd (show false=true from hs) G1
 |_=>cases y<;>exact absurd (show false=true from hs) G1
def qL:OpR X (TK .Lt) (rI0 λi j=>.bl (decide (i<j))):=opB0 λ_ _ _ _ _ _ _ q=>lt_int q
def wZ:OpR X (TK .LtE) (rI0 λi j=>.bl (decide (i<=j))):=opB0 λ_ _ _ _ _ _ _ q=>le_int q
def qM:OpR X (TK .Gt) (rI0 λi j=>.bl (decide (j<i))):=opB0 λ_ _ _ _ _ _ _ q=>gt_int q
def xa:OpR X (TK .GtE) (rI0 λi j=>.bl (decide (j<=i))):=opB0 λ_ _ _ _ _ _ _ q=>ge_int q
def jR:OpR X (TK .Is) (λx y H Q=>y=.non/\Q (.bl (decide (x=.non))) H):=by
 intro pins s σ H x y v u Q I rx ry h;obtain⟨rfl,q⟩:=h;cases ry;refine is_none_gen (aQ I q ?_);cases x<;>first
  |(cases rx;rfl)
  |(obtain⟨t,rfl⟩:=rx;rfl)
def xb:OpR X (TK .IsNot) (λx y H Q=>y=.non/\Q (.bl (!decide (x=.non))) H):=by
 intro pins s σ H x y v u Q I rx ry h;obtain⟨rfl,q⟩:=h;cases ry;refine isnot_none_gen (aQ I q ?_);cases x<;>first
  |(cases rx;rfl)
  |(obtain⟨t,rfl⟩:=rx;rfl)
variable{r:R2}
def OpR.or{f:KB->KB->U9 KB}{r':R2}(h:OpR X f r)(h':OpR X f r'):OpR X f (λx y H Q=>r x y H Q\/r' x y H Q):=by
 intro pins s σ H x y v u Q I rx ry q;rcases q with q|q
 .exact h pins s σ H x y v u Q I rx ry q
 .exact h' pins s σ H x y v u Q I rx ry q
variable{op:Vg}
def nomark(b:Tn)(h:autoParam (op≠.In) zA1)(h2:autoParam (op≠.NotIn) zA1):TU op b=false:=by
 have e1:(op==CmpOp.In)=false:=by cases op<;>first|rfl|exact absurd rfl h
 have e2:(op==CmpOp.NotIn)=false:=by cases op<;>first|rfl|exact absurd rfl h2
 cases b<;>simp[TU,e1,e2]
def qN(ho:OpR X (TK op) r)(ha:PE X a ta)(hb:PE X b tb)(hm:TU op b=false):PE X (.Compare a [op] [b] pos) (tOp r ta tb):=by
 intro pins s σ H Q I h;exact wpAny_Compare1 (binT ha hb I h λv u s2 x y H2 I2 rx ry q=>ho pins s2 σ H2 x y v u Q I2 rx ry q) hm
def xc(t:TE):TT:=λσ H Q=>t σ H λx H'=>∃k,x=.bl k/\Q k H'
def qO(ho:OpR X (TK op) r)(ha:PE X a ta)(hb:PE X b tb)(hm:TU op b=false):PT X (.Compare a [op] [b] pos) (xc (tOp r ta tb)):=by
 intro pins s σ H Q I h;refine wpAny_isTrue_Compare1 (thn (ha pins s σ H _ I h) λv s1 ⟨x,H1,I1,r1,q1⟩=>thn (hb pins s1 σ H1 _ I1 q1) λu s2 ⟨y,H2,I2,r2,q2⟩=>
  thn (ho pins s2 σ H2 x y v u _ I2 r1 r2 q2) λc s3 hh=>?_) hm
 obtain⟨z,H3,I3,r3,k,e,q3⟩:=hh;subst e;cases r3;exact Up #[H3,I3,q3]
def TruV(K:Ex)(x:V)(H:Hp)(k:Bool):Prop:=
 match x with
 |.non=>k=false
 |.bl b=>k=b
 |.int i=>k=(i !=0)
 |.str y=>y.length<=sizeLine/\k=((y.length:Int) !=0)
 |.byt y=>y.size<=sizeLine/\k=((y.size:Int) !=0)
 |.ref p=>(∃xs,SqL K H p xs/\k=!xs.isEmpty)\/(∃xs,SqT K H p xs/\k=!xs.isEmpty)\/∃a9,H p=be (.dK a9)/\k=!a9.isEmpty
 |_=>False
def xg{κ:Type}{a9:List (κ×V)}{vs:List (κ×KB)}(r:KV a9 vs):(!vs.isEmpty)=!a9.isEmpty:=by
 cases r<;>rfl
def isEmpty_of{xs:List V}{its:List KB}(r:Vals xs its):(!its.toArray.isEmpty)=!xs.isEmpty:=by
 cases r<;>simp
def line63:(sizeLine:Nat)<2^63:=by rw[Ur];decide
def xh:TruR X (λx H Q=>∃k,TruV X.K x H k/\Q k H):=by
 intro pins s σ H x v Q I rx h;obtain⟨k,e,q⟩:=h;have hl:=line63;have hs:sizeLine=16777216:=Ur;cases x with
 |non=>
  cases rx;have e':k=false:=e;subst e';exact truthy_none #[H,I,q]
 |bl b=>
  cases rx;have e':k=b:=e;subst e';exact Up #[H,I,q]
 |int i=>
  obtain⟨t,rfl⟩:=rx;have e':k=(i !=0):=e;subst e';exact PySem.P.truthy_int #[H,I,q]
 |str y=>
  obtain⟨t,rfl⟩:=rx;obtain⟨hy,e'⟩:y.length<=sizeLine/\k=((y.length:Int) !=0):=e;subst e';exact PySem.P.truthy_str KK #[H,I.tok _,q]
 |byt y=>
  obtain⟨t,rfl⟩:=rx;obtain⟨hy,e'⟩:y.size<=sizeLine/\k=((y.size:Int) !=0):=e;subst e';exact truthy_bytes KK #[H,I.tok _,q]
 |ref p=>
  cases rx;have e':(∃xs,SqL X.K H p xs/\k=!xs.isEmpty)\/(∃xs,SqT X.K H p xs/\k=!xs.isEmpty)\/∃a9,H p=be (.dK a9)/\k=!a9.isEmpty:=e;rcases e' with⟨xs,hx,e'⟩|⟨xs,hx,e'⟩|⟨a9,hx,e'⟩
  .subst e';obtain⟨its,r,pl,hz⟩:=I.list hx;have b7:=r.length;exact wpAny_truthy_list pl.isList (by simp only[GX];lia) #[H,I.tok _,by rw[isEmpty_of r];exact q]
  .subst e';obtain⟨its,r,pl,hz⟩:=I.tuple hx;have b7:=r.length;exact truthy_tuple pl (by simp only[GX];lia) #[H,I.tok _,by rw[isEmpty_of r];exact q]
  .subst e';obtain⟨hz,hS,vs,r,m⟩:a9.length<=sizeLine/\(p==TZ)=false/\∃vs,KV a9 vs/\s.heap.DictOf (bL X.prog X.w) p vs:=I.hok p _ hx;have b7:a9.length=vs.length:=Paired.length r;exact wpAny_truthy_dict hS m KK #[H,I.tok _,by rw[xg r];exact q]
 |_=>exact(show False from e).elim
def qP(ha:PE X a ta)(he:∀f7,isTrue a X.env f7=(do let v <-f7;Ul a.pos;T1 [v] (truthy v))):
  PT X a (λσ H Q=>ta σ H λx H'=>∃k,TruV X.K x H' k/\Q k H'):=by
 intro pins s σ H Q I h;exact isTrue_plain (thn (ha pins s σ H _ I h) λv s1 ⟨x,H1,I1,r1,q1⟩=>xh pins s1 σ H1 x v Q I1 r1 q1) (he _)
def xi:OpR X (TV .Add) (λx y H Q=>∃i j,x=.str i/\y=.str j/\i.length+j.length<=sizeLine/\Q (.str (i++j)) H):=by
 intro pins s σ H x y v u Q I rx ry h;obtain⟨i,j,rfl,rfl,hz,q⟩:=h;obtain⟨t,rfl⟩:=rx;obtain⟨t',rfl⟩:=ry;exact add_str (λt' tk=>#[.str (i++j),H,I.tok _,#[_,rfl],q]) hz
variable{us:List KB}
def cb{x:V}(r:Vals [x] us):∃u,us=[u]/\RelV x u:=by
 cases r with
 |cons r1 r2=>cases r2;exact#[_,rfl,r1]
def fF{x y:V}(r:Vals [x,y] us):∃u w',us=[u,w']/\RelV x u/\RelV y w':=by
 cases r with
 |cons r1 r2=>
  cases r2 with
  |cons r3 r4=>cases r4;exact#[_,_,rfl,r1,r3]
def xj:bM X (.builtin "abs") (λxs H Q=>∃i,xs=[.int i]/\Q (.int (if i<0 then -i else i)) H):=by
 intro pins s σ H xs us Q I r h;obtain⟨i,rfl,q⟩:=h;obtain⟨u,rfl,t,rfl⟩:=cb r;exact call_abs_int λu tk=>#[.int (if i<0 then -i else i),H,I.tok _,#[_,rfl],q]
def xk(hc:X.calm=true):bM X (.builtin "max") (λxs H Q=>∃i j,xs=[.int i,.int j]/\Q (.int (if j>i then j else i)) H):=by
 intro pins s σ H xs us Q I r h;obtain⟨i,j,rfl,q⟩:=h;obtain⟨u,w',rfl,⟨t,rfl⟩,⟨t',rfl⟩⟩:=fF r;refine max_two_ints (I.ok.hd hc) λh' tk k=>#[_,H,I.kept k,?_,q];by_cases hj:j>i
 .rw[if_pos hj,if_pos hj];exact#[_,rfl]
 .rw[if_neg hj,if_neg hj];exact#[_,rfl]
def xm(hc:X.calm=true):bM X (.builtin "min") (λxs H Q=>∃i j,xs=[.int i,.int j]/\Q (.int (if j<i then j else i)) H):=by
 intro pins s σ H xs us Q I r h;obtain⟨i,j,rfl,q⟩:=h;obtain⟨u,w',rfl,⟨t,rfl⟩,⟨t',rfl⟩⟩:=fF r;refine min_two_ints (I.ok.hd hc) λh' tk k=>#[_,H,I.kept k,?_,q];by_cases hj:j<i
 .rw[if_pos hj,if_pos hj];exact#[_,rfl]
 .rw[if_neg hj,if_neg hj];exact#[_,rfl]
def xn:bM X (.type "int") (λxs H Q=>(∃i,xs=[.int i]/\Q (.int i) H)\/∃k,xs=[.bl k]/\Q (.int (if k then 1 else 0)) H):=by
 intro pins s σ H xs us Q I r h;rcases h with⟨i,rfl,q⟩|⟨k,rfl,q⟩
 .obtain⟨u,rfl,t,rfl⟩:=cb r;exact call_int_int #[.int i,H,I,#[_,rfl],q]
 .obtain⟨u,rfl,r1⟩:=cb r;cases r1;exact call_int_bool #[.int (if k then 1 else 0),H,I.tok _,#[_,rfl],q]
def xo:bM X (.type "str") (λxs H Q=>∃i,xs=[.int i]/\i.natAbs.log2<1920/\Q (.str (toString i)) H):=by
 intro pins s σ H xs us Q I r h;obtain⟨i,rfl,hz,q⟩:=h;obtain⟨u,rfl,t,rfl⟩:=cb r;exact PySem.P.str_of_int hz #[.str _,H,I.tok _,#[_,rfl],q]
def LenV(K:Ex)(x:V)(H:Hp)(n:Nat):Prop:=
 match x with
 |.str y=>y.length<=sizeLine/\n=y.length
 |.byt y=>y.size<=sizeLine/\n=y.size
 |.ref p=>(∃xs,SqL K H p xs/\n=xs.length)\/∃xs,SqT K H p xs/\n=xs.length
 |_=>False
def jS:bM X (.builtin "len") (λxs H Q=>∃x n,xs=[x]/\LenV X.K x H n/\Q (.int n) H):=by
 intro pins s σ H xs us Q I r h;obtain⟨x,n,rfl,e,q⟩:=h;obtain⟨u,rfl,rx⟩:=cb r;have hl:=line63;have hs:sizeLine=16777216:=Ur;cases x with
 |str y=>
  obtain⟨t,rfl⟩:=rx;obtain⟨hy,e'⟩:y.length<=sizeLine/\n=y.length:=e;subst e';exact len_str KK #[.int _,H,I.tok _,#[_,rfl],q]
 |byt y=>
  obtain⟨t,rfl⟩:=rx;obtain⟨hy,e'⟩:y.size<=sizeLine/\n=y.size:=e;subst e';exact len_bytes KK #[.int _,H,I.tok _,#[_,rfl],q]
 |ref p=>
  cases rx;have e':(∃xs,SqL X.K H p xs/\n=xs.length)\/∃xs,SqT X.K H p xs/\n=xs.length:=e;rcases e' with⟨xs,hx,e'⟩|⟨xs,hx,e'⟩
  .subst e';obtain⟨its,r',pl,hz⟩:=I.list hx;have b7:=r'.length;exact Calls.call_len_list pl.isList (by simp only[GX];lia) #[.int xs.length,H,I.tok _,#[_,by simp only[GX];rw[b7]],q]
  .subst e';obtain⟨its,r',pl,hz⟩:=I.tuple hx;have b7:=r'.length;exact len_tuple pl (by simp only[GX];lia) #[.int xs.length,H,I.tok _,#[_,by simp only[GX];rw[b7]],q]
 |_=>exact(show False from e).elim
end
structure ObjM(h:Heap)(x dx C:KF)(mA:Str->Option KB):Prop where
 obj:h.get? x=be (instObj C dx)
 ns:h.Ns1 dx mA
 ne:dx≠x
variable{mA:F_->Option KB}
def qQ{dx:KF}(n:h.Ns1 dx mA):∃od,h.get? dx=be od/\∀name,lookIn name od=be (mA name):=by
 obtain⟨o,es,ep,ho,hd,hk,_,hm⟩:=n;refine#[o,ho,λname=>?_];have e:=hm name;unfold nsFind findBy at e;rw[<-Array.find?_toList]at e;unfold lookIn;rw[hd];dsimp only;split
 .rename_i y q;rw[q]at e;exact congrArg be e
 .rename_i q;rw[q]at e;have a:es.toList.any (·.refKey)=false:=by
   rw[List.any_eq_false];intro y hy;obtain⟨z,t,n8⟩:=hk y (Array.mem_toList_iff.mp hy);simp[DictEntry.refKey,n8]
  have a':¬es.toList.any (·.refKey)=true:=by rw[a];exact G1
  rw[if_neg a'];exact congrArg be e
variable{C:KF}
def ObjM.look{x dx:KF}(I:ObjM h x dx C mA):∃od,PySem.W.InstAt h x (instObj C dx) C (be od)/\∀name,lookIn name od=be (mA name):=
 let ⟨od,ho,hl⟩:=qQ I.ns
 #[od,#[I.obj,rfl,rfl,ho],hl]
section
variable {prog:SZ}{w:Tp}{A:Tq}{E:KB->Os->Prop}{s:Os}{K:Ex}{x dx C f:KF}{mA:F_->Option KB}{name:F_}{v:KB}
def xp{v9:Bool}{Q:KB->Os->Prop}(X:K.In s.heap)(I:ObjM s.heap x dx C mA)(hg:plainGet K C name=true)(hh:hasDictIn K C=true)
  (ha:GR K (.ref C) name=be t9) (hv:mA name=be v) (Q1:Ju v=true) (h:Q v {s with toks:=s.toks+1}):
  To (SB prog w) A (U6 (.ref x) name v9) Q E s:=by
 obtain⟨od,J,hl⟩:=I.look;exact get_value X J (plainGet_of hg).1 (findObj_own hh ha rfl (by rw[hl,hv])) Q1 h
def xq{pl:U9 Bool}{Q:KB×List KB->Os->Prop}(X:K.In s.heap)(I:ObjM s.heap x dx C mA)(hg:plainGet K C name=true)
  (hf:GR K (.ref C) name=be (be (.ref f))) (ht:isFn K (.ref f)=true) (hv:mA name=t9) (h:Q (.ref f,[.ref x]) s):
  To (SB prog w) A (UB (.ref x) name pl) Q E s:=by
 obtain⟨od,J,hl⟩:=I.look;exact method_fn X J (plainGet_of hg).1 (plainGet_of hg).2 hf (beq_iff_eq.mp ht) (by show(lookIn name od).map (·.isSome)=be false;rw[hl,hv];rfl) h
def xr{ns:List F_}{Q:Unit->Os->Prop}(X:K.In s.heap)(I:ObjM s.heap x dx C mA)
  (hs:GR K (.ref C) "__setattr__"=be (be (.builtin "object.__setattr__"))) (hp:plainOver K C=true) (ht:takerIn K C name=be t9) (hh:hasDictIn K C=true)
  (hw:PySem.Within mA ns) (j6:ns.length<=sizeLine)
  (h:∀h',ObjM h' x dx C (λy=>if y=name then be v else mA y)->Heap.SameBut dx s.heap h'->Q () {s with heap:=h',toks:=s.toks+2}):
  To (SB prog w) A (Vq (.ref x) name v) Q E s:=by
 obtain⟨od,J,hl⟩:=I.look;refine PySem.W.set_plain X J hs (osa_open (s:={s with toks:=s.toks+1}) (r:=t9) X J hp ht λb=>?_);obtain⟨cd,hc,e_⟩:=any_some hh;have hx:s.heap.get? x=be #[.ref C,be dx,.plain,[].toArray]:=I.obj;refine KM (P3 (KM (KM (UQ hx (KM (PySem.W.Looks.here (s:={s with toks:=s.toks+1}) (PySem.W.looks_clsIn X hc) ?_))))));rw[e_];refine P3 (a:=be dx) (KM (P3 (KM ?_)));refine U1 (s:={s with toks:=s.toks+1}) I.ns λh' K4 n4=>?_;obtain⟨oD,P7,P8,L4,L5,L6⟩:=K4.count (PySem.Within.cons name v hw);refine KM (UI L4 (by rw[L5];exact UK (GW L6 (by rw[GU];lia))) ?_);exact P3 (h _ #[(n4.2 _ (Ne.symm I.ne)).trans I.obj,K4,I.ne] n4)
def xt{R:Result->Os->Prop}{vs:List KB}{kw:List (F_×KB)}(X:K.In s.heap)(hm:makesIn K C=true)
  (hi:GR K (.ref C) "__init__"=be (be (.ref f))) (hf:PySem.W.typeIn K (.ref f)=be (.type "function"))
  (h:UC (SB prog w) (A.under (.builtin "type.__call__" #[.ref C::vs,kw])) (.call (.ref f) #[.ref (s.heap.objs.size+1)::vs,kw]) (InitBack (s.heap.objs.size+1) R)
   {s with heap:=(s.heap.push emptyDict).push (instObj C s.heap.objs.size)}):
  UC (SB prog w) A (.call (.ref C) #[vs,kw]) R s:=by
 obtain⟨hh,g,d,t,os⟩:=s;exact make_core (makes_of X hm) (PySem.W.looks_findIn X hi) (λself=>PySem.W.bind_fn X self hf) (.inl rfl) h
end
def putF(f:F_)(v:V):List (F_×V)->List (F_×V)
 |[]=>[(f,v)]
 |(g,x)::r=>if g=f then(g,v)::r else(g,x)::putF f v r
def qR(f g:F_)(v:V):∀fs:List (F_×V),(putF f v fs).lookup g=if g=f then be v else fs.lookup g
 |[]=>by
  show HJ g [(f,v)]=_;by_cases h:g=f
  .have hb:(g==f)=true:=beq_iff_eq.mpr h;simp only[HJ,hb,if_pos h]
  .have hb:(g==f)=false:=beq_eq_false_iff_ne.mpr h;simp only[HJ,hb,if_neg h]
 |(k,x)::r=>by
  have ih:=qR f g v r;rw[show putF f v ((k,x)::r)=(if k=f then(k,v)::r else(k,x)::putF f v r)from rfl];by_cases hk:k=f
  .rw[if_pos hk];by_cases h:g=k
   .have hb:(g==k)=true:=beq_iff_eq.mpr h;simp only[HJ,hb,if_pos (h.trans hk)]
   .have hb:(g==k)=false:=beq_eq_false_iff_ne.mpr h;simp only[HJ,hb,if_neg (λe:g=f=>h (e.trans hk.symm))]
  .rw[if_neg hk];by_cases h:g=k
   .have hb:(g==k)=true:=beq_iff_eq.mpr h;simp only[HJ,hb,if_neg (λe:g=f=>hk (h.symm.trans e))]
   .have hb:(g==k)=false:=beq_eq_false_iff_ne.mpr h;simp only[HJ,hb];exact ih
def jT(f:F_)(v:V):∀fs:List (F_×V),f∈(putF f v fs).map (·.1)/\∀g,g∈fs.map (·.1)->g∈(putF f v fs).map (·.1)
 |[]=>#[by simp[putF],λg h=>by simp at h]
 |(k,x)::r=>by
  obtain⟨i1,i2⟩:=jT f v r;rw[show putF f v ((k,x)::r)=(if k=f then(k,v)::r else(k,x)::putF f v r)from rfl];by_cases hk:k=f
  .rw[if_pos hk];subst hk;exact#[K',λg h=>by simpa using h]
  .rw[if_neg hk];refine#[?_,λg h=>?_]
   .rw[G7];exact GQ _ i1
   .rw[G7]at h ⊢;rcases GP.mp h with e|e
    .exact GP.mpr (.inl e)
    .exact GQ _ (i2 g e)
def qS(f:F_)(v:V):∀fs:List (F_×V),(putF f v fs).length<=fs.length+1
 |[]=>by simp[putF]
 |(k,x)::r=>by
  have ih:=qS f v r;rw[show putF f v ((k,x)::r)=(if k=f then(k,v)::r else(k,x)::putF f v r)from rfl];by_cases hk:k=f
  .rw[if_pos hk,GU,GU];lia
  .rw[if_neg hk,GU,GU];lia
def RelO.some_of{v:V}{o:Option KB}(r:RelO (be v) o):∃u,o=be u/\RelV v u:=by
 cases o with
 |none=>exact(show False from r).elim
 |some u=>exact#[u,rfl,r]
def RelO.none_of{o:Option KB}(r:RelO t9 o):o=none:=by
 cases o with
 |none=>rfl
 |some u=>exact(show False from r).elim
def qT{v:V}(r:RelV v u):Ju u=true:=by
 cases v with
 |non=>cases(show u=Value.none from r);rfl
 |bl b=>cases(show u=Value.bool b from r);rfl
 |int i=>obtain⟨t,e⟩:=(show ∃t,u=Value.int i t from r);cases e;rfl
 |str x=>obtain⟨t,e⟩:=(show ∃t,u=Value.str x t from r);cases e;rfl
 |byt b=>obtain⟨t,e⟩:=(show ∃t,u=Value.bytes b t from r);cases e;rfl
 |flt b=>obtain⟨t,e⟩:=(show ∃t,u=Value.float b t from r);cases e;rfl
 |ref a=>cases(show u=Value.ref a from r);rfl
 |ty n=>cases(show u=Value.type n from r);rfl
section
variable {P:SZ}{w:Tp}{H H':Hp}{h h':Heap}{a C dx:KF}{fs l6:List (F_×V)}
def gK(hok:HOk P w H h)(e:H a=be (.ins C dx fs)):∃mA,ObjM h a dx C mA/\(∀f,RelO (fs.lookup f) (mA f))/\PySem.Within mA (fs.map (·.1))/\fs.length<=1000/\H dx=be (.own a):=by
 obtain⟨d,z,ne,ob,mA,n,r,q⟩:=(show ObjOk P w H h a (.ins C dx fs)from hok a _ e);exact#[mA,#[ob,n,ne],r,q,z,d]
end
structure Cls(K:Ex)(C:KF):Prop where
 pg:plainGet K C Str.empty=true
 hd:hasDictIn K C=true
 po:plainOver K C=true
 sa:GR K (.ref C) "__setattr__"=be (be (.builtin "object.__setattr__"))
def Cls.get(c:Cls K C)(f:F_):plainGet K C f=true:=c.pg
def NoAttr(K:Ex)(C:KF)(f:F_):Prop:=GR K (.ref C) f=be t9
def NoAttr.taker{f:F_}(n:NoAttr K C f):takerIn K C f=be none:=by
 unfold takerIn;rw[show GR K (.ref C) f=be t9 from n];rfl
structure Meth(K:Ex)(C:KF)(m:Str)(f:KF):Prop where
 at_:GR K (.ref C) m=be (be (.ref f))
 fn:isFn K (.ref f)=true
 kp:keepIn K (.ref f)=true
section
variable {X:Cx}{pins:List (KF×TL)}{σ:St}{H:Hp}{s:Os}{a C dx:KF}{fs:List (F_×V)}{f:F_}{v:V}{A:Tq}{E:KB->Os->Prop}
variable{Q:KB->Os->Prop}
def xu{b:Bool}(I:Inv X pins σ H s)(e:H a=be (.ins C dx fs))(c:Cls X.K C)(n:NoAttr X.K C f)(l:fs.lookup f=be v)
  (h:∀u s',Inv X pins σ H s'->RelV v u->Q u s'):To (SB X.prog X.w) A (U6 (.ref a) f b) Q E s:=by
 obtain⟨mA,O,r,_,_,_⟩:=gK I.hok e;obtain⟨u,hu,ru⟩:=RelO.some_of (v:=v) (o:=mA f) (by rw[<-l];exact r f);exact xp I.kIn O (c.get f) c.hd n hu (qT ru) (h u _ (I.tok _) ru)
def jU{m:F_}{g:KF}{pl:U9 Bool}{Q:KB×List KB->Os->Prop}(I:Inv X pins σ H s)(e:H a=be (.ins C dx fs))(c:Cls X.K C)(k:Meth X.K C m g)(l:fs.lookup m=t9)
  (h:Q (.ref g,[.ref a]) s):To (SB X.prog X.w) A (UB (.ref a) m pl) Q E s:=by
 obtain⟨mA,O,r,_,_,_⟩:=gK I.hok e;have hn:mA m=none:=RelO.none_of (by rw[<-l];exact r m);exact xq I.kIn O (c.get m) k.at_ k.fn hn h
def xx{y:V}{u:KB}{Q:Unit->Os->Prop}(I:Inv X pins σ H s)(e:H a=be (.ins C dx fs))(c:Cls X.K C)(n:NoAttr X.K C f)(hl:fs.length<1000)(ry:RelV y u)
  (h:∀s',Inv X pins σ (upd H a (.ins C dx (putF f y fs))) s'->Q () s'):To (SB X.prog X.w) A (Vq (.ref a) f u) Q E s:=by
 obtain⟨mA,O,r,wi,_,ho⟩:=gK I.hok e;have hz:(fs.map (·.1)).length<=sizeLine:=by rw[GT,Ur];lia
 refine xr I.kIn O c.sa c.po n.taker c.hd wi hz λh' O' sb=>h _ ?_;have hd:∃o,h'.get? dx=be o:=let ⟨o,_,_,e',_⟩:=O'.ns;#[o,e']
 refine I.write (x:=a) (e:=dx) (by rw[e];exact True.intro) (.inr ho) (λb q hb z=>(sb.2 b hb).trans z) hd ?_;refine#[by rw[aq O.ne];exact ho,?_,O.ne,O'.obj,_,O'.ns,λg=>?_,λg hg=>?_]
 .have:=qS f y fs;lia
 .show RelO ((putF f y fs).lookup g) (if g=f then be u else mA g);rw[qR];by_cases q:g=f
  .rw[if_pos q,if_pos q];exact ry
  .rw[if_neg q,if_neg q];exact r g
 .by_cases q:g=f
  .rw[q];exact(jT f y fs).1
  .refine(jT f y fs).2 g (wi g λz=>hg ?_);show(if g=f then be u else mA g)=t9;rw[if_neg q];exact z
def Inv.made(I:Inv X pins σ H s):Inv X pins σ (upd (upd H s.heap.objs.size (.own (s.heap.objs.size+1))) (s.heap.objs.size+1) (.ins C s.heap.objs.size []))
  {s with heap:=(s.heap.push emptyDict).push (instObj C s.heap.objs.size)}:=by
 have e1:(s.heap.push emptyDict).get? s.heap.objs.size=be emptyDict:=Heap.get?_push_size s.heap rfl;have e2:((s.heap.push emptyDict).push (instObj C s.heap.objs.size)).get? (s.heap.objs.size+1)=be (instObj C s.heap.objs.size):=by
  have:=Heap.get?_push_size (s.heap.push emptyDict) (o:=instObj C s.heap.objs.size) rfl;rwa [Heap.size_push]at this
 have e3:(s.heap.push emptyDict).Ns s.heap.objs.size (λ_=>t9):=#[emptyDict,[].toArray,_,e1,rfl,(λe he=>absurd he K'),λ_=>rfl];have I1:=I.laid (a:=s.heap.objs.size) (o:=.own (s.heap.objs.size+1)) (h':=s.heap.push emptyDict) (t':=s.toks) (λb u q=>Heap.get?_push_of_some _ q) (GN _) #[_,e1];refine I1.laid (a:=s.heap.objs.size+1) (o:=.ins C s.heap.objs.size []) (t':=s.toks) (λb u q=>Heap.get?_push_of_some _ q) (IA (Heap.size_push _ _)) ?_;have ne:s.heap.objs.size≠s.heap.objs.size+1:=GV (Jv _);refine#[by rw[aq ne,az],Hb _,ne,e2,λ_=>t9,(Heap.Ns1.of_empty e3).at λo q=>Heap.get?_push_of_some _ q,λ_=>True.intro,λy hy=>absurd rfl hy]
def attr_of{prog:SZ}{w:Tp}{env:Um}{e:Tn}{f:F_}{pos:Tw}{s:Os}(hb:Tt e f env (Tv e env)=Tv e env)
  (h:To (SB prog w) A (Tv e env) (λo s₁=>To (SB prog w) A (U6 o f true) Q E s₁) E s):To (SB prog w) A (Tv (.Attribute e f pos) env) Q E s:=
 Attribute_any_ h (by rw[arm_eval_Attribute,hb])
end
def tFld(K:Ex)(ta:TE)(f:F_):TE:=λσ H Q=>ta σ H λx H1=>∃a C dx fs v,x=.ref a/\H1 a=be (.ins C dx fs)/\Cls K C/\NoAttr K C f/\fs.lookup f=be v/\Q v H1
def sFld(K:Ex)(ta tv:TE)(f:F_):TS:=λD σ H=>tv σ H λy H1=>ta σ H1 λx H2=>∃a C dx fs,x=.ref a/\H2 a=be (.ins C dx fs)/\Cls K C/\NoAttr K C f/\fs.length<1000/\
 D.nx σ (upd H2 a (.ins C dx (putF f y fs)))
section
variable {X:Cx}{o e value:Tn}{f:F_}{pos b_ LY:Tw}{ta tv:TE}
def qU(he:PE X e ta)(hb:Tt e f X.env (Tv e X.env)=Tv e X.env):PE X (.Attribute e f pos) (tFld X.K ta f):=by
 intro pins s σ H Q I h;refine attr_of hb (thn (he pins s σ H _ I h) λu s1 b9=>?_);obtain⟨x,H1,I1,rx,a,C,dx,fs,v,ex,ea,c,n,l,q⟩:=b9;subst ex;obtain rfl:u=Value.ref a:=rx;exact xu I1 ea c n l λu' s2 I2 ru=>#[v,H1,I2,ru,q]
def qV(ha:PE X o ta)(hv:PE X value tv)(hs:TJ value (be (.Attribute o f b_)) pos.line X.env=pure false):PS X (.Assign [.Attribute o f b_] value pos) (sFld X.K ta tv f):=by
 intro pins s σ H D I h;refine T9 (thn (hv pins s σ H _ I h) λu s1 ⟨y,H1,I1,ry,q⟩=>thn (ha pins s1 σ H1 _ I1 q) λov s2 hh=>?_) hs;obtain⟨x,H2,I2,rx,a,C,dx,fs,ex,ea,c,n,l,q2⟩:=hh;subst ex;obtain rfl:ov=Value.ref a:=rx;exact xx I2 ea c n l ry λs3 I3=>#[σ,_,I3,q2]
end
section
variable {X:Cx}{pins:List (KF×TL)}{σ:St}{H:Hp}{s:Os}{A:Tq}{E:KB->Os->Prop}{Q:KB->Os->Prop}{c:KB}{b:Bool}
inductive TyOf(K:Ex)(H:Hp):V->KB->Prop where
 |non:TyOf K H .non (.type "NoneType")
 |bl (x:Bool):TyOf K H (.bl x) (.type "bool")
 |int (i:Int):TyOf K H (.int i) (.type "int")
 |str (x:Str):TyOf K H (.str x) (.type "str")
 |flt (x:UInt64):TyOf K H (.flt x) (.type "float")
 |lst {a:KF} {xs:List V} (e:H a=some (.lst xs)):TyOf K H (.ref a) (.type "list")
 |frz {a:KF} {o:TL} {xs:List V} (e:H a=some (.frz o (.lst xs))):TyOf K H (.ref a) (.type "list")
 |tup {a:KF} {xs:List V} (e:H a=some (.tup xs)):TyOf K H (.ref a) (.type "tuple")
 |dK {a:KF} {a9:List (Key×V)} (e:H a=some (.dK a9)):TyOf K H (.ref a) (.type "dict")
 |dT {a:KF} {a9:List (List Key×V)} (e:H a=some (.dT a9)):TyOf K H (.ref a) (.type "dict")
 |ins {a C dx:KF} {fs:List (Str×V)} (e:H a=some (.ins C dx fs)) (cl:Cls K C) (ha:GR K (.ref C) "__class__"=some (some (.builtin "object.__class__")))
   (hn:specialIn K (.builtin "object.__class__") "__get__"=be (be (.builtin "getset_descriptor.__get__"))) (htk:takesIn K (.builtin "object.__class__")=be true)
   (hm:Hx K C (.type "object")=be true):TyOf K H (.ref a) (.ref C)
def xy{x:V}{u t:KB}(I:Inv X pins σ H s)(rx:RelV x u)(ty:TyOf X.K H x t)(e:kitOne X.K t c=be b)(h:∀tk,Q (.bool b) {s with toks:=tk}):
  To (SB X.prog X.w) A (call (.builtin "isinstance") [u,c]) Q E s:=by
 cases ty with
 |non=>cases(show u=Value.none from rx);exact kia_one kitx_none I.kIn True.intro e (λz=>nomatch z) h
 |bl y=>cases(show u=Value.bool y from rx);exact kia_one kitx_bool I.kIn True.intro e (λz=>nomatch z) h
 |int i=>obtain⟨t,q⟩:=(show ∃t,u=Value.int i t from rx);cases q;exact kia_one kitx_int I.kIn True.intro e (λz=>nomatch z) h
 |str y=>obtain⟨t,q⟩:=(show ∃t,u=Value.str y t from rx);cases q;exact kia_one kitx_str I.kIn True.intro e (λz=>nomatch z) h
 |flt y=>obtain⟨t,q⟩:=(show ∃t,u=Value.float y t from rx);cases q;exact kia_one kitx_float I.kIn True.intro e (λz=>nomatch z) h
 |@lst a xs ea=>
  cases(show u=Value.ref a from rx);obtain⟨_,_,n,_,h1⟩:=(show ObjOk X.prog X.w H s.heap a (.lst xs)from I.hok a _ ea);exact kia_one kitx_list I.kIn #[_,h1,rfl] e (λz=>nomatch z) h
 |@frz a ob xs ea=>
  cases(show u=Value.ref a from rx);obtain⟨_,_,_,n,_,h1⟩:=(show ObjOk X.prog X.w H s.heap a (.frz ob (.lst xs))from I.hok a _ ea);exact kia_one kitx_list I.kIn #[_,h1,rfl] e (λz=>nomatch z) h
 |@tup a xs ea=>
  cases(show u=Value.ref a from rx);obtain⟨_,_,_,p⟩:=(show ObjOk X.prog X.w H s.heap a (.tup xs)from I.hok a _ ea);obtain⟨o,h1,h2,_⟩:=p;exact kia_one kitx_tuple I.kIn #[o,h1,h2] e (λz=>nomatch z) h
 |@dK a a9 ea=>
  cases(show u=Value.ref a from rx);obtain⟨_,_,vs,_,p⟩:=(show ObjOk X.prog X.w H s.heap a (.dK a9)from I.hok a _ ea);obtain⟨o,es,ep,h1,h2,_⟩:=p;exact kia_one kitx_dict I.kIn #[o,h1,h2.1] e (λz=>nomatch z) h
 |@dT a a9 ea=>
  cases(show u=Value.ref a from rx);obtain⟨_,_,xs,_,o,es,ep,h1,h2,_⟩:=(show ObjOk X.prog X.w H s.heap a (.dT a9)from I.hok a _ ea);exact kia_one kitx_dict I.kIn #[o,h1,h2.1] e (λz=>nomatch z) h
 |@ins a C dx fs ea cl ha hn htk hm=>
  cases(show u=Value.ref a from rx);obtain⟨mA,O,_⟩:=gK I.hok ea;obtain⟨od,J,_⟩:=O.look;exact kia_one (kitx_own (cl.get _) cl.hd ha hn htk hm) I.kIn J e (λz=>nomatch z) h
end
structure Room(k:Nat)(A:Tq):Prop where
 hd:A.handled=t9
 dp:A.depth+3*k+5<recursionLimit
 un:A.units+16*k+200<UM
variable{k:Nat}
def Room.mono{j:Nat}(r:Room k A)(h:j<=k):Room j A:=#[r.hd,by have:=r.dp;lia,by have:=r.un;lia]
def Room.deeper(r:Room (k+1) A)(env:Um):Room k (A.deeper env):=
 #[r.hd,by have:=r.dp;show A.depth+1+3*k+5<_;lia,by have:=r.un;show A.units+3+16*k+200<_;lia]
variable{kw:List (F_×KB)}
def xz:(A.under (.builtin "type.__call__" #[.ref C::us,kw])).depth=A.depth+1:=by
 first|rfl|simp[Around.under,Code.weight,Code.isCreation,Code.isGuard,Code.isCaller,Code.frames,Code.isFrame,guardIds]
def xA:(A.under (.builtin "type.__call__" #[.ref C::us,kw])).units=A.units+1:=by
 first|rfl|simp[Around.under,Code.cUnits,Code.frames,Code.isFrame]
def Room.make(r:Room (k+1) A)(C:KF)(us:List KB)(kw:List (F_×KB)):Room k (A.under (.builtin "type.__call__" #[.ref C::us,kw])):=
 #[r.hd,by have:=r.dp;rw[xz];lia,by have:=r.un;rw[xA];lia]
def Room.depth(r:Room k A):A.depth<recursionLimit:=by have:=r.dp;lia
def Room.units(r:Room k A):A.units+64<UM:=by have:=r.un;lia
def tNil:TA:=λ_ H Q=>Q [] H
def qW(ta:TE)(tr:TA):TA:=λσ H Q=>ta σ H λx H1=>tr σ H1 λxs H2=>Q (x::xs) H2
section
variable {X:Cx}{e:Tn}{es:List Tn}{te:TE}{t:TA}{pos:Tw}
def pa_nil:PA X [] tNil:=λ_ _ _ _ H Q I h=>Calls.spliced_nil #[[],H,I,.nil,h]
def bD(ha:PE X e te)(hr:PA X es t)(hs:autoParam (zSE X e es) zA0):PA X (e::es) (qW te t):=by
 intro pos pins s σ H Q I h;rw[hs];show To _ _ (spliced ((false,Tv e X.env)::Ua pos (Tr es X.env))) _ _ s;refine Calls.spliced_cons (thn (ha pins s σ H _ I h) λu s1 b9=>?_);obtain⟨x,H1,I1,r1,q1⟩:=b9;exact thn (hr pos pins s1 σ H1 _ I1 q1) λus s2 ⟨xs,H2,I2,r2,q2⟩=>#[x::xs,H2,I2,.cons r1 r2,q2]
def tTup(t:TA):TE:=λσ H Q=>t σ H λxs H1=>xs.length<=sizeLine/\∀p,H1 p=t9->Q (.ref p) (upd H1 p (.tup xs))
def tLst(t:TA):TE:=λσ H Q=>t σ H λxs H1=>xs.length<=sizeLine/\∀p,H1 p=t9->Q (.ref p) (upd H1 p (.lst xs))
def qX{x1}(h:PA X es t):PE X (.Tuple es x1 pos) (tTup t):=by
 intro pins s σ H Q I hq;refine wpAny_Tuple_spliced (thn (h pos pins s σ H _ I hq) λus s1 ⟨xs,H1,I1,r,z,q⟩=>#[by rw[<-r.length];exact z,?_]);have hf:H1 s1.heap.objs.size=none:=I1.hok.fresh (GN _);refine#[.ref s1.heap.objs.size,upd H1 s1.heap.objs.size (.tup xs),I1.laid (t':=s1.toks) (λb u e=>Heap.get?_push_of_some _ e) (GN _) ?_,rfl,q _ hf];exact#[z,us,r,#[_,Heap.get?_push_size _ rfl,rfl,_,rfl]]
def jV(h:PA X es t):PE X (.List es pos) (tLst t):=by
 intro pins s σ H Q I hq;refine wpAny_List_spliced (thn (h pos pins s σ H _ I hq) λus s1 ⟨xs,H1,I1,r,z,q⟩=>#[by rw[<-r.length];exact z,?_]);have hf:H1 s1.heap.objs.size=none:=I1.hok.fresh (GN _);refine#[.ref s1.heap.objs.size,upd H1 s1.heap.objs.size (.lst xs),I1.laid (t':=s1.toks) (λb u e=>Heap.get?_push_of_some _ e) (GN _) ?_,rfl,q _ hf];exact#[z,us,0,r,Heap.get?_push_size _ rfl]
end
abbrev Sp:=List V->Hp->VK->XK->Prop
abbrev CXT:=List Um->Hp->Os->XK->KB->Os->Prop
structure Env0(P:SZ)(w:Tp)(K:Ex)(mg:Str->Option KB)(base:Heap)(A:Tq)(outer:List Um)(s:Os)(H:Hp):Prop where
 frames:A.frames=be outer
 mod:Mod K mg base
 bs:∀b o,base.get? b=be o->s.heap.get? b=be o/\H b=t9
 bsz:base.objs.size<=s.heap.objs.size
 funs:s.heap.FunFrames base outer
 frf:∀b∈frs outer,H b=t9
 hok:HOk P w H s.heap
 bare:Us s.gens
def CE(outer:List Um)(P:SZ)(w:Tp)(H:Hp)(s:Os)(Q:VK)(u:KB)(s':Os):Prop:=
 ∃v H',s'.os=s.os/\Us s'.gens/\Un (frs outer) [] H H' s.heap s'.heap/\HOk P w H' s'.heap/\RelV v u/\Q v H'
def CR(CX:CXT)(outer:List Um)(P:SZ)(w:Tp)(H:Hp)(s:Os)(Q:VK)(E:XK)(r:Result)(s':Os):Prop:=
 match r with
 |.ok (.ret u)=>CE outer P w H s Q u s'
 |.ok _=>False
 |.error e=>CX outer H s E e s'
structure FnOk(P:SZ)(w:Tp)(K:Ex)(mg:Str->Option KB)(base:Heap)(CX:CXT)(k:Nat)(f:KF)(fd:Tu)(ps:List Str)(sp:Sp):Prop where
 len:∀vs H Q E,sp vs H Q E->vs.length=ps.length
 run:∀(A:Tq) (outer:List Um) (s:Os) (H:Hp) (args:Args) (us:List KB) (vs:List V) (Q:VK) (E:XK),Room k A->Env0 P w K mg base A outer s H->Ux s fd args (ps.zip us)->Vals vs us->sp vs H Q E->
  UC (SB P w) A (.call (.ref f) args) (CR CX outer P w H s Q E) s
variable{f:KF}{mg:F_->Option KB}{base:Heap}{CX:CXT}{fd:Tu}{ps:List F_}{sp:Sp}
def FnOk.mono{j:Nat}(F:FnOk P w K mg base CX j f fd ps sp)(h:j<=k):
  FnOk P w K mg base CX k f fd ps sp:=#[F.len,λA outer s H args us vs Q E hr=>F.run A outer s H args us vs Q E (hr.mono h)]
def FnOk.imp{KG:Sp}(F:FnOk P w K mg base CX k f fd ps sp)
  (h:∀vs H Q E,KG vs H Q E->sp vs H Q E):FnOk P w K mg base CX k f fd ps KG:=
 #[λvs H Q E q=>F.len vs H Q E (h _ _ _ _ q),λA outer s H args us vs Q E hr he hb hv hs=>F.run A outer s H args us vs Q E hr he hb hv (h _ _ _ _ hs)]
variable{outer:List Um}
def Env0.make(e:Env0 P w K mg base A outer s H)(C:KF)(us:List KB)(kw:List (F_×KB)):
  Env0 P w K mg base (A.under (.builtin "type.__call__" #[.ref C::us,kw])) outer s H:=#[by first|exact e.frames|(simpa[Around.under,Code.envs,Code.isFrame,pushEnvs]using e.frames),e.mod,e.bs,e.bsz,e.funs,e.frf,e.hok,e.bare]
section
variable {X:Cx}{pins:List (KF×TL)}{σ:St}{H:Hp}{s s':Os}
def Inv.env0(I:Inv X pins σ H s):Env0 X.prog X.w X.K X.mg X.base X.A X.stack s H:=
 #[I.ok.frames,I.ok.mod,I.bs,GW I.ok.bsz I.sz,I.stack,I.stkFree,I.hok,I.bare]
def Inv.after{Q:VK}{u:KB}(I:Inv X pins σ H s)(h:CE X.stack X.prog X.w H s Q u s'):EP X pins σ Q u s':=by
 obtain⟨v,H',os,bare,un,hok,r,q⟩:=h;obtain⟨hh,g,d,t,Q2⟩:=s';obtain rfl:Q2=s.os:=os;exact#[v,H',I.call (h':=hh) (g':=g) (d':=d) (t':=t) (ch:=[]) un hok bare (λb z=>absurd z K'),r,q]
end
def qY(sp:Sp)(f_:List V)(E:XK)(t:TA):TE:=λσ H Q=>t σ H λvs H1=>sp (vs++f_) H1 Q E
def xB(C:KF)(sp:Sp)(f_:List V)(E:XK)(t:TA):TE:=λσ H Q=>t σ H λvs H1=>∀x dx,H1 x=t9->H1 dx=t9->dx≠x->
 sp (.ref x::(vs++f_)) (upd (upd H1 dx (.own x)) x (.ins C dx [])) (λv H2=>v=.non/\Q (.ref x) H2) E
def Binds(K:Ex)(fd:Tu)(ps:List F_)(ds:List KB):Prop:=
 ∀(s:Os) (us:List KB),K.In s.heap->(us++ds).length=ps.length->Ux s fd #[us,[]] (ps.zip (us++ds))
def Binds.all(h:∀us:List KB,us.length=ps.length->Uo fd #[us,[]]=pure (ps.zip us)):Binds K fd ps []:=λs us _ hl=>by
 rw[Hl]at hl ⊢;exact .of_eq (h us hl)
def fG(CX:CXT)(X:Cx)(E:XK):Prop:=∀(pins:List (KF×TL)) (σ:St) (H:Hp) (s:Os) (e:KB) (s':Os),Inv X pins σ H s->CX X.stack H s E e s'->X.xe e s'
section
variable {X:Cx}{CX:CXT}{k:Nat}{f C:KF}{fd:Tu}{ps:List F_}{sp:Sp}{f_:List V}{ds:List KB}{E:XK}{x m:F_}{p pos apos:Tw}{e o:Tn}{es:List Tn}{ta:TE}{t:TA}
variable{pins:List (KF×TL)}{us:List KB}{vs:List V}
def xC{σ:St}{H:Hp}{s:Os}{Q:VK}(F:FnOk X.prog X.w X.K X.mg X.base CX k f fd ps sp)(hr:Room k X.A)(hb:Binds X.K fd ps ds)(hd:Vals f_ ds)(hx:fG CX X E)
  (I:Inv X pins σ H s) (r:Vals vs us) (h:sp (vs++f_) H Q E):To (SB X.prog X.w) X.A (call (.ref f) us) (EP X pins σ Q) X.xe s:=by
 have r2:Vals (vs++f_) (us++ds):=r.append hd;have hl:(us++ds).length=ps.length:=by rw[<-r2.length];exact F.len _ _ _ _ h
 refine T_ (T8 (F.run X.A X.stack s H #[us,[]] (us++ds) (vs++f_) Q E hr I.env0 (hb s us I.kIn hl) r2 h) λr s' hq=>?_);cases r with
 |error e=>exact hx pins σ H s e s' I hq
 |ok fl=>
  cases fl with
  |ret u=>exact I.after hq
  |next=>exact False.elim hq
  |brk=>exact False.elim hq
  |cont=>exact False.elim hq
def xD(F:FnOk X.prog X.w X.K X.mg X.base CX k f fd ps sp)(hr:Room k X.A)(hg:Gl X x)(hm:X.mg x=be (.ref f))(hk:keepIn X.K (.ref f)=true)(hb:Binds X.K fd ps ds)(hd:Vals f_ ds)(hx:fG CX X E)
  (ha:PA X (e::es) t) (d5:autoParam (zND x) zA1) (he:autoParam (zSE X e es) zA0) (c5:autoParam (zPL X pos es) zA0):
  PE X (.Call (.Name x p) (e::es) [] pos) (qY sp f_ E t):=by
 intro pins s σ H Q I h;refine Tz (cv I hg hm ?_ d5);refine callWith_K (h₀:=X.base) I.ok.mod.kin hk (thn (ha pos pins s σ H _ I h) λus s1 ⟨vs,H1,I1,r,q⟩=>#[I1.kIn,?_]) he c5;exact xC F hr hb hd hx I1 r q
structure Mk(K:Ex)(C f:KF):Prop where
 makes:makesIn K C=true
 init:GR K (.ref C) "__init__"=be (be (.ref f))
 fn:isFn K (.ref f)=true
 kp:keepIn K (.ref C)=true
def xE{σ:St}{H:Hp}{s:Os}{Q:VK}(M:Mk X.K C f)(F:FnOk X.prog X.w X.K X.mg X.base CX k f fd ps sp)(hr:Room (k+1) X.A)(hb:Binds X.K fd ps ds)(hd:Vals f_ ds)
  (hx:fG CX X E) (I:Inv X pins σ H s) (r:Vals vs us)
  (h:∀x dx,H x=t9->H dx=t9->dx≠x->sp (.ref x::(vs++f_)) (upd (upd H dx (.own x)) x (.ins C dx [])) (λv H2=>v=.non/\Q (.ref x) H2) E):
  To (SB X.prog X.w) X.A (call (.ref C) us) (EP X pins σ Q) X.xe s:=by
 have hq:=h (s.heap.objs.size+1) s.heap.objs.size (I.hok.fresh (HK _)) (I.hok.fresh (GN _)) (GV (Jv _));have I2:=Inv.made (C:=C) I;have r2:Vals (V.ref (s.heap.objs.size+1)::(vs++f_)) (Value.ref (s.heap.objs.size+1)::(us++ds)):=.cons rfl (r.append hd);have hl:(Value.ref (s.heap.objs.size+1)::us++ds).length=ps.length:=by
  have e:=r2.length;rw[F.len _ _ _ _ hq]at e;exact e.symm
 refine T_ (xt (f:=f) I.kIn M.makes M.init (beq_iff_eq.mp M.fn) (T8 (F.run _ X.stack _ _ #[Value.ref (s.heap.objs.size+1)::us,[]] (Value.ref (s.heap.objs.size+1)::(us++ds)) _ _ E (hr.make C us [])
  (I2.env0.make C us []) (hb _ (Value.ref (s.heap.objs.size+1)::us) I2.kIn hl) r2 hq) λr s' v_=>?_))
 cases r with
 |error e=>exact hx pins σ _ _ e s' I2 v_
 |ok fl=>
  cases fl with
  |ret u=>
   obtain⟨v,H',I3,rv,ev,q3⟩:=I2.after v_;subst ev;exact#[rv,#[V.ref (s.heap.objs.size+1),H',I3,rfl,q3]]
  |next=>exact False.elim v_
  |brk=>exact False.elim v_
  |cont=>exact False.elim v_
def gL(M:Mk X.K C f)(F:FnOk X.prog X.w X.K X.mg X.base CX k f fd ps sp)(hr:Room (k+1) X.A)(hg:Gl X x)(hm:X.mg x=be (.ref C))(hb:Binds X.K fd ps ds)(hd:Vals f_ ds)(hx:fG CX X E)
  (ha:PA X (e::es) t) (d5:autoParam (zND x) zA1) (he:autoParam (zSE X e es) zA0) (c5:autoParam (zPL X pos es) zA0):
  PE X (.Call (.Name x p) (e::es) [] pos) (xB C sp f_ E t):=by
 intro pins s σ H Q I h;refine Tz (cv I hg hm ?_ d5);refine callWith_K (h₀:=X.base) I.ok.mod.kin M.kp (thn (ha pos pins s σ H _ I h) λus s1 ⟨vs,H1,I1,r,q⟩=>#[I1.kIn,?_]) he c5;exact xE M F hr hb hd hx I1 r q
end
structure FnScope(N P:List Str)(sc:T3):Prop where
 kind:sc.kind=.function
 co:sc.isCoroutine=false
 gen:sc.isGenerator=false
 nd:N.Nodup
 pre:N.take P.length=P
 par:∀x∈P,sc.names.lookup x=be .local\/sc.names.lookup x=be .cell
 nofree:∀y∈sc.names,y.2≠.free
def qZ{kindOf:F_->Option Uh}{x:F_}:∀{binds:List (F_×KB)} {m:F_->Option KB},(∀v,(x,v)∉binds)->UY kindOf binds m x=m x
 |[],_,_=>rfl
 |(n,v)::r,m,h=>by
  unfold UY;rw[qZ λw hw=>h w (GQ _ hw)];split
  .have:x≠n:=by rintro rfl;exact h v GS
   simp[this]
  .rfl
def bindC_out{kindOf:F_->Option Uh}{x:F_}:∀{binds:List (F_×KB)} {m:F_->Option KB},(∀v,(x,v)∉binds)->UZ kindOf binds m x=m x
 |[],_,_=>rfl
 |(n,v)::r,m,h=>by
  unfold UZ;rw[bindC_out λw hw=>h w (GQ _ hw)];split
  .rfl
  .have:x≠n:=by rintro rfl;exact h v GS
   simp[this]
def bindL_get{kindOf:F_->Option Uh}{x:F_}{v:KB}:∀{P:List F_} {vs:List KB} {i:Nat} {m:F_->Option KB},P.Nodup->P[i]?=be x->vs[i]?=be v->kindOf x=be .local->
  UY kindOf (P.zip vs) m x=be v
 |[],_,_,_,_,h,_,_=>by simp at h
 |_::_,[],_,_,_,_,h,_=>by simp at h
 |p::P,w::vs,0,m,nd,h1,h2,hk=>by
  simp at h1 h2;subst h1;subst h2;show UY kindOf ((p,w)::P.zip vs) m p=_;unfold UY;rw[qZ λv hv=>(HE.mp nd).1 (IQ hv).1,if_pos hk];simp
 |p::P,w::vs,i+1,m,nd,h1,h2,hk=>by
  show UY kindOf ((p,w)::P.zip vs) m x=_;unfold UY;exact bindL_get (i:=i) (HE.mp nd).2 (by simpa using h1) (by simpa using h2) hk
def ra{kindOf:F_->Option Uh}{x:F_}{v:KB}:∀{P:List F_} {vs:List KB} {i:Nat} {m:F_->Option KB},P.Nodup->P[i]?=be x->vs[i]?=be v->kindOf x≠be .local->
  UZ kindOf (P.zip vs) m x=be v
 |[],_,_,_,_,h,_,_=>by simp at h
 |_::_,[],_,_,_,_,h,_=>by simp at h
 |p::P,w::vs,0,m,nd,h1,h2,hk=>by
  simp at h1 h2;subst h1;subst h2;show UZ kindOf ((p,w)::P.zip vs) m p=_;unfold UZ;rw[bindC_out λv hv=>(HE.mp nd).1 (IQ hv).1,if_neg hk];simp
 |p::P,w::vs,i+1,m,nd,h1,h2,hk=>by
  show UZ kindOf ((p,w)::P.zip vs) m x=_;unfold UZ;exact ra (i:=i) (HE.mp nd).2 (by simpa using h1) (by simpa using h2) hk
def start(N:List F_)(vs:List V):St:=vs.map be++Hs (N.length-vs.length) t9
def cxOf(CX:CXT)(P:SZ)(w:Tp)(K:Ex)(mg:F_->Option KB)(base:Heap)(N:List F_)(qual:F_)(scope:T3)(f:KF)(cd:KB)(A:Tq)(outer:List Um)(s:Os)(H:Hp)(E:XK):Cx where
 prog:=P
 w:=w
 K:=K
 mg:=mg
 base:=base
 A:=A.deeper (TB qual scope s.heap.objs.size f cd)
 N:=N
 s₀:=s
 H₀:=H
 env:=TB qual scope s.heap.objs.size f cd
 outer:=outer
 stack:=TB qual scope s.heap.objs.size f cd::outer
 ex:=[]
 calm:=true
 fn:=λ_=>true
 pn:=[]
 xe:=λe s'=>To (SB P w) (A.deeper (TB qual scope s.heap.objs.size f cd)) (U5 (TB qual scope s.heap.objs.size f cd) e) (λ_ NO=>CX outer H s E e NO) (λe' NO=>CX outer H s E e' NO) s'
def cell_has{sc:T3}{n:Nat}{x:F_}(h:sc.names.lookup x=be .cell):∃c,(cellsFrom n sc.names []).lookup x=be c:=by
 have q:=cellsFrom_some sc.names n [] (.inl h);exact Option.isSome_iff_exists.mp q
variable{N:List F_}{scope:T3}
def xF{qual:F_}{cd:KB}{s1:Os}{E:XK}{vs:List V}
  (S:FnScope N ps scope) (hd:A.handled=t9) (e0:Env0 P w K mg base A outer s H) (hl:vs.length=ps.length) (r:Vals vs us)
  (x:InCallC s s.heap.objs.size (UY (TB qual scope s.heap.objs.size f cd).kindOf (ps.zip us) λ_=>t9) (cellsFrom (s.heap.objs.size+1) scope.names []) (UZ (TB qual scope s.heap.objs.size f cd).kindOf (ps.zip us) λ_=>t9) s1):
  Inv (cxOf CX P w K mg base N qual scope f cd A outer s H E) [] (start N vs) H s1:=by
 have c5:ps.length<=N.length:=by have:=congrArg Il S.pre;rw[Im]at this;lia
 obtain⟨h1,tk,rfl,hk⟩:=x.done;have L7:∀b:KF,b∉(cxOf CX P w K mg base N qual scope f cd A outer s H E).ex:=λb z=>absurd (show b∈([]:List KF)from z) K';refine⟨#[e0.mod,S.kind,rfl,rfl,GN _,λy z c h1 h2=>?_,λy hy=>?_,λy c _ h=>?_,λ_=>hd,Around.frames_deeper e0.frames,.inr #[rfl,rfl],λb z=>absurd z (L7 b),e0.bs,e0.bsz,λb _ _=>L7 b,λb z=>absurd z (L7 b),e0.funs,e0.frf],
  rfl,e0.bare,Un.kept hk,#[_,x.toInCall.ns,λi y v h1 h2 h3=>?_],λy c h=>#[_,x.cell y c h],e0.hok.fresh (GN _),λy c h=>?_,λp hp=>absurd (show p∈([]:List (KF×TL))from hp) K',e0.hok.kept hk,?_⟩
 .exact name_of_addr x.apart (PySem.mem_of_lookup h1) (PySem.mem_of_lookup h2)
 .have hy:scope.names.lookup y=be .cell\/scope.names.lookup y=be .free:=hy;rcases hy with hy|hy
  .exact cell_has hy
  .exact absurd rfl (S.nofree _ (PySem.mem_of_lookup hy))
 .exact Iw (x.above y c (PySem.mem_of_lookup h))
 .have hi:i<vs.length:=by
   unfold start at h2;by_cases hi:i<vs.length
   .exact hi
   .rw[HF (by simpa using hi)]at h2;rw[IR]at h2;split at h2<;>cases h2
  have ha:vs[i]?=be v:=by
   unfold start at h2;rw[Ht (by simpa using hi),GY]at h2;cases e:vs[i]? with
   |none=>rw[e]at h2;cases h2
   |some a=>rw[e]at h2;cases h2;rfl
  obtain⟨u,hu,rv⟩:=r.get ha;have hp:ps[i]?=be y:=by
   rw[<-S.pre,IS KK];exact h1
  have P9:ps.Nodup:=by rw[<-S.pre];exact S.nd.sublist (List.take_sublist _ _)
  refine#[u,rv,?_];rcases S.par y (Io hp)with k|k
  .exact .inl #[k,bindL_get P9 hp hu k]
  .obtain⟨c,e⟩:=cell_has (n:=s.heap.objs.size+1) k;refine .inr #[.inl k,c,e,?_];have q:=x.cell y c e;rw[ra P9 hp hu (by show scope.names.lookup y≠_;rw[k];decide)]at q;exact q
 .exact e0.hok.fresh (Iw (x.above y c (PySem.mem_of_lookup h)))
 .unfold start;show _=N.length;rw[G2,GT,List.length_replicate];lia
def xG{name qual:F_}{params:Arguments}{body:List SL}{dV kV doc pm cdv ct oc:KB}{an od:Option KF}
  {osl:Array (Option KB)}   (lk:K.lookup f=be #[oc,od,.func (fnOf name qual params body scope dV kV doc pm an cdv ct),osl]) (gV:codeIn K cdv qual=true) (S:FnScope N ps scope)
  (len:∀vs H Q E,sp vs H Q E->vs.length=ps.length)
  (a8:∀(A:Tq) (outer:List Um) (s:Os) (H:Hp) (vs:List V) (Q:VK) (E:XK),Room k (A.deeper (TB qual scope s.heap.objs.size f cdv))->sp vs H Q E->
   ∃t,PSs (cxOf CX P w K mg base N qual scope f cdv A outer s H E) body t/\t {nx:=λ_ H'=>Q .non H',rt:=Q} (start N vs) H):
  FnOk P w K mg base CX (k+1) f (fnOf name qual params body scope dV kV doc pm an cdv ct) ps sp:=by
 refine#[len,λA outer s H args us vs Q E hr e0 hb r w6=>?_];have hl:=len _ _ _ _ w6;have KX:K.In s.heap:=e0.mod.kin.keeps λb o e=>(e0.bs b o e).1;have Q3:s.heap.NoLimit:=e0.mod.nolimit.keeps λb o e=>(e0.bs b o e).1;have L8:∀y∈ps.zip us,scope.names.lookup y.1=be .local\/(scope.names.lookup y.1=be .cell/\((cellsFrom (s.heap.objs.size+1) scope.names []).lookup y.1).isSome=true):=λ⟨n,v⟩ hy=>by
  rcases S.par n (IQ hy).1 with q|q
  .exact .inl q
  .exact .inr #[q,cellsFrom_some _ _ _ (.inl q)]
 refine codeAny_call_function hr.depth (KX _ _ lk) rfl S.co S.gen rfl (codeRec_of KX gV) (hb _ _ _ _ ?_);refine wpAny_newFunctionEnv_cells S.kind L8 λenv he s1 x=>?_;subst he;refine#[Q3.keeps x.toInCall.keep,codeAny_func ?_];obtain⟨t,ht,hq⟩:=a8 A outer s H vs Q E (hr.deeper _) w6;have I:Inv (cxOf CX P w K mg base N qual scope f cdv A outer s H E) [] (start N vs) H s1:=xF S hr.hd e0 hl r x;refine TF (ht [] s1 (start N vs) H _ I hq) (λfl s' hs=>?_) λe s' hs=>hs;have d_:∀{σ':St} {H':Hp} {v:V} {u:KB},Inv (cxOf CX P w K mg base N qual scope f cdv A outer s H E) [] σ' H' s'->RelV v u->Q v H'->CE outer P w H s Q u s':=
  λ{σ' H' v u} J rv q=>#[v,H',J.os,J.bare,J.base,J.hok,rv,q]
 cases fl with
 |ret u=>
  obtain⟨v,σ',H',J,rv,q⟩:=hs;exact d_ J rv q
 |next=>
  obtain⟨σ',H',J,q⟩:=hs;exact d_ (v:=V.non) (u:=Value.none) J rfl q
 |brk=>
  obtain⟨_,_,_,q⟩:=hs;exact False.elim q
 |cont=>
  obtain⟨_,_,_,q⟩:=hs;exact False.elim q
section
variable {X:Cx}{x:F_}{p pos:Tw}{e:Tn}{es:List Tn}{t:TA}{id T:String}{r:List V->Hp->VK->Prop}
def tCB(r:List V->Hp->VK->Prop)(t:TA):TE:=λσ H Q=>t σ H λvs H1=>r vs H1 Q
def gM(hc:bM X (.builtin id) r)(hg:Gl X x)(hm:X.mg x=t9)(hv:TN x=be (.builtin id))(ha:PA X (e::es) t)(hn:autoParam (x≠"__name__") zA1)(d5:autoParam (zND x) zA1)
  (he:autoParam (zSE X e es) zA0) (c5:autoParam (zPL X pos es) zA0):PE X (.Call (.Name x p) (e::es) [] pos) (tCB r t):=by
 intro pins s σ H Q I h;refine Tz (dE I hg hm hv ?_ hn d5);exact PyProof.Rows.callWith_builtin1 (thn (ha pos pins s σ H _ I h) λus s1 ⟨vs,H1,I1,r1,q1⟩=>hc pins s1 σ H1 vs us Q I1 r1 q1) he c5
def jW(hc:bM X (.type T) r)(hg:Gl X x)(hm:X.mg x=t9)(hv:TN x=be (.type T))(ha:PA X (e::es) t)(hn:autoParam (x≠"__name__") zA1)(d5:autoParam (zND x) zA1)
  (he:autoParam (zSE X e es) zA0) (c5:autoParam (zPL X pos es) zA0):PE X (.Call (.Name x p) (e::es) [] pos) (tCB r t):=by
 intro pins s σ H Q I h;refine Tz (dE I hg hm hv ?_ hn d5);exact PyProof.Rows.callWith_type1 (thn (ha pos pins s σ H _ I h) λus s1 ⟨vs,H1,I1,r1,q1⟩=>hc pins s1 σ H1 vs us Q I1 r1 q1) he c5
end
end L2
namespace HT
open PySem PyProof.Rows
section
variable {prog:SZ}{w:Tp}{A:Tq}{E:KB->Os->Prop}{s:Os}
variable{Q:KB->Os->Prop}
def cat_tup{t b:KF}{vs ws:List KB}(ht:IsTup s.heap t vs.toArray)(hb:IsTup s.heap b ws.toArray)(hv:vs≠[])
  (h1:ws=[]->Q (.ref t) s) (h2:ws≠[]->Q (.ref s.heap.objs.size) {s with heap:=s.heap.push {cls:=.type "tuple",data:=.seq (vs++ws).toArray} })
  (j6:vs.length+ws.length<=sizeLine):To (SB prog w) A (TV .Add (.ref t) (.ref b)) Q E s:=by
 obtain⟨⟨cls,dd,data,sl⟩,ho,hc,n,hd⟩:=id ht;obtain⟨⟨Q4,P',data2,P_⟩,Nd,Qa,n2,Lv⟩:=id hb;simp only at hc hd Qa Lv;subst hc hd Qa Lv;have e:vs.toArray++ws.toArray=(vs++ws).toArray:=K'
 by_cases hw:ws=[]
 .exact concat_meets #[_,ho,rfl] #[_,Nd,rfl] noFill_tuple_add seq_tuple_add PySem.F.slot_tuple_add PySem.F.entry_tuple_add (PySem.F.args_tuple_add_2 _ _)
   (tuple_addW1 t b vs.toArray ws.toArray n n2 dd P' sl P_ (by simpa using hv) (by simp[hw])) #[ho,Nd,h1 hw]
 .refine concat_meets #[_,ho,rfl] #[_,Nd,rfl] noFill_tuple_add seq_tuple_add PySem.F.slot_tuple_add PySem.F.entry_tuple_add (PySem.F.args_tuple_add_2 _ _)
   (tuple_addW2 t b vs.toArray ws.toArray n n2 dd P' sl P_ (by simpa using hv) (by simpa using hw) (by rw[GX,GX];exact j6)) #[ho,Nd,?_]
  rw[e];exact h2 hw
def sIx(n d:Nat):Option Int->Nat
 |none=>d
 |some v=>if v<0 then(v+(n:Int)).toNat else min v.toNat n
def sIx_none(n d:Nat):sIx n d t9=d:=rfl
def sIx_nat(n d k:Nat):sIx n d (be (k:Int))=min k n:=by
 show(if(k:Int)<0 then((k:Int)+(n:Int)).toNat else min (k:Int).toNat n)=min k n;rw[if_neg KK,Hu]
def sIx_le(n d:Nat)(hd:d<=n)(o:Option Int):sIx n d o<=n:=by
 cases o with
 |none=>exact hd
 |some v=>
  show(if v<0 then(v+(n:Int)).toNat else min v.toNat n)<=n;by_cases hv:v<0
  .rw[if_pos hv];lia
  .rw[if_neg hv];exact Nat.min_le_right _ _
def rb(v:Int)(n d:Nat):(if v<0 then max (v+(n:Int)) 0 else min v (n:Int))=((sIx n d (be v):Nat):Int):=by
 show(if v<0 then max (v+(n:Int)) 0 else min v (n:Int))=(((if v<0 then(v+(n:Int)).toNat else min v.toNat n):Nat):Int);by_cases hv:v<0
 .simp only[if_pos hv];lia
 .simp only[if_neg hv];lia
def xH(lo hi:Option Int)(n:Nat):Builtin.Slice.sliceAdjust lo hi 1 (n:Int)=(((sIx n 0 lo:Nat):Int),((sIx n n hi:Nat):Int)):=by
 have h1:¬((1:Int)<0):=KK
 unfold Builtin.Slice.sliceAdjust;simp only[h1,if_false];refine Prod.ext ?_ ?_
 .cases lo with
  |none=>rfl
  |some v=>exact rb v n 0
 .cases hi with
  |none=>rfl
  |some v=>exact rb v n n
def xI(i j:Nat):Builtin.Slice.slicePlaces (i:Int) (j:Int) 1=j-i:=by
 unfold Builtin.Slice.slicePlaces;have h1:(1:Int)>0:=KK
 simp only[h1,if_true,Int.ediv_one];split<;>lia
def rg{v:KB}{o:Option Int}{Q:Option Int->Os->Prop}(p:UL v o)(h:Q o s):To (SB prog w) A (Builtin.Slice.slicePartIndex v) Q E s:=by
 cases p with
 |none=>exact slicePart_none h
 |int i t=>exact slicePart_int h
variable{lo hi:Option Int}
def xJ{sl:KF}{vl vu:KB}{n:Nat}{Q:Int×Int×Nat->Os->Prop}(hs:s.heap.IsSliceOf sl vl vu .none)(pl:UL vl lo)(pu:UL vu hi)
  (h:Q (((sIx n 0 lo:Nat):Int),1,sIx n n hi-sIx n 0 lo) s):To (SB prog w) A (Builtin.Slice.sliceApplied (.ref sl) (pure (n:Int))) Q E s:=by
 obtain⟨os,G_,Nf,Ng⟩:=id hs;unfold Builtin.Slice.sliceApplied Builtin.Slice.sliceFields;refine KM (KM (Ud G_ Ng (x:=vl) rfl (KM (Ud G_ Ng (x:=vu) rfl (KM (Ud G_ Ng (x:=.none) rfl (P3 ?_)))))));refine KM (slicePart_none ?_);show To _ _ (if((1:Int)==0)=true then _ else _) _ _ s;rw[if_neg K3];refine KM (rg pl (KM (rg pu (KM (P3 ?_)))));show To _ _ (match Builtin.Slice.sliceAdjust lo hi 1 (n:Int)with|(lo,hi)=>pure (lo,(1:Int),Builtin.Slice.slicePlaces lo hi 1)) _ _ s;rw[xH lo hi n];show To _ _ (pure (((sIx n 0 lo:Nat):Int),(1:Int),Builtin.Slice.slicePlaces ((sIx n 0 lo:Nat):Int) ((sIx n n hi:Nat):Int) 1)) _ _ s;rw[xI];exact P3 h
def xK(xs:Array KB)(i k:Nat):((GO k).filterMap λ(m:Nat)=>xs[((i:Int)+(m:Int)*1).toNat]?).toArray=((xs.toList.drop i).take k).toArray:=by
 have e:(λ(m:Nat)=>xs[((i:Int)+(m:Int)*1).toNat]?)=λm=>xs[i+m]?:=by
  funext m;have:((i:Int)+(m:Int)*1).toNat=i+m:=KK
  rw[this]
 rw[e];have:=pick_run xs i k;rw[Jw]at this;have e2:((λx=>xs[x]?) ∘ λx=>i+x)=λm=>xs[i+m]?:=rfl;rw[e2]at this;rw[this]
def getItem_tuple_cut{t sl:KF}{items:Array KB}{vl vu:KB}(ht:IsTup s.heap t items)(hs:s.heap.IsSliceOf sl vl vu .none)(pl:UL vl lo)(pu:UL vu hi)
  (hw:¬(sIx items.size 0 lo=0/\sIx items.size items.size hi=items.size))
  (h:Q (.ref s.heap.objs.size) {s with heap:=s.heap.push {cls:=.type "tuple",data:=.seq ((items.toList.drop (sIx items.size 0 lo)).take (sIx items.size items.size hi-sIx items.size 0 lo)).toArray} })
  (j6:items.size<=sizeLine):To (SB prog w) A (UP (.ref t) (.ref sl)) Q E s:=by
 have i9:sizeOk (.seq ((items.toList.drop (sIx items.size 0 lo)).take (sIx items.size items.size hi-sIx items.size 0 lo)).toArray):=by
  show((items.toList.drop (sIx items.size 0 lo)).take (sIx items.size items.size hi-sIx items.size 0 lo)).toArray.size<=sizeLine;rw[GX,Im,HL,Iy];lia
 have hj:sIx items.size items.size hi<=items.size:=sIx_le _ _ (GN _) hi;obtain⟨os,G_,Nf,Ng⟩:=id hs;have Q5:s.TypeIs (.ref sl) "slice":=#[os,G_,Nf];unfold UP
 try with_reducible refine TR ?_
 first|refine KM (P3 ?_)|skip
 refine KM (wpAny_sequenceKey ht.typeIs K3 ?_);refine KM (wpAny_callSpecial?_slot (name:=Str.ofString "__getitem__") ht.typeIs PyProof.Rows.slot_tuple_getitem
  (wpAny_call_entry PyProof.Rows.slot_tuple_getitem ht.typeIs entry_tuple_getitem ?_ (args_tuple_getitem _ _)))
 show To _ _ (Builtin.Tuple.tupleItemsOf (.ref t)>>=_) _ _ s;refine KM (tupleItemsOf_ ht ?_);refine KM (wpAny_typeOf Q5 ?_);rw[if_pos K3];refine KM (xJ hs pl pu ?_);have Lw:¬((((sIx items.size 0 lo:Nat):Int)==0&&(1:Int)==1&&(sIx items.size items.size hi-sIx items.size 0 lo)==items.size)=true):=by
  intro q;rw[Hf,Hf]at q;have q1:((sIx items.size 0 lo:Nat):Int)=0:=eq_of_beq q.1.1;have q2:sIx items.size items.size hi-sIx items.size 0 lo=items.size:=eq_of_beq q.2;exact hw #[KK,KK]
 show To _ _ (if(((sIx items.size 0 lo:Nat):Int)==0&&(1:Int)==1&&(sIx items.size items.size hi-sIx items.size 0 lo)==items.size)=true then _ else _) _ _ s;rw[if_neg Lw,xK]
 first
  |exact KM (m:=Builtin.Tuple.tupleExact _) (TC (P3 ⟨_,rfl,P3 h⟩) i9)
  |exact KM (m:=Builtin.Tuple.tupleExact _) (TC (KM (P3 (P3 ⟨_,rfl,P3 h⟩))) i9)
  |exact KM (KM (m:=Builtin.Tuple.tupleExact _) (TC (P3 (P3 ⟨_,rfl,P3 h⟩)) i9))
  |exact KM (KM (m:=Builtin.Tuple.tupleExact _) (TC (P3 ⟨_,rfl,P3 h⟩) i9))
end
end HT
namespace L2
open PySem PySem.Spec PyProof.Rows
abbrev TO:=St->Hp->(Option Int->Hp->Prop)->Prop
def PO(X:Cx)(e:Option Tn)(t:TO):Prop:=
 ∀(pins:List (KF×TL)) (s:Os) (σ:St) (H:Hp) (Q:Option Int->Hp->Prop),Inv X pins σ H s->t σ H Q->
  To (SB X.prog X.w) X.A (evalPart e X.env) (λu s'=>∃o H',Inv X pins σ H' s'/\UL u o/\Q o H') X.xe s
def xL:TO:=λ_ H Q=>Q t9 H
def xM(t:TE):TO:=λσ H Q=>t σ H λx H1=>∃i,x=.int i/\Q (be i) H1
section
variable {X:Cx}{e:Tn}{te:TE}{lo hi:Option Tn}{tl th:TO}{pos p2:Tw}
def jX:PO X t9 xL:=by
 intro pins s σ H Q I h;rw[evalPart_none];exact P3 #[t9,H,I,.none,h]
def jY(h:PE X e te):PO X (be e) (xM te):=by
 intro pins s σ H Q I hw;rw[evalPart_some];refine thn (h pins s σ H _ I hw) λu s1 b9=>?_;obtain⟨x,H1,I1,r1,q1⟩:=b9;obtain⟨i,rfl,q⟩:=q1;obtain⟨t,rfl⟩:=r1;exact#[be i,H1,I1,.int i t,q]
def SlR(X:Cx)(r:V->Option Int->Option Int->Hp->VK->Prop):Prop:=
 ∀(pins:List (KF×TL)) (s:Os) (σ:St) (H:Hp) (x:V) (v vl vu:KB) (lo hi:Option Int) (sl:KF) (Q:VK),Inv X pins σ H s->RelV x v->s.heap.IsSliceOf sl vl vu .none->UL vl lo->UL vu hi->r x lo hi H Q->
  ∃T id,typeLookup (.type T) "__getitem__"=pure (be (.builtin id))/\s.TypeIs v T/\To (SB X.prog X.w) X.A (UP v (.ref sl)) (EP X pins σ Q) X.xe s
variable{r:V->Option Int->Option Int->Hp->VK->Prop}
def SlR.or{r':V->Option Int->Option Int->Hp->VK->Prop}(h:SlR X r)(h':SlR X r'):SlR X (λx lo hi H Q=>r x lo hi H Q\/r' x lo hi H Q):=by
 intro pins s σ H x v vl vu lo hi sl Q I rx hs pl pu q;rcases q with q|q
 .exact h pins s σ H x v vl vu lo hi sl Q I rx hs pl pu q
 .exact h' pins s σ H x v vl vu lo hi sl Q I rx hs pl pu q
def tSl(r:V->Option Int->Option Int->Hp->VK->Prop)(te:TE)(tl th:TO):TE:=λσ H Q=>te σ H λx H1=>tl σ H1 λl H2=>th σ H2 λu H3=>r x l u H3 Q
def gN(hr:SlR X r)(he:PE X e te)(hl:PO X lo tl)(hu:PO X hi th):PE X (.Subscript e (.Slice lo hi t9 p2) pos) (tSl r te tl th):=by
 intro pins s σ H Q I h;refine Subscript_ (thn (he pins s σ H _ I h) λv s1 b9=>?_);obtain⟨x,H1,I1,r1,q1⟩:=b9;refine wpAny_Slice (thn (hl pins s1 σ H1 _ I1 q1) λvl s2 ⟨l,H2,I2,pl,q2⟩=>thn (hu pins s2 σ H2 _ I2 q2) λvu s3 b9=>?_);obtain⟨u,H3,I3,pu,q3⟩:=b9;rw[evalPart_none];refine P3 ?_;have I4:Inv X pins σ H3 {s3 with heap:=s3.heap.push {cls:=.type "slice",data:=.fields [vl,vu,.none].toArray} }:=I3.kept (t':=s3.toks) λb ob q=>Heap.get?_push_of_some _ q;obtain⟨T,id,hT,ht,hg⟩:=hr pins {s3 with heap:=s3.heap.push {cls:=.type "slice",data:=.fields [vl,vu,.none].toArray} } σ H3 x v vl vu l u s3.heap.objs.size Q I4 r1 (Heap.IsSliceOf.new ..) pl pu q3;show To (SB X.prog X.w) X.A (subscriptTail e (.Slice lo hi t9 p2) v (.ref s3.heap.objs.size)) (EP X pins σ Q) X.xe {s3 with heap:=s3.heap.push {cls:=.type "slice",data:=.fields [vl,vu,.none].toArray} };exact tail_any (ops:=[.ref s3.heap.objs.size,v]) ht hT hg (by with_unfolding_all rfl)
def cutV(xs:List V)(lo hi:Option Int):List V:=(xs.drop (HT.sIx xs.length 0 lo)).take (HT.sIx xs.length xs.length hi-HT.sIx xs.length 0 lo)
def rh(xs:List V)(lo hi:Option Int):(cutV xs lo hi).length<=xs.length:=by
 unfold cutV;rw[Im,HL];lia
def rSlT(K:Ex):V->Option Int->Option Int->Hp->VK->Prop:=λx lo hi H Q=>∃a xs,x=.ref a/\SqT K H a xs/\
 ¬(HT.sIx xs.length 0 lo=0/\HT.sIx xs.length xs.length hi=xs.length)/\∀p,H p=t9->Q (.ref p) (upd H p (.tup (cutV xs lo hi)))
def rj:SlR X (rSlT X.K):=by
 intro pins s σ H x v vl vu lo hi sl Q I rx hs pl pu h;obtain⟨a,xs,rfl,hx,hw,q⟩:=h;cases rx;obtain⟨its,r,ht,hz⟩:=I.tuple hx;have b7:its.toArray.size=xs.length:=by rw[GX];exact r.length.symm
 refine#["tuple",_,PyProof.Rows.slot_tuple_getitem.lookup,ht.typeIs,?_];refine HT.getItem_tuple_cut ht hs pl pu (by rw[b7];exact hw) ?_ (by rw[b7];exact hz);rw[b7];refine#[.ref s.heap.objs.size,_,I.laid (t':=s.toks) (o:=.tup (cutV xs lo hi)) (λb ob q=>Heap.get?_push_of_some _ q) (GN _) ?_,rfl,q _ (I.hok.fresh (GN _))];exact#[GW (rh xs lo hi) hz,_,(r.drop (HT.sIx xs.length 0 lo)).take (HT.sIx xs.length xs.length hi-HT.sIx xs.length 0 lo),IsTup.new _ _]
def rk(K:Ex):R2:=λx y H Q=>∃a b xs ys,x=.ref a/\y=.ref b/\SqT K H a xs/\SqT K H b ys/\xs≠[]/\xs.length+ys.length<=sizeLine/\
 (ys=[]->Q (.ref a) H)/\(ys≠[]->∀p,H p=t9->Q (.ref p) (upd H p (.tup (xs++ys))))
def Vals.nil_iff{xs:List V}{us:List KB}(r:Vals xs us):us=[]↔xs=[]:=by
 cases r with
 |nil=>simp
 |cons _ _=>simp
def xN:OpR X (TV .Add) (rk X.K):=by
 intro pins s σ H x y v u Q I rx ry h;obtain⟨a,b,xs,ys,rfl,rfl,ha,hb,hx,hz,q1,q2⟩:=h;cases rx;cases ry;obtain⟨its,r1,p1,_⟩:=I.tuple ha;obtain⟨k8,r2,p2,_⟩:=I.tuple hb;refine HT.cat_tup p1 p2 (λz=>hx (r1.nil_iff.mp z)) (λz=>#[.ref a,H,I,rfl,q1 (r2.nil_iff.mp z)]) (λz=>?_) (by rw[<-r1.length,<-r2.length];exact hz);refine#[.ref s.heap.objs.size,_,I.laid (t':=s.toks) (o:=.tup (xs++ys)) (λb ob q=>Heap.get?_push_of_some _ q) (GN _) ?_,rfl,q2 (λw=>z (r2.nil_iff.mpr w)) _ (I.hok.fresh (GN _))];exact#[by rw[G2];exact hz,_,r1.append r2,IsTup.new _ _]
end
def ixN(n:Nat)(i:Int):Option Nat:=if 0<=i then(if i<n then be i.toNat else t9)else if -(n:Int)<=i then be (i+n).toNat else t9
def atI{α:Type}(xs:List α)(i:Int):Option α:=(ixN xs.length i).bind λj=>xs[j]?
def rl{n:Nat}{i:Int}{j:Nat}(h:ixN n i=be j):seqIndex? i n=be j/\j<n/\-(n:Int)<=i/\i<n:=by
 unfold ixN at h;by_cases h0:0<=i
 .rw[if_pos h0]at h;by_cases h1:i<n
  .rw[if_pos h1]at h;have e:i.toNat=j:=Option.some.inj h;exact#[by rw[Vc h0 h1,e],KK,KK,h1]
  .rw[if_neg h1]at h;cases h
 .rw[if_neg h0]at h;by_cases h1:-(n:Int)<=i
  .rw[if_pos h1]at h;have e:(i+n).toNat=j:=Option.some.inj h;exact#[by rw[U4 KK h1,e],KK,h1,KK]
  .rw[if_neg h1]at h;cases h
def atI_get{α:Type}{xs:List α}{i:Int}{v:α}(h:atI xs i=be v):∃j,seqIndex? i xs.length=be j/\xs[j]?=be v/\j<xs.length/\-(xs.length:Int)<=i/\i<xs.length:=by
 unfold atI at h;cases e:ixN xs.length i with
 |none=>rw[e]at h;cases h
 |some j=>
  rw[e]at h;obtain⟨h1,h2,h3,h4⟩:=rl e;exact#[j,h1,h,h2,h3,h4]
def bH{α:Type}{xs:List α}{j:Nat}{v:α}(h:xs[j]?=be v):atI xs (j:Int)=be v:=by
 have hj:j<xs.length:=(GZ.mp h).1;have e:ixN xs.length (j:Int)=be j:=by
  unfold ixN;rw[if_pos KK,if_pos KK];simp
 unfold atI;rw[e];exact h
def dZ(b:Tn):Prop:=∀o i,subscripted b false o i=operate [o,i] (UP o i)
def IxR(X:Cx)(r:R2):Prop:=
 ∀(value slice:Tn) (pins:List (KF×TL)) (s:Os) (σ:St) (H:Hp) (x y:V) (v u:KB) (Q:VK),Inv X pins σ H s->RelV x v->RelV y u->r x y H Q->
  subscripted slice false v u=operate [v,u] (UP v u)->To (SB X.prog X.w) X.A (subscriptTail value slice v u) (EP X pins σ Q) X.xe s
def MtR(X:Cx)(id:String)(r:V->List V->Hp->VK->Prop):Prop:=
 ∀(pins:List (KF×TL)) (s:Os) (σ:St) (H:Hp) (x:V) (xs:List V) (v:KB) (us:List KB) (Q:VK),Inv X pins σ H s->RelV x v->Vals xs us->r x xs H Q->
  To (SB X.prog X.w) X.A (call (.builtin id) (v::us)) (EP X pins σ Q) X.xe s
section
variable {X:Cx}{a b:Tn}{ta tb:TE}{pos:Tw}
def IxR.or{r r':R2}(h:IxR X r)(h':IxR X r'):IxR X (λx y H Q=>r x y H Q\/r' x y H Q):=by
 intro value slice pins s σ H x y v u Q I rx ry q hs;rcases q with q|q
 .exact h value slice pins s σ H x y v u Q I rx ry q hs
 .exact h' value slice pins s σ H x y v u Q I rx ry q hs
def pe_ix{r:R2}(hr:IxR X r)(ha:PE X a ta)(hb:PE X b tb)(hs:dZ b):PE X (.Subscript a b pos) (tOp r ta tb):=by
 intro pins s σ H Q I h;exact Subscript_ (binT ha hb I h λv u s2 x y H2 I2 rx ry q=>hr a b pins s2 σ H2 x y v u Q I2 rx ry q (hs _ _))
def rIxL(K:Ex):R2:=λx y H Q=>∃p xs i v,x=.ref p/\y=.int i/\SqL K H p xs/\atI xs i=be v/\Q v H
def rIxT(K:Ex):R2:=λx y H Q=>∃p xs i v,x=.ref p/\y=.int i/\SqT K H p xs/\atI xs i=be v/\Q v H
def rIxS:R2:=λx y H Q=>∃z i c,x=.str z/\y=.int i/\z.length<=sizeLine/\atI z.cps.toList i=be c/\Q (.str #[[c].toArray]) H
def ix_list:IxR X (rIxL X.K):=by
 intro value slice pins s σ H x y v u Q I rx ry h hs;obtain⟨p,xs,i,z,rfl,rfl,hq,he,q⟩:=h;cases rx;obtain⟨t,rfl⟩:=ry;obtain⟨its,r,pl,hz⟩:=I.list hq;obtain⟨j,h1,h2,h3,h4,h5⟩:=atI_get he;obtain⟨w,ew,h_⟩:=r.get h2;have hl:=r.length;have hn:=line63;have d_:EP X pins σ Q w s:=#[z,H,I,h_,q];by_cases h0:0<=i
 .have hj:i.toNat=j:=by
   rw[Vc h0 h5]at h1;exact Option.some.inj h1
  exact item_listR pl.isList h0 KK (by rw[hj];simpa using ew) d_ hs
 .have hj:(i+(its.toArray.size:Int)).toNat=j:=by
   rw[U4 KK h4]at h1;rw[GX,<-hl];exact Option.some.inj h1
  exact U2 (x:=w) pl.isList.typeIs slot_list_getitem.lookup
   (wpAny_getItem_list_neg (Q:=λr s'=>r=w/\EP X pins σ Q r s') pl.isList KK (by rw[GX]<;>lia) KK (by rw[hj];simpa using ew) #[rfl,d_]) hs
def ix_tup:IxR X (rIxT X.K):=by
 intro value slice pins s σ H x y v u Q I rx ry h hs;obtain⟨p,xs,i,z,rfl,rfl,hq,he,q⟩:=h;cases rx;obtain⟨t,rfl⟩:=ry;obtain⟨its,r,pl,hz⟩:=I.tuple hq;obtain⟨j,h1,h2,h3,h4,h5⟩:=atI_get he;obtain⟨w,ew,h_⟩:=r.get h2;have hl:=r.length;have hn:=line63;have d_:EP X pins σ Q w s:=#[z,H,I,h_,q];exact U2 (x:=w) pl.typeIs slot_tuple_getitem.lookup
  (getItem_tuple (j:=j) (Q:=λr s'=>r=w/\EP X pins σ Q r s') pl KK KK (by rw[GX,<-hl];exact h1) (by simpa using ew) #[rfl,d_]) hs
def xO:IxR X rIxS:=by
 intro value slice pins s σ H x y v u Q I rx ry h hs;obtain⟨z,i,c,rfl,rfl,hz,he,q⟩:=h;obtain⟨t,rfl⟩:=rx;obtain⟨t',rfl⟩:=ry;obtain⟨j,h1,h2,h3,h4,h5⟩:=atI_get he;have hl:z.cps.toList.length=z.length:=by simp[Str.length]
 rw[hl]at h1 h4 h5;have hn:=line63;exact tail_any (Vm s z t) slot_str_getitem.lookup (getItem_str (c:=c) (by
  have e1:decide (i< -(2^63:Int))=false:=decide_eq_false KK;have e2:decide (i>=2^63)=false:=decide_eq_false KK;rw[e1,e2,Bool.or_false]) (by rw[h1];simpa using h2) #[.str #[[c].toArray],H,I.tok _,#[_,rfl],q]) hs
def rIx(K:Ex):R2:=λx y H Q=>rIxL K x y H Q\/rIxT K x y H Q\/rIxS x y H Q
def rn:IxR X (rIx X.K):=ix_list.or (ix_tup.or xO)
def xP(its:List KB)(n j:Nat)(u:KB):Obj.mapSeq (·.setIfInBounds j u) {cls:=.type "list",data:=.seq its.toArray n}={cls:=.type "list",data:=.seq (its.set j u).toArray n}:=by
 simp[Obj.mapSeq]
def Inv.lst{pins:List (KF×TL)}{σ:St}{H:Hp}{s:Os}{p:KF}{xs:List V}(I:Inv X pins σ H s)(h:H p=be (.lst xs)):
  ∃(its:List KB) (n:Nat),Vals xs its/\s.heap.get? p=be {cls:=.type "list",data:=.seq its.toArray n}/\xs.length<=sizeLine:=by
 obtain⟨z,its,n,r,e⟩:=I.hok p _ h;exact#[its,n,r,e,z]
variable{pins:List (KF×TL)}{s:Os}
def Inv.lstUpd{σ:St}{H:Hp}{p:KF}{xs ys:List V}{its its':List KB}{n n':Nat}{f:TL->TL}(I:Inv X pins σ H s)(h:H p=be (.lst xs))
  (ho:s.heap.get? p=be {cls:=.type "list",data:=.seq its.toArray n}) (hf:f {cls:=.type "list",data:=.seq its.toArray n}={cls:=.type "list",data:=.seq its'.toArray n'}) (r:Vals ys its') (hz:ys.length<=sizeLine) (t:Nat):
  Inv X pins σ (upd H p (.lst ys)) {s with heap:=s.heap.update p f,toks:=t}:=by
 have e:(s.heap.update p f).get? p=be {cls:=.type "list",data:=.seq its'.toArray n'}:=by
  rw[Heap.get?_update_self f ho (by rw[hf]<;>rfl),hf]
 refine I.write (x:=p) (e:=p) (by rw[h];trivial) (.inl rfl) (λb u hb q=>(Heap.get?_update_other _ _ (Ne.symm hb)).trans q) #[_,e] ?_;exact#[hz,its',n',r,e]
def xQ:V->V->V->Hp->(Hp->Prop)->Prop:=λo i v H Q=>∃p xs k j,o=.ref p/\i=.int k/\H p=be (.lst xs)/\ixN xs.length k=be j/\Q (upd H p (.lst (xs.set j v)))
def rq:PSet X xQ:=by
 intro pins s σ H o i v ov iv u Q I ro ri rv h;obtain⟨p,xs,k,j,rfl,rfl,hp,hj,q⟩:=h;cases ro;obtain⟨t,rfl⟩:=ri;obtain⟨its,n,r,ho,hz⟩:=I.lst hp;obtain⟨h1,h2,h3,h4⟩:=rl hj;have hl:=r.length;have hn:=line63;have I':Inv X pins σ (upd H p (.lst (xs.set j v))) {s with heap:=s.heap.update p (Obj.mapSeq (·.setIfInBounds j u))}:=
  I.lstUpd hp ho (xP its n j u) (r.set rv j) (by rw[Hv];exact hz) s.toks
 by_cases h0:0<=k
 .have hk:k.toNat=j:=by
   rw[Vc h0 h4]at h1;exact Option.some.inj h1
  exact ki_setAt ho h0 KK (by rw[GX,<-hl];exact h4) (by rw[hk];exact#[_,I',q])
 .have hk:(k+(its.toArray.size:Int)).toNat=j:=by
   rw[U4 KK h3]at h1;rw[GX,<-hl];exact Option.some.inj h1
  exact ki_setBack ho KK (by rw[GX,<-hl];exact h3) KK (by rw[hk];exact#[_,I',q])
def xR(lo hi:Option Int)(n:Nat):(Ue lo hi t9 n).1=((HT.sIx n 0 lo:Nat):Int)/\(Ue lo hi t9 n).2.1=((HT.sIx n n hi:Nat):Int)/\(Ue lo hi t9 n).2.2=1:=by
 refine#[?_,?_,rfl]
 .cases lo with
  |none=>simp[Ue,HT.sIx]
  |some i=>
   simp only[Ue,HT.sIx,Jy,show(1:Int)>0 by decide,if_true];by_cases h:i<0
   .simp only[h,if_true]<;>lia
   .simp only[h,if_false]<;>lia
 .cases hi with
  |none=>simp[Ue,HT.sIx]
  |some i=>
   simp only[Ue,HT.sIx,Jy,show(1:Int)>0 by decide,if_true];by_cases h:i<0
   .simp only[h,if_true]<;>lia
   .simp only[h,if_false]<;>lia
def xS(its:List KB)(lo hi:Option Int):slicePick its.toArray lo hi t9=((its.drop (HT.sIx its.length 0 lo)).take (HT.sIx its.length its.length hi-HT.sIx its.length 0 lo)).toArray:=by
 obtain⟨h1,h2,h3⟩:=xR lo hi its.toArray.size;unfold slicePick;rw[h1,h2,h3];simp only[sliceRange_one,pick_run,GX]<;>rfl
def rSlL(K:Ex):V->Option Int->Option Int->Hp->VK->Prop:=λx lo hi H Q=>∃a xs,x=.ref a/\SqL K H a xs/\∀p,H p=t9->Q (.ref p) (upd H p (.lst (cutV xs lo hi)))
def gO:SlR X (rSlL X.K):=by
 intro pins s σ H x v vl vu lo hi sl Q I rx hs pl pu h;obtain⟨a,xs,rfl,hx,q⟩:=h;cases rx;obtain⟨its,r,ht,hz⟩:=I.list hx;have b7:=r.length;refine#["list",_,slot_list_getitem.lookup,ht.isList.typeIs,?_];refine wpAny_getItem_list_slice ht.isList hs pl pu .none K' ?_ (by rw[GX]<;>lia);rw[xS,<-b7];refine#[.ref s.heap.objs.size,_,I.laid (t':=s.toks) (o:=.lst (cutV xs lo hi)) (λb ob q=>Heap.get?_push_of_some _ q) (GN _) ?_,rfl,q _ (I.hok.fresh (GN _))];exact#[GW (rh xs lo hi) hz,_,0,(r.drop (HT.sIx xs.length 0 lo)).take (HT.sIx xs.length xs.length hi-HT.sIx xs.length 0 lo),Heap.get?_push_size _ rfl]
def bN:V->Bool
 |.non=>true
 |.bl _=>true
 |.int _=>true
 |.str _=>true
 |_=>false
def eqV:V->V->Bool
 |.non,.non=>true
 |.bl a,.bl b=>a==b
 |.bl a,.int b=>(if a then 1 else 0)==b
 |.int a,.bl b=>a==(if b then 1 else 0)
 |.int a,.int b=>a==b
 |.str a,.str b=>a==b
 |_,_=>false
variable{x:V}
def eqAt_V{A:Tq}{y:V}{u v:KB}(ry:RelV y u)(rx:RelV x v)(fy:bN y=true)(fx:bN x=true):SeqAt.EqAt A s u v (eqV y x):=by
 cases y with
 |non=>
  cases ry;cases x with
  |non=>cases rx;exact SeqAt.EqAt.same _
  |bl b=>cases rx;exact SeqAt.EqAt.none_bool b
  |int b=>obtain⟨t,rfl⟩:=rx;exact SeqAt.EqAt.none_int b t
  |str b=>obtain⟨t,rfl⟩:=rx;exact SeqAt.EqAt.none_str b t
  |_=>exact absurd (show false=true from fx) G1
 |bl a=>
  cases ry;cases x with
  |non=>cases rx;exact SeqAt.EqAt.bool_none a
  |bl b=>cases rx;exact SeqAt.EqAt.bool_bool a b
  |int b=>obtain⟨t,rfl⟩:=rx;exact SeqAt.EqAt.bool_int a b t
  |str b=>obtain⟨t,rfl⟩:=rx;exact SeqAt.EqAt.bool_str a b t
  |_=>exact absurd (show false=true from fx) G1
 |int a=>
  obtain⟨t',rfl⟩:=ry;cases x with
  |non=>cases rx;exact SeqAt.EqAt.int_none a t'
  |bl b=>cases rx;exact SeqAt.EqAt.int_bool a t' b
  |int b=>obtain⟨t,rfl⟩:=rx;exact SeqAt.EqAt.int_int a t' b t
  |str b=>obtain⟨t,rfl⟩:=rx;exact SeqAt.EqAt.int_str a t' b t
  |_=>exact absurd (show false=true from fx) G1
 |str a=>
  obtain⟨t',rfl⟩:=ry;cases x with
  |non=>cases rx;exact SeqAt.EqAt.str_none a t'
  |bl b=>cases rx;exact SeqAt.EqAt.str_bool a t' b
  |int b=>obtain⟨t,rfl⟩:=rx;exact SeqAt.EqAt.str_int a t' b t
  |str b=>obtain⟨t,rfl⟩:=rx;exact SeqAt.EqAt.str_str a t' b t
  |_=>exact absurd (show false=true from fx) G1
 |_=>exact absurd (show false=true from fy) G1
def eqU(x:V)(u:KB):Bool:=match u with
 |.none=>eqV .non x
 |.bool b=>eqV (.bl b) x
 |.int i _=>eqV (.int i) x
 |.str z _=>eqV (.str z) x
 |_=>false
def rA{y:V}{u:KB}(r:RelV y u)(f:bN y=true):eqU x u=eqV y x:=by
 cases y with
 |non=>cases r;rfl
 |bl b=>cases r;rfl
 |int i=>obtain⟨t,rfl⟩:=r;rfl
 |str z=>obtain⟨t,rfl⟩:=r;rfl
 |_=>exact absurd (show false=true from f) G1
def jZ{x:V}:∀{xs:List V} {us:List KB},Vals xs us->xs.all bN=true->us.any (eqU x)=xs.any λy=>eqV y x
 |_,_,.nil,_=>rfl
 |y::xs,u::us,.cons r t,f=>by
  rw[HW,Hf]at f;rw[IB,IB,rA r f.1,jZ t f.2]
def mem_eqAt{A:Tq}{s:Os}{x:V}{v:KB}(rx:RelV x v)(fx:bN x=true):∀{xs:List V} {us:List KB},Vals xs us->xs.all bN=true->∀u∈us,SeqAt.EqAt A s u v (eqU x u)
 |_,_,.nil,_=>λu hu=>by cases hu
 |y::xs,u::us,.cons r t,f=>λu' hu=>by
  rw[HW,Hf]at f;rcases GP.mp hu with rfl|hu
  .rw[rA r f.1];exact eqAt_V r rx f.1 fx
  .exact mem_eqAt rx fx t f.2 u' hu
def inV(x:V)(xs:List V):Bool:=xs.any λy=>eqV y x
def rIn(K:Ex)(neg:Bool):R2:=λx y H Q=>∃p xs,y=.ref p/\(SqL K H p xs\/SqT K H p xs)/\bN x=true/\xs.all bN=true/\Q (.bl (if neg then !inV x xs else inV x xs)) H
def xT:OpR X (TK .NotIn) (rIn X.K true):=by
 intro pins s σ H x y v u Q I rx ry h;obtain⟨p,xs,rfl,hq,fx,fs,q⟩:=h;cases ry;rcases hq with hq|hq
 .obtain⟨its,r,pl,hz⟩:=I.list hq;refine SeqAt.notIn_listAt (eqU x) pl.isList (λw hw=>mem_eqAt rx fx r fs w (by simpa using hw)) #[.bl _,H,I,rfl,?_];rw[show its.toArray.any (eqU x)=its.any (eqU x)by simp,jZ r fs];exact q
 .obtain⟨its,r,pl,hz⟩:=I.tuple hq;refine SeqAt.notIn_tupleAt (eqU x) pl (λw hw=>mem_eqAt rx fx r fs w (by simpa using hw)) #[.bl _,H,I,rfl,?_];rw[show its.toArray.any (eqU x)=its.any (eqU x)by simp,jZ r fs];exact q
def xU:OpR X (TK .NotIn) (λx y H Q=>∃i j,x=.str i/\y=.str j/\Q (.bl (!(!(Builtin.Str.occurrences j i 0 j.length 1).isEmpty))) H):=by
 intro pins s σ H x y v u Q I rx ry h;obtain⟨i,j,rfl,rfl,q⟩:=h;obtain⟨t,rfl⟩:=rx;obtain⟨t',rfl⟩:=ry;exact notIn_str #[.bl _,H,I,rfl,q]
def rB:bM X (.type "list") (λxs H Q=>∃p ys,xs=[.ref p]/\(SqL X.K H p ys\/SqT X.K H p ys)/\∀l,H l=t9->Q (.ref l) (upd H l (.lst ys))):=by
 intro pins s σ H xs us Q I r h;obtain⟨p,ys,rfl,hq,q⟩:=h;obtain⟨u,rfl,rx⟩:=cb r;cases rx;have d_:∀(its:List KB),Vals ys its->ys.length<=sizeLine->∀(h':Heap) (c':Nat),(∀b o',s.heap.get? b=be o'->h'.get? b=be o')->
   h'.get? s.heap.objs.size=be {cls:=.type "list",dict:=t9,data:=.seq its.toArray c',slots:=[].toArray}->EP X pins σ Q (.ref s.heap.objs.size) {s with heap:=h'}:=λits r' hz h' c' kp e=>
  #[.ref s.heap.objs.size,_,I.laid (t':=s.toks) kp (GN _) (show ObjOk X.prog X.w _ h' _ (.lst ys)from#[hz,its,c',r',e]),rfl,q _ (I.hok.fresh (GN _))]
 rcases hq with hq|hq
 .obtain⟨its,r',pl,hz⟩:=I.list hq;have b7:=r'.length;obtain⟨o,ho,hc,n,hd⟩:=pl.isList;exact call_list_seq p (.inl rfl) ho hc hd (λh' c' kp e=>d_ its r' hz h' c' kp e) (by simp only[GX]<;>lia)
 .obtain⟨its,r',pl,hz⟩:=I.tuple hq;have b7:=r'.length;obtain⟨o,ho,hc,n,hd⟩:=pl;exact call_list_seq p (.inr rfl) ho hc hd (λh' c' kp e=>d_ its r' hz h' c' kp e) (by simp only[GX]<;>lia)
def tyV(K:Ex)(T:String)(x:V)(H:Hp):Prop:=match x with
 |.str _=>T="str"
 |.int _=>T="int"
 | .ref p=>(T="list"/\∃xs,SqL K H p xs)\/(T="tuple"/\∃o,K.lookup p=be o/\o.cls=.type "tuple"/\o.dict=t9)\/
   (T="dict"/\((∃a9,H p=be (.dK a9))\/∃a9,H p=be (.dT a9)))\/(T="set"/\∃S n,H p=be (.set S n))
 |_=>False
def xV{σ:St}{H:Hp}{T:String}{v:KB}(I:Inv X pins σ H s)(r:RelV x v)(ty:tyV X.K T x H):
  s.TypeIs v T/\∀a,v=.ref a->∃ob,s.heap.get? a=be ob/\ob.dict=none:=by
 cases x with
 |str z=>
  obtain⟨t,rfl⟩:=r;cases(show T="str" from ty);exact#[Vm s z t,λ_ e=>nomatch e]
 |int i=>
  obtain⟨t,rfl⟩:=r;cases(show T="int" from ty);exact#[typeIs_int s i t,λ_ e=>nomatch e]
 |ref p=>
  cases r;rcases ty with⟨rfl,xs,hq⟩|⟨rfl,o,hk,hc,hd⟩|⟨rfl,hk⟩|⟨rfl,S,n,hk⟩
  .obtain⟨its,_,pl,_⟩:=I.list hq;refine#[pl.isList.typeIs,λa e=>?_];cases e;obtain⟨o,n,e,c,hd,_⟩:=pl;exact#[o,e,hd]
  .refine#[#[o,I.kIn p o hk,hc],λa e=>?_];cases e;exact#[o,I.kIn _ o hk,hd]
  .have z:∃o,s.heap.get? p=be o/\o.ExactDict:=by
    rcases hk with⟨a9,hk⟩|⟨a9,hk⟩
    .obtain⟨_,_,_,_,o,_,_,e,ex,_⟩:=I.hok p _ hk;exact#[o,e,ex]
    .obtain⟨_,_,_,_,o,_,_,e,ex,_⟩:=I.hok p _ hk;exact#[o,e,ex]
   obtain⟨o,e,ex⟩:=z;refine#[#[o,e,ex.1],λa e2=>?_];cases e2;exact#[o,e,ex.2.1]
  .obtain⟨o,_,_,_,e,ex,_⟩:=I.hok p _ hk;refine#[#[o,e,ex.1],λa e2=>?_];cases e2;exact#[o,e,ex.2.1]
 |_=>exact False.elim ty
def tBM(K:Ex)(T:String)(r:V->List V->Hp->VK->Prop)(to:TE)(t:TA):TE:=λσ H Q=>to σ H λx H1=>tyV K T x H1/\t σ H1 λxs H2=>r x xs H2 Q
variable {o e:Tn}{es:List Tn}{to:TE}{t:TA}{name:F_}{apos cpos:Tw}{T id:String}{r:V->List V->Hp->VK->Prop}
def eg(pa:PlainAttrs T)(slot:Slot T name id)(NP:typeOf (.builtin id)=pure (.type "method_descriptor"))(hm:MtR X id r)(ho:PE X o to)(ha:PA X (e::es) t)
  (b8:autoParam (Tt o name X.env (Tv o X.env)=Tv o X.env) zA0)
  (d8:((Ua cpos (Tr (e::es) X.env)).all (λx=>!x.1)&&(Uv cpos (T7 [] X.env)).all (λx=>x.1.isSome)
   && decide ((e::es).length+([]:List UD).length+(if([]:List UD).isEmpty then 0 else 1)<30))=true:=by rfl)
  (c8:autoParam ((apos.endLine==cpos.line)=true) zA0) (hs:autoParam (zSE X e es) zA0) (n9:autoParam (zPL X cpos es) zA0):
  PE X (.Call (.Attribute o name apos) (e::es) [] cpos) (tBM X.K T r to t):=by
 intro pins s σ H Q I h;refine wpAny_Call_method_late b8 d8 c8 rfl (thn (ho pins s σ H _ I h) λv s1 b9=>?_);obtain⟨x,H1,I1,r1,ty,q1⟩:=b9;obtain⟨h1,h2⟩:=xV I1 r1 ty;refine#[T,id,pa,slot,NP,h1,h2,?_];have hA:=ha cpos pins s1 σ H1 _ I1 q1;rw[hs]at hA ⊢;refine Calls.callWith_builtin (by show(false||(Ua cpos (Tr es X.env)).any (·.1))=false;rw[n9]<;>rfl) (Calls.evalArgs_plain ?_);exact thn hA λus s2 ⟨vs,H2,I2,r2,q2⟩=>hm pins s2 σ H2 x vs v us Q I2 r1 r2 q2
end
def MtM(X:Cx)(id:String)(r:V->List V->Hp->VK->Prop):Prop:=
 ∀(pins:List (KF×TL)) (s:Os) (σ:St) (H:Hp) (x:V) (xs:List V) (v:KB) (us:List KB) (Q:VK),Inv X pins σ H s->RelV x v->Vals xs us->r x xs H Q->
  To (SB X.prog X.w) X.A (call (.builtin id) (v::us)) (EP X pins σ Q) X.xe s
def Vals.one:∀{x:V} {us:List KB},Vals [x] us->∃u,us=[u]/\RelV x u:=by
 intro x us h;cases h with
 |cons r h=>cases h;exact#[_,rfl,r]
def Vals.zero:∀{us:List KB},Vals [] us->us=[]
 |_,.nil=>rfl
def Vals.dropLast{xs:List V}{us:List KB}(h:Vals xs us):Vals xs.dropLast us.dropLast:=by
 induction h with
 |nil=>exact .nil
 |cons r t ih=>
  cases t with
  |nil=>exact .nil
  |cons q t'=>exact .cons r ih
section
variable {X:Cx}{pins:List (KF×TL)}{σ:St}{H:Hp}{s:Os}{l b:KF}{xs ys zs:List V}
variable{its:List KB}
def Inv.lset{its':List KB}{n:Nat}{f:Array KB->Array KB}{t':Nat}(I:Inv X pins σ H s)(hH:H l=be (.lst xs))
  (e:s.heap.get? l=be {cls:=.type "list",data:=.seq its.toArray n}) (hf:f its.toArray=its'.toArray) (hv:Vals ys its') (hz:ys.length<=sizeLine):
  Inv X pins σ (upd H l (.lst ys)) {s with heap:=s.heap.update l (Obj.mapSeq f),toks:=t'}:=by
 have q:=PySem.IsL.update e f;rw[hf]at q;refine I.write (x:=l) (e:=l) (by rw[hH];exact trivial) (.inl rfl) (λb' u hb hu=>(Heap.get?_update_other s.heap (Obj.mapSeq f) (Ne.symm hb)).trans hu) #[_,q] ?_;exact#[hz,its',_,hv,q]
def Inv.lnew{t':Nat}(I:Inv X pins σ H s)(hv:Vals ys its)(hz:ys.length<=sizeLine):
  Inv X pins σ (upd H s.heap.objs.size (.lst ys)) {s with heap:=s.heap.push {cls:=.type "list",data:=.seq its.toArray},toks:=t'}:=
 I.laid (λ_ _ q=>Heap.get?_push_of_some _ q) (GN _) #[hz,its,0,hv,Heap.get?_push_size _ rfl]
def Inv.fresh(I:Inv X pins σ H s):H s.heap.objs.size=none:=I.hok.fresh (GN _)
def Inv.lstM(I:Inv X pins σ H s)(hH:H l=be (.lst xs)):xs.length<=sizeLine/\∃(its:List KB) (n:Nat),Vals xs its/\xs.length=its.length/\s.heap.get? l=be {cls:=.type "list",data:=.seq its.toArray n}:=by
 obtain⟨z,its,n,r,e⟩:=I.hok l _ hH;exact#[z,its,n,r,r.length,e]
def xW{n:Nat}(h:n<=sizeLine):Builtin.List.listTooLong n=false:=by
 unfold Builtin.List.listTooLong;exact decide_eq_false KK
end
section
variable {X:Cx}
def xX:V->List V->Hp->VK->Prop:=λx vs H Q=>∃l xs y,x=.ref l/\vs=[y]/\H l=be (.lst xs)/\xs.length<sizeLine/\Q .non (upd H l (.lst (xs++[y])))
def kd:MtM X "list.append" xX:=by
 intro pins s σ H x vs v us Q I rx rv h;obtain⟨l,xs,y,rfl,rfl,hH,hz,q⟩:=h;cases rx;obtain⟨u,rfl,ru⟩:=rv.one;obtain⟨z,its,n,r,hl,e⟩:=I.lstM hH;refine call_meets F.slot_list_append #[_,e,rfl] F.entry_list_append (F.args_list_append_2 _ _) (PySem.list_append l its.toArray n u (by rw[GX];lia)) #[e,?_];refine#[.non,_,I.lset (its':=its++[u]) hH e K' (r.append (.cons ru .nil)) ?_,rfl,q];rw[G2,Jz];lia
def xY:V->List V->Hp->VK->Prop:=λx vs H Q=>∃l b xs zs,x=.ref l/\vs=[.ref b]/\H l=be (.lst xs)/\H b=be (.lst zs)/\xs.length+zs.length<=sizeLine/\Q .non (upd H l (.lst (xs++zs)))
def GF:MtM X "list.extend" xY:=by
 intro pins s σ H x vs v us Q I rx rv h;obtain⟨l,b,xs,zs,rfl,rfl,hH,hB,hz,q⟩:=h;cases rx;obtain⟨u,rfl,ru⟩:=rv.one;cases ru;obtain⟨z,its,n,r,hl,e⟩:=I.lstM hH;obtain⟨z2,k8,n2,r2,Nh,e2⟩:=I.lstM hB;have j6:its.toArray.size+k8.toArray.size<=sizeLine:=by rw[GX,GX];lia
 have L9:¬(!its.toArray.isEmpty&&Builtin.List.listTooLong (its.toArray.size+k8.toArray.size))=true:=by
  rw[xW j6,Bool.and_false];exact G1
 refine call_meets F.slot_list_extend #[_,e,rfl] F.entry_list_extend (F.args_list_extend_2 _ _)
  (AutoSeq1.list_extend_list_list_0 l its.toArray n b k8.toArray n2 L9 (by rw[GX];lia) KK) #[e,e2,?_]
 refine#[.non,_,I.lset (its':=its++k8) hH e K' (r.append r2) ?_,rfl,q];rw[G2];lia
def rCat:R2:=λx y H Q=>∃l b xs zs,x=.ref l/\y=.ref b/\H l=be (.lst xs)/\H b=be (.lst zs)/\xs.length+zs.length<=sizeLine/\∀p,H p=t9->Q (.ref p) (upd H p (.lst (xs++zs)))
def rC:OpR X (TV .Add) rCat:=by
 intro pins s σ H x y v u Q I rx ry h;obtain⟨l,b,xs,zs,rfl,rfl,hH,hB,hz,q⟩:=h;cases rx;cases ry;obtain⟨z,its,n,r,hl,e⟩:=I.lstM hH;obtain⟨z2,k8,n2,r2,Nh,e2⟩:=I.lstM hB;refine PySem.P.add_list e e2 ?_ (by rw[GX,GX];lia);have ea:its.toArray++k8.toArray=(its++k8).toArray:=K'
 rw[ea];exact#[.ref _,_,I.lnew (t':=s.toks) (r.append r2) (by rw[G2];lia),rfl,q _ I.fresh]
end
end L2
namespace Qb
open PySem PySem.W PySem.Calls PyProof.Rows
variable{P:Params}
def xZ{h:Heap}:∀(ns:List Int) (vs:List KB),WellAll P h vs (ns.map WData.int)->U' vs ns:=by
 intro ns;induction ns with
 |nil=>
  intro vs w;rw[HX]at w;cases w;exact .nil
 |cons n ns ih=>
  intro vs w;rw[G7]at w;cases w with
  |cons a b=>
   cases a;exact .cons _ _ (ih _ b)
variable{l:OpenLaw}
def ya{n:Nat}(hn:l.most=be n){h:Heap}{args:List WData}{K5:List KB}
  (H_:l.row.toRowW.claim.pre args=true) (NQ:WellAll P h K5 args):
  ∃a vs ns,K5=[Value.ref a]/\args=[WData.list (ns.map WData.int)]/\h.get? a=be {cls:=.type "list",data:=.seq vs.toArray}/\U' vs ns/\ns.length<=n:=by
 have Q6:WShape.hasAll [] args [.list .int]=true:=(pre_splitW H_).1;have hc:l.pre.holds [] {args:=args}=true:=(pre_splitW H_).2;obtain⟨d,r,rfl,h1,h2⟩:=hasAllW_cons Q6;obtain rfl:=hasAllW_nil h2;obtain⟨xs,rfl,h3⟩:=hasW_list h1;obtain⟨ns,rfl⟩:=items_int h3;have b7:ns.length<=n:=by
  unfold OpenLaw.pre at hc;have h4:(WTm.not (.lt (.lit (.int (n:Int))) (.len (.arg 0)))).holds [] {args:=[.list (ns.map .int)]}=true:=by
   have h4:=(holds_andW hc).1;rw[hn]at h4;exact h4
  have h5:=condW_of h4 (w_not (w_lt w_lit (w_len_list (w_arg rfl))));rw[GT]at h5;refine IC λq=>?_;have q':(n:Int)<((ns.length:Nat):Int):=KK
  first
   |(rw[decide_eq_true q']at h5;exact absurd h5 K3)
   |(simp at h5;lia)
 cases NQ with
 |cons w1 w2=>
  cases w2;cases w1 with
  |list ho I_=>exact#[_,_,ns,rfl,rfl,ho,xZ ns _ I_,b7]
def yb(l:OpenLaw)(args:List WData):l.row.toRowW.claim.post args (.bool true) args=true:=
 postW_of (r:=l.row.toRowW) (X:=(true==true))
  (show WShape.has [] (.bool true) .bool=true by first|rfl|decide|simp[WShape.has,WShape.arms,WShape.armsAll])
  (show(WTm.eq .res (.lit (.bool true))).value [] {args:=args,res:=be (.bool true),after:=args}=be (.bool (true==true))from w_eq_bool (w_res rfl) w_lit) rfl
def attach_call{n:Nat}{q:SZ}{k6:List F_}{XP:(F_->Option KB)->Heap->Prop}{YP:Tp->Heap->Prop}{d:DefRec}
  (hn:l.most=be n) (L_:d.params.defaults=[])
  (call:∀(w:Tp) (s₀ s₁:Os) (mg mb:F_->Option KB) (fa:KF) (o:TL) (pm cd doc:KB) (a:KF) (vs:List KB) (ns:List Int),
   Ground q k6 [] XP w s₀ mg mb s₁.heap->YP w s₁.heap->
   s₁.heap.get? fa=be o->o.data=.func (docDef d.name d.params d.body d.scope pm cd doc)->s₁.heap.CodeRec cd d.name->mg d.name=be (.ref fa)->
   s₁.heap.get? a=be {cls:=.type "list",data:=.seq vs.toArray}->U' vs ns->ns.length<=n->s₁.gens=[].toArray->
   UC (SB l.prog w) UH (.call (.ref fa) #[[.ref a],[]]) (λr s'=>r=.ok (.ret (.bool true))/\OldK s₁.heap s'.heap/\s'.os=s₁.os/\Us s'.gens) s₁):
  WalkO q k6 XP YP l.row.toRowW d [] (λf vs=>PySem.call f vs):=by
 intro w s₀ s₁ mg mb G Y fa o pm cd doc dV kV ho hd gV hD j9 hg args K5 as H_ Q7 SK NQ SM;obtain rfl:dV=.none:=Dflts.none hD L_;obtain rfl:kV=.none:=Dflts.noKw hD;obtain⟨a,vs,ns,rfl,rfl,K6,w9,b7⟩:=ya hn H_ NQ;refine enter_call (T8 (call w s₀ s₁ mg mb fa o pm cd doc a vs ns G Y ho (fd_plain hd) gV j9 K6 w9 b7 hg) λr s' hq=>?_);obtain⟨rfl,h2,h3,h4⟩:=hq;exact#[.inl #[.bool true,.bool true,[],rfl,λ_=>rfl,.bool true,yb l _,λ_=>#[List.Pairwise.nil,λ_ hm=>(nomatch hm)]],h2,h3,h4]
end Qb
namespace L2
open PySem PySem.Spec PyProof.Rows
def rD:∀{vs:List KB} {ns:List Int},U' vs ns->Vals (ns.map V.int) vs
 |_,_,.nil=>.nil
 |_,_,.cons n t h=>.cons #[t,rfl] (rD h)
def Only(H:Hp):Prop:=∀b,H b=t9\/∃o xs,H b=be (.frz o (.lst xs))
variable{P:SZ}{w:Tp}{k:Nat}{a:KF}
def yc{K:Ex}{mg mb:F_->Option KB}{CX:CXT}{fa:KF}{fd:Tu}{x:F_}{sp:Sp}{s₁:Os}{vs:List KB}{ns:List Int}
  (KX:K.In s₁.heap) (hns:s₁.heap.Ns Pi mg) (hb:s₁.heap.Ns Vo mb) (Q8:∀x:F_,x≠"__name__"->mb x=TN x) (NR:s₁.heap.NoLimit) (hg:s₁.gens=[].toArray)
  (ha:s₁.heap.get? a=be {cls:=.type "list",data:=.seq vs.toArray}) (hi:U' vs ns) (hl:ns.length<=sizeLine) (hr:Room k UH)
  (F:∀base:Heap,K.In base->base.Ns Pi mg->FnOk P w K mg base CX k fa fd [x] sp) (Ma:∀(s:Os) (u:KB),Ux s fd #[[u],[]] [(x,u)])
  (w6:∀H:Hp,Only H->SqL K H a (ns.map V.int)->sp [.ref a] H (λv _=>v=.bl true) λ_ _ _=>False)
  (NS:∀H e s',CX [] H s₁ (λ_ _ _=>False) e s'->False):
  UC (SB P w) UH (.call (.ref fa) #[[.ref a],[]]) (λr s'=>r=.ok (.ret (.bool true))/\OldK s₁.heap s'.heap/\s'.os=s₁.os/\Us s'.gens) s₁:=by
 have rv:=rD hi;have NT:=hi.length;have Mc:∀H:Hp,Only H->SqL K H a (ns.map V.int)->HOk P w H s₁.heap->(∀b,H b≠t9->b=a)->(H a≠t9->K.lookup a=t9)->
   UC (SB P w) UH (.call (.ref fa) #[[.ref a],[]]) (λr s'=>r=.ok (.ret (.bool true))/\OldK s₁.heap s'.heap/\s'.os=s₁.os/\Us s'.gens) s₁:=by
  intro H hO hS hok hA hK;have p7:∀{b:KF} {o:TL},s₁.heap.get? b=be o->H b=t9->(hidT s₁.heap H).get? b=be o:=λe n=>wc e n;have L7:∀{b:KF} {o:TL} {es:Array DictEntry} {ep:Nat},s₁.heap.get? b=be o->o.data=.dict es ep->H b=none:=λ{b o es ep} e d=>by
   cases q:H b with
   |none=>rfl
   |some u=>
    have e':b=a:=hA b (by rw[q];simp);subst e';rw[ha]at e;cases e;have d':Data.seq vs.toArray _=Data.dict es ep:=d;cases d'
  have Nj:∀{b:KF} {m:F_->Option KB},s₁.heap.Ns b m->(hidT s₁.heap H).Ns b m:=λ{b m} ⟨o,es,ep,e,d,r⟩=>#[o,es,ep,p7 e (L7 e d),d,r];have Qe:K.In (hidT s₁.heap H):=λb o e=>p7 (KX b o e) (by
   cases q:H b with
   |none=>rfl
   |some u=>
    have e':b=a:=hA b (by rw[q];simp);subst e';rw[hK (by rw[q];simp)]at e;cases e)
  have hM:Mod K mg (hidT s₁.heap H):=#[Qe,Nj hns,#[mb,Nj hb,Q8],let ⟨mc,h1,h2⟩:=NR;#[mc,Nj h1,h2]];have e0:Env0 P w K mg (hidT s₁.heap H) UH [] s₁ H:=#[rfl,hM,λb o e=>we e,IA (wa _ _),trivial,λb hb=>absurd (show b∈([]:List KF)from hb) K',hok,.of_eq hg];refine T8 ((F _ Qe (Nj hns)).run UH [] s₁ H #[[.ref a],[]] [.ref a] [.ref a] _ _ hr e0 (Ma s₁ (.ref a)) (.cons rfl .nil) (w6 H hO hS)) λr s' h=>?_;cases r with
  |error e=>exact(NS H e s' h).elim
  |ok fl=>
   cases fl with
   |next=>exact False.elim h
   |brk=>exact False.elim h
   |cont=>exact False.elim h
   |ret u=>
    obtain⟨v,H',os,bare,un,NU,r',q⟩:=h;have q':v=.bl true:=q;subst q';obtain rfl:u=Value.bool true:=r';refine#[rfl,OldK.of_keep λb o e=>?_,os,bare];cases q:H b with
    |none=>exact un.keep b o e q (by intro z;exact absurd (show b∈([]:List KF)from z) K') K'
    |some u=>
     rcases hO b with z|⟨ob,xs,z⟩
     .rw[q]at z;cases z
     .have z2:=un.frzs b ob _ z;obtain⟨e1,_⟩:=hok b _ z;obtain⟨e2,_⟩:=NU b _ z2;rw[e]at e1;cases e1;exact e2
 cases hk:K.lookup a with
 |some o=>
  have e:=KX a o hk;rw[ha]at e;cases e;refine Mc (λ_=>t9) (λ_=>.inl rfl) (.inr #[_,vs.toArray,_,hk,rfl,rfl,rfl,by rw[GX,NT];exact hl,by simpa using rv]) (λb u z=>by have z':(t9:Option HO)=be u:=z;cases z') (λb z=>absurd rfl z) λz=>absurd rfl z
 |none=>
  refine Mc (λb=>if b=a then be (.frz {cls:=.type "list",data:=.seq vs.toArray} (.lst (ns.map V.int)))else t9) (λb=>?_) (.inl (.inr #[{cls:=.type "list",data:=.seq vs.toArray},if_pos rfl])) (λb u z=>?_) (λb z=>?_) λ_=>hk
  .by_cases hb:b=a
   .exact .inr #[_,_,if_pos hb]
   .exact .inl (if_neg hb)
  .by_cases hb:b=a
   .have z':=(if_pos hb).symm.trans z;cases z';subst hb;exact#[ha,by rw[GT];exact hl,vs,_,rv,ha]
   .have z':=(if_neg hb).symm.trans z;cases z'
  .by_cases hb:b=a
   .exact hb
   .exact absurd (if_neg hb) z
def walk_of{l:IT}{n:Nat}{q:SZ}{k6:List F_}{XP:(F_->Option KB)->Heap->Prop}{YP:Tp->Heap->Prop}{d:DefRec}{K:Params->Ex}{CX:Tp->CXT}{sp:Tp->Sp}{x:F_}
  (hn:l.most=be n) (K4:n<=sizeLine) (L_:d.params.defaults=[]) (hr:Room k UH)
  (hY:∀(w:Tp) (h:Heap),YP w h->(K w.params).In h)
  (F:∀(w:Tp) (mg:F_->Option KB) (fa:KF) (h:Heap),(K w.params).In h->h.Ns Pi mg->mg d.name=be (.ref fa)->
   ∃fd:Tu,(∀(s:Os) (u:KB),Ux s fd #[[u],[]] [(x,u)])/\
    ∀base:Heap,(K w.params).In base->base.Ns Pi mg->FnOk l.prog w (K w.params) mg base (CX w) k fa fd [x] (sp w))
  (w6:∀(w:Tp) (H:Hp) (a:KF) (ns:List Int),ns.length<=n->Only H->SqL (K w.params) H a (ns.map V.int)->sp w [.ref a] H (λv _=>v=.bl true) λ_ _ _=>False)
  (NS:∀(w:Tp) (H:Hp) (s:Os) (e:KB) (s':Os),CX w [] H s (λ_ _ _=>False) e s'->False):
  JA q k6 XP YP l.row.toRowW d [] (λf vs=>PySem.call f vs):=by
 refine Qb.attach_call hn L_ λw s₀ s₁ mg mb fa o pm cd doc a vs ns G Y ho hd gV j9 K6 w9 b7 hg=>?_;have KX:=hY w _ Y;obtain⟨fd,hb,hF⟩:=F w mg fa _ KX G.T.g j9;exact yc KX G.T.g G.T.b G.T.builtins G.T.nolimit hg K6 w9 (GW b7 K4) hr hF hb (λH hO hS=>w6 w H a ns b7 hO hS) λH e s'=>NS w H s₁ e s'
def aO(s:SL)(j:Nat):SL:=match s with
 |.ClassDef _ _ _ body _ _ _ _ _ _ _=>body.getD j (.Pass #[0,0,0,0])
 |_=>.Pass #[0,0,0,0]
def bv(s:SL):Arguments:=match s with
 |.FunctionDef _ a _ _ _ _ _ _ _ _=>a
 |_=>{posonlyargs:=[],args:=[],vararg:=t9,kwonlyargs:=[],kw_defaults:=[],kwarg:=t9,defaults:=[]}
def aL(s:SL):List SL:=match s with
 |.FunctionDef _ _ b _ _ _ _ _ _ _=>b
 |_=>[]
def ag(s:SL):T3:=match s with
 |.FunctionDef _ _ _ _ _ _ sc _ _ _=>sc
 |_=>{kind:=.function,names:=[],isGenerator:=false,isCoroutine:=false}
abbrev E0:XK:=λ_ _ _=>False
structure FunG(K:Ex)(dV:KB)(x qual:Str)(st:SL)(f:KF)(fd:Tu):Prop where
 ex:∃(oc:KB) (od:Option KF) (kV doc pm:KB) (an:Option KF) (cdv ct:KB) (osl:Array (Option KB)),
  fd=fnOf x qual (bv st) (aL st) (ag st) dV kV doc pm an cdv ct/\K.lookup f=be #[oc,od,.func fd,osl]/\codeIn K cdv qual=true
 kp:keepIn K (.ref f)=true
abbrev Fun(K:Ex):F_->F_->SL->KF->Tu->Prop:=FunG K .none
section
variable {P:SZ}{w:Tp}{K:Ex}{mg:F_->Option KB}{base:Heap}
def Fun.binds{x qual:F_}{st:SL}{f:KF}{fd:Tu}{ps:List F_}(F:Fun K x qual st f fd)
  (h:∀(kV doc pm:KB) (an:Option KF) (cdv ct:KB) (us:List KB),us.length=ps.length->Uo (fnOf x qual (bv st) (aL st) (ag st) .none kV doc pm an cdv ct) #[us,[]]=pure (ps.zip us)):Binds K fd ps []:=by
 obtain⟨oc,od,kV,doc,pm,an,cdv,ct,osl,rfl,lk,gV⟩:=F.ex;exact .all (h kV doc pm an cdv ct)
def gP{x qual:F_}{st:SL}{f:KF}{oc:KB}{od an:Option KF}{osl:Array (Option KB)}{kV doc pm cdv ct:KB}(l:K.lookup f=be #[oc,od,.func (fnOf x qual (bv st) (aL st) (ag st) .none kV doc pm an cdv ct),osl])
  (c:codeIn K cdv qual=true) (k:keepIn K (.ref f)=true):Fun K x qual st f (fnOf x qual (bv st) (aL st) (ag st) .none kV doc pm an cdv ct):=#[#[oc,od,kV,doc,pm,an,cdv,ct,osl,rfl,l,c],k]
end
def ke{A:Tq}(hr:Room k A):A.units+1<UM:=JB (Nat.add_le_add_left (K3:1<=64) _) hr.units
def yd{n:Nat}(h:n<=1000):n<sizeLine:=JB h K3
def ite2{c A B:Prop}[Decidable c](h1:c->A)(h2:¬c->B):if c then A else B:=by
 by_cases h:c
 .rw[if_pos h];exact h1 h
 .rw[if_neg h];exact h2 h
def Same(H H':Hp):Prop:=∀b o,H b=be o->H' b=be o
def Same.refl(H:Hp):Same H H:=λ_ _ h=>h
variable{H:Hp}
def Same.trans{H1 H2:Hp}(a:Same H H1)(b:Same H1 H2):Same H H2:=λc o h=>b c o (a c o h)
variable{H':Hp}
def Same.free(e:Same H H'){l:KF}(h:H' l=Option.none):H l=Option.none:=by
 cases q:H l with
 |none=>rfl
 |some o=>
  rw[e l o q]at h;cases h
def Same.seq{K:Ex}{xs:List V}(e:Same H H')(h:SqL K H a xs):SqL K H' a xs:=by
 rcases h with(h|⟨o,h⟩)|h
 .exact .inl (.inl (e _ _ h))
 .exact .inl (.inr #[o,e _ _ h])
 .exact .inr h
section
variable {κ:Type}[DecidableEq κ]
def valV(a9:List (κ×V))(k:κ):Option V:=(a9.find? λkv=>decide (kv.1=k)).map (·.2)
def kg{p:κ×V}{r:List (κ×V)}{k:κ}(e:p.1=k):valV (p::r) k=be p.2:=by simp[valV,HY,e]
def kh{p:κ×V}{r:List (κ×V)}{k:κ}(e:¬p.1=k):valV (p::r) k=valV r k:=by simp[valV,HY,e]
def RelO.getD{o:Option V}{u:Option KB}{d:V}{d':KB}(r:RelO o u)(rd:RelV d d'):RelV (o.getD d) (u.getD d'):=by
 cases o with
 |none=>cases u with
  |none=>exact rd
  |some _=>exact(show False from r).elim
 |some _=>cases u with
  |none=>exact(show False from r).elim
  |some _=>exact r
def KV.val{a9:List (κ×V)}{vs:List (κ×KB)}(r:KV a9 vs)(k:κ):RelO (valV a9 k) (UO vs k):=by
 unfold KV at r;induction r with
 |nil=>exact True.intro
 |@cons p q ps qs h t ih=>
  obtain⟨h1,h2⟩:=h;by_cases e:p.1=k
  .have e':q.1=k:=h1.symm.trans e;have b:UO (q::qs) k=be q.2:=by simp[UO,HY,e']
   rw[kg e,b];exact h2
  .have e':¬q.1=k:=λz=>e (h1.trans z);have b:UO (q::qs) k=UO qs k:=by simp[UO,HY,e']
   rw[kh e,b];exact ih
end
def rE{k:Key}{u:KB}(r:RelV (kV k) u):(bL P w).is k u=true:=by
 cases k with
 |inl i=>obtain⟨t,e⟩:=(show ∃t,u=Value.int i t from r);subst e;exact mixKind_int P w i t
 |inr x=>obtain⟨t,e⟩:=(show ∃t,u=Value.str x t from r);subst e;exact vY P w x t
def rF{P:SZ}{w:Tp}:∀{ks:List Key} {us:List KB},Vals (ks.map kV) us->ItemsAre (bL P w) ks us
 |[],_,r=>by rw[HX]at r;cases r;exact .nil
 |k::ks,_,r=>by
  rw[G7]at r;cases r with
  |cons h t=>exact .cons (rE h) (rF t)
abbrev KT(H:Hp):List (List Key×V)->List (List Key×KF×KB)->Prop:=Paired λp q=>p.1=q.1/\H q.2.1=be (.tup (p.1.map kV))/\RelV p.2 q.2.2
variable{xs:List (List Key×KF×KB)}{a9:List (List Key×V)}
def KT.val(r:KT H a9 xs)(k:List Key):RelO (valV a9 k) ((UN xs k).map (·.2)):=by
 induction r with
 |nil=>exact True.intro
 |@cons p q ps qs h t ih=>
  obtain⟨h1,_,h2⟩:=h;by_cases e:p.1=k
  .have e':q.1=k:=h1.symm.trans e;have b:UN (q::qs) k=be q.2:=by simp[UN,HY,e']
   rw[kg e,b];exact h2
  .have e':¬q.1=k:=λz=>e (h1.trans z);have b:UN (q::qs) k=UN qs k:=by simp[UN,HY,e']
   rw[kh e,b];exact ih
def KT.keeps(r:KT H a9 xs)(ht:∀b ys,H b=be (.tup ys)->H' b=be (.tup ys)):KT H' a9 xs:=
 Paired.mapP r λ_ _ z=>#[z.1,ht _ _ z.2.1,z.2.2]
section
variable {P:SZ}{w:Tp}{H:Hp}{h:Heap}{a:KF}
def rG{u:HO}(ok:HOk P w H h)(e:Rd H a u):ObjOk P w H h a u:=e.ok ok
def ye{a9:List (Key×V)}(ok:HOk P w H h)(e:Rd H a (.dK a9)):a9.length<=sizeLine/\(a==TZ)=false/\∃vs,KV a9 vs/\h.DictOf (bL P w) a vs:=
 show ObjOk P w H h a (.dK a9)from rG ok e
def key_of{ks:List Key}(ok:HOk P w H h)(e:H a=be (.tup (ks.map kV))):(Ut (bL P w)).is h ks a:=by
 obtain⟨_,its,r,o,h1,h2,n,h3⟩:=(show ObjOk P w H h a (.tup (ks.map kV))from ok a _ e);exact#[o,its.toArray,n,h1,h2,h3,by simpa using rF r]
variable{a9:List (List Key×V)}
def rH(ok:HOk P w H h)(e:Rd H a (.dT a9)):a9.length<=sizeLine/\(a==TZ)=false/\
  ∃xs,KT H a9 xs/\h.DictOfH (Ut (bL P w)) a xs:=by
 obtain⟨z,y,xs,r,o,es,ep,h1,h2,h3,h4,h5⟩:=(show ObjOk P w H h a (.dT a9)from rG ok e);refine#[z,y,xs,r,o,es,ep,h1,h2,h3,h4,λx hx=>?_,h5];have all:∀{l:List (List Key×V)} {m:List (List Key×KF×KB)},KT H l m->∀x∈m,(Ut (bL P w)).is h x.1 x.2.1:=by
  intro l m q;induction q with
  |nil=>intro x hx;exact nomatch hx
  |@cons p q ps qs hq t ih=>
   intro x hx;rcases GP.mp hx with e|hx
   .subst e;exact key_of ok (by rw[<-hq.1];exact hq.2.1)
   .exact ih x hx
 exact all r x hx
def yf(ok:HOk P w H h)(e:H a=be (.dT a9)):a9.length<=sizeLine/\(a==TZ)=false/\
  ∃xs,KT H a9 xs/\h.DictOfH (Ut (bL P w)) a xs:=rH ok (.inl e)
end
def DGet(H:Hp)(a:KF)(y:V)(r:Option V):Prop:=
 (∃a9 k,Rd H a (.dK a9)/\y=kV k/\r=valV a9 k)\/∃a9 k b,Rd H a (.dT a9)/\y=.ref b/\H b=be (.tup (k.map kV))/\r=valV a9 k
def DGet.t{b:KF}{k:List Key}(e:H a=be (.dT a9))(eb:H b=be (.tup (k.map kV))):DGet H a (.ref b) (valV a9 k):=.inr #[a9,k,b,.inl e,rfl,eb,rfl]
section
variable {X:Cx}{pins:List (KF×TL)}{σ:St}{H:Hp}{s:Os}{a:KF}{y v:V}{u r:KB}{o:Option V}{A:Tq}{E:KB->Os->Prop}
def Inv.big(I:Inv X pins σ H s):TZ<s.heap.objs.size:=by
 have h:Pi<s.heap.objs.size:=(I.mod.glob.keeps I.bk).lt;exact JC K3 h
def yg{h':Heap}{t':Nat}{ob:HO}(I:Inv X pins σ H s)(mu:Mut (H a))(hs:Heap.SameBut a s.heap h')(he:∃q,h'.get? a=be q)(new:ObjOk X.prog X.w (upd H a ob) h' a ob):
  Inv X pins σ (upd H a ob) {s with heap:=h',toks:=t'}:=
 I.write (x:=a) (e:=a) mu (.inl rfl) (λb q hb z=>(hs.2 b hb).trans z) he new
end
def yh(h:Heap)(hb:TZ<h.objs.size):ObjOk P w H (h.push {cls:=.type "dict",data:=.dict [].toArray}) h.objs.size (.dT []):=
 #[Hb _,beq_eq_false_iff_ne.mpr (Ne.symm (GV hb)),[],.nil,_,[].toArray,0,Heap.get?_push_size _ rfl,#[rfl,rfl,rfl],rfl,rfl,JD]
def yi:TE:=λ_ H Q=>∀p,H p=t9->Q (.ref p) (upd H p (.dT []))
section
variable {X:Cx}{pos:Tw}
def pe_dnewT:PE X (.Dict [] [] pos) yi:=λpins s σ H Q I h=>
 wpAny_Dict_empty #[.ref s.heap.objs.size,_,I.laid (a:=s.heap.objs.size) (o:=.dT []) (t':=s.toks) (λ_ _ q=>Heap.get?_push_of_some _ q) (GN _) (yh s.heap I.big),rfl,h _ (I.hok.fresh (GN _))]
end
structure M1(X:Cx)(o:Tn)(m:Str)(apos:Tw)(e:Tn)(cpos:Tw):Prop where
 base:Tt o m X.env (Tv o X.env)=Tv o X.env
 few:((Ua cpos (Tr [e] X.env)).all (λx=>!x.1)&&(Uv cpos (T7 [] X.env)).all (λx=>x.1.isSome)
  && decide (([e]:List Tn).length+([]:List UD).length+(if([]:List UD).isEmpty then 0 else 1)<30))=true
 line:(apos.endLine==cpos.line)=true
 trees:Ua cpos (Tr [e] X.env)=[(false,Tv e X.env)]
structure M2(X:Cx)(o:Tn)(m:Str)(apos:Tw)(e f:Tn)(cpos:Tw):Prop where
 base:Tt o m X.env (Tv o X.env)=Tv o X.env
 few:((Ua cpos (Tr [e,f] X.env)).all (λx=>!x.1)&&(Uv cpos (T7 [] X.env)).all (λx=>x.1.isSome)
  && decide (([e,f]:List Tn).length+([]:List UD).length+(if([]:List UD).isEmpty then 0 else 1)<30))=true
 line:(apos.endLine==cpos.line)=true
 trees:Ua cpos (Tr [e,f] X.env)=[(false,Tv e X.env),(false,Tv f X.env)]
section
variable {X:Cx}{pins:List (KF×TL)}{σ:St}{H:Hp}{s:Os}{a:KF}{y d:V}{u r:KB}{o:Option V}{A:Tq}{E:KB->Os->Prop}
def yj{Q:KB->Os->Prop}(hu:A.units+1<UM)(I:Inv X pins σ H s)(g:DGet H a y o)(ry:RelV y u)(rd:RelV d r)(h:∀w' s',Inv X pins σ H s'->RelV (o.getD d) w'->Q w' s'):
  To (SB X.prog X.w) A (call (.builtin "dict.get") [.ref a,u,r]) Q E s:=by
 rcases g with⟨a9,k,e,ey,l⟩|⟨a9,k,b,e,ey,eb,l⟩
 .subst ey;obtain⟨z,hd,vs,t_,dd⟩:=ye I.hok e;refine U8 PySem.F.slot_dict_get dd.typeIs PySem.F.entry_dict_get (PySem.F.args_dict_get_3 _ _ _) (meets_dict_get_default (bL X.prog X.w) a (rE ry) hd r) #[_,dd.mapOf,h _ _ (I.tok _) ?_];rw[l];exact(t_.val k).getD rd
 .subst ey;cases(show u=Value.ref b from ry);obtain⟨z,hd,xs,t_,dd⟩:=rH I.hok e;refine U8 PySem.F.slot_dict_get dd.typeIs PySem.F.entry_dict_get (PySem.F.args_dict_get_3 _ _ _) (meetsH_dict_get_default (Ut (bL X.prog X.w)) a b hd r) #[Vn hu,k,xs,key_of I.hok eb,dd,h _ _ (I.tok _) ?_];rw[l];exact(t_.val k).getD rd
end
end L2
end
section
open PySem PySem.Spec PyProof.Rows L2
namespace Exc
open PySem PySem.Spec PyProof.Rows PySem.W L2
def aM:List KB->Bool
 |.ref _::r=>aM r
 |l=>l==[.type "ValueError",.type "Exception",.type "BaseException",.type "object"]
def ki(self:KB):∀{l:List KB},aM l=true->refuseLoop self "__setattr__" l=pure ()
 |.ref c::r,e=>by rw[refuseLoop_ref];exact ki self (by unfold aM at e;exact e)
 |[],e=>by simp[aM]at e
 |.type n::r,e=>by
  have e':(Value.type n::r)=[.type "ValueError",.type "Exception",.type "BaseException",.type "object"]:=by simpa[aM]using e
  rw[e'];exact PySem.F.store_ValueError.passes self
 |.none::r,e=>by simp[aM]at e
 |.bool _::r,e=>by simp[aM]at e
 |.int _ _::r,e=>by simp[aM]at e
 |.float _ _::r,e=>by simp[aM]at e
 |.str _ _::r,e=>by simp[aM]at e
 |.bytes _ _::r,e=>by simp[aM]at e
 |.builtin _::r,e=>by simp[aM]at e
def eA{T:String}(hT:[Value.type "ValueError",.type "Exception",.type "BaseException",.type "object"].contains (.type T)=true):∀{l:List KB},aM l=true->l.contains (.type T)=true
 |.ref c::r,e=>by rw[IU,eA hT (l:=r) (by unfold aM at e;exact e),ID]
 |[],e=>by simp[aM]at e
 |.type n::r,e=>by
  have e':(Value.type n::r)=[.type "ValueError",.type "Exception",.type "BaseException",.type "object"]:=by simpa[aM]using e
  rw[e'];exact hT
 |.none::r,e=>by simp[aM]at e
 |.bool _::r,e=>by simp[aM]at e
 |.int _ _::r,e=>by simp[aM]at e
 |.float _ _::r,e=>by simp[aM]at e
 |.str _ _::r,e=>by simp[aM]at e
 |.bytes _ _::r,e=>by simp[aM]at e
 |.builtin _::r,e=>by simp[aM]at e
section
variable {prog:SZ}{w:Tp}{A:Tq}{E:KB->Os->Prop}{s:Os}{K:Ex}{x C:KF}{ox:TL}{cd:U0}{name:F_}{v:KB}{vs:Array KB}
def yk{Q:Unit->Os->Prop}(X:K.In s.heap)(hx:s.heap.get? x=be ox)(g9:ox.cls=.ref C)(w_:ox.data=.fields vs)(hd:ox.dict=t9)(hc:clsIn K C=be cd)(hm:aM cd.mro=true)(hh:cd.hasDict=true)
  (hs:findIn K (.ref C) "__setattr__"=be (be (.builtin "object.__setattr__"))) (hf:findIn K (.ref C) name=be t9)
  (h:∀h',h'.get? x=be {ox with dict:=be s.heap.objs.size}->h'.Ns1 s.heap.objs.size (λy=>if y=name then be v else t9)->(∀b o,b≠x->s.heap.get? b=be o->h'.get? b=be o)->∀tk,Q () {s with heap:=h',toks:=tk}):
  To (SB prog w) A (Vq (.ref x) name v) Q E s:=by
 have hn:notCls ox=true:=by unfold notCls;rw[w_]
 have I:InstAt s.heap x ox C none:=#[hx,g9,hn,by rw[hd];trivial];refine set_plain X I hs ?_;have SF:=PySem.F.store_object;have ne:cd.mro.isEmpty=false:=Ni
 have sub:Looks (SB prog w) s.heap (UE (.ref x) (.type "object")) true:=I.type.andThen (looks_mroIn X SO);refine Ug SF.slot.plain SF.entry (@check_slot (SB prog w) _ _ _ "object.__setattr__" "object" "__setattr__" (.ref x) [.str name s.toks,v] [] _ SF.kind SF.split sub (SF.args (.ref x) (.str name s.toks) v) ?_);have K8:Looks (SB prog w) s.heap (mroOf (.ref C)) cd.mro:=(looks_clsIn X hc).andThen .now;rw[osa_eq,refuse_eq];refine KM (KM (I.type.here (s:={s with toks:=s.toks+1}) (KM (K8.here (s:={s with toks:=s.toks+1}) ?_))));rw[ki _ hm];refine P3 (KM (I.type.here (s:={s with toks:=s.toks+1}) (KM ((looks_findIn X hf).here (s:={s with toks:=s.toks+1}) (KM (Looks.now.here (s:={s with toks:=s.toks+1}) ?_))))));obtain⟨oc,Qf,Qg,osl⟩:=ox;dsimp only at g9 hd w_;subst g9 hd w_;refine KM (P3 (KM (KM (UQ hx (KM ((looks_clsIn X hc).here (s:={s with toks:=s.toks+1}) ?_))))));rw[hh];rw[if_neg K3];have hx₁:(s.heap.push {cls:=.type "dict",data:=.dict [].toArray}).get? x=be #[.ref C,t9,.fields vs,osl]:=Heap.get?_push_of_some _ hx;have Qh:x≠s.heap.objs.size:=GV (Heap.lt_size hx);show To _ _ (do
  let d <-alloc {cls:=Value.type "dict",data:=Data.dict [].toArray}
  update x λo=>{cls:=o.cls,dict:=be d,data:=o.data,slots:=o.slots}
  dictMade (.ref C) x d) _ _ _
 refine KM (wpAny_alloc' ?_);refine KM (wpAny_update' hx₁ ?_);refine P3 ?_;have Q9:((s.heap.push {cls:=.type "dict",data:=.dict [].toArray}).update x λo=>{cls:=o.cls,dict:=be s.heap.objs.size,data:=o.data,slots:=o.slots}).get? s.heap.objs.size
   =be {cls:=.type "dict",data:=.dict [].toArray}:=
  (Heap.get?_update_ne _ _ _ _ Qh.symm).trans (Heap.get?_push_at rfl rfl)
 have Q_:((s.heap.push {cls:=.type "dict",data:=.dict [].toArray}).update x λo=>{cls:=o.cls,dict:=be s.heap.objs.size,data:=o.data,slots:=o.slots}).Ns s.heap.objs.size (λ_=>t9):=
  #[_,[].toArray,_,Q9,rfl,λe he=>absurd he K',λ_=>rfl]
 show To _ _ (Builtin.ObjectAttr.storeInDict s.heap.objs.size (.str name s.toks) name v) _ _ _;unfold Builtin.ObjectAttr.storeInDict Builtin.ObjectAttr.newKeyGuard;refine KM (P3 (KM (U1 (Heap.Ns1.of_empty Q_) λh' g8 hs=>?_)));obtain⟨oD,P7,P8,L4,L5,L6⟩:=g8.count (Within.cons name v Within.nil);refine KM (UI L4 (by rw[L5];exact UK (GW L6 (by rw[GU,List.length_nil,Ur];lia))) ?_);refine P3 (h h' ?_ g8 (λb o hb q=>?_) _)
 .exact(hs.2 x Qh).trans (Heap.get?_update_self _ hx₁ rfl)
 .exact(hs.2 b (GV (Heap.lt_size q))).trans ((Heap.get?_update_ne _ _ _ _ hb).trans (Heap.get?_push_of_some _ q))
variable{Q:KB->Os->Prop}
def yl{od:TL}{v9:Bool}(X:K.In s.heap)(I:InstAt s.heap x ox C (be od))(hc:clsIn K C=be cd)(hm:aM cd.mro=true)
  (Ra:findIn K (.ref C) "__getattribute__"=be (be (.builtin "BaseException.__getattribute__"))) (Rb:findIn K (.ref C) "__getattr__"=be t9)
  (hf:findObj K C (be od) name=be (.value v)) (hh:handedIn v=true) (h:∀tk,Q v {s with toks:=tk}):To (SB prog w) A (U6 (.ref x) name v9) Q E s:=by
 have FB:=PySem.F.attr_ValueError;obtain⟨hp,g,d,t,os⟩:=s;have L0:=I.type (M:=SB prog w);have L1:=looks_findIn (M:=SB prog w) X Ra;have L2:=looks_findIn (M:=SB prog w) X Rb;have L3:=looks_find (M:=SB prog w) X I hf;have f3:=FB.ga.bind (.ref x);have ne:cd.mro.isEmpty=false:=Ni
 have sub:Looks (SB prog w) hp (UE (.ref x) (.type "BaseException")) true:=I.type.andThen (looks_mroIn X SO);unfold U6 getAttrBy;refine KM (wpAny_mkText (TR (KM (L0.at (KM (L1.at ?_))))));dsimp only;have KH:(onTheHeap (Value.ref C)&&Value.builtin "BaseException.__getattribute__"==Value.builtin "object.__getattribute__")=false:=by
  have n5:(Value.builtin "BaseException.__getattribute__"==Value.builtin "object.__getattribute__")=false:=K7
  rw[n5];rfl
 have Rc:(v9&&onTheHeap (Value.builtin "BaseException.__getattribute__"))=false:=by cases v9<;>rfl
 rw[KH,if_neg G1];unfold getAttrByItsOwn hookBefore;rw[show onTheHeap (Value.ref C)=true from rfl,if_pos rfl];refine KM (L2.at ?_);unfold callGetattribute;rw[Rc,if_neg G1];unfold boundAndCalled;refine KM (wpAny_attempt (TR (KM (Va f3 ?_))));refine T_ (Ug FB.ga.plain PySem.F.entry_bexc_ga (@check_slot (SB prog w) _ _ _ "BaseException.__getattribute__" "BaseException" "__getattribute__" (.ref x) [.str name t] [] _ K7 K7 sub (PySem.F.args_bexc_ga _ _) ?_));unfold Builtin.«object.__getattribute__»;refine KM (Va (a:=(Value.ref x,[Value.str name t])) rfl ?_);refine KM (Va (a:=name) rfl ?_);refine KM (L0.at (KM (L3.at ?_)));refine P3 ?_;show To _ _ (handedOut v) _ _ _;rw[handedOut_of hh];exact P3 (h _)
def ym{rest:List KB}{t0:KF}{a1 a2 a3 a4 a5:KB}(X:K.In s.heap)(hx:s.heap.get? x=be ox)(g9:ox.cls=.ref C)(w_:ox.data=.fields [.ref t0,a1,a2,a3,a4,a5].toArray)(hc:clsIn K C=be cd)(hm:aM cd.mro=true)(hl:rest.length<=sizeLine)
  (h:∀h',h'.get? x=be {ox with data:=.fields [.ref s.heap.objs.size,a1,a2,a3,a4,a5].toArray}->(∀b o,b≠x->s.heap.get? b=be o->h'.get? b=be o)->Q .none {s with heap:=h'}):
  To (SB prog w) A (call (.builtin "ValueError.__init__") (.ref x::rest)) Q E s:=by
 have F:=PySem.F.excBase_ValueError;have hn:notCls ox=true:=by unfold notCls;rw[w_]
 have ht:Looks (SB prog w) s.heap (typeOf (.ref x)) (.ref C):=g9 ▸ (Looks.ld hx).andThen .now;have ne:cd.mro.isEmpty=false:=Ni
 have sub:Looks (SB prog w) s.heap (UE (.ref x) (.type "ValueError")) true:=ht.andThen (looks_mroIn X SO);have Rf:∀{Q:Unit->Os->Prop} {E:KB->Os->Prop} {A:Tq},Q () s->To (SB prog w) A (checkBuiltinCall "ValueError.__init__" #[.ref x::rest,[]]) Q E s:=λ{Q E A} hq=>by
  have NV:=F.noStar;simp only[checkBuiltinCall,F.initKind,F.initSplit,F.initRow];refine KM (sub.here ?_);obtain⟨hp,g,d,t,os⟩:=s;have Lc:=looks_clsIn (M:=SB prog w) X hc
  repeat(first|(with_reducible refine TM hx ?_;rw[g9])|(with_reducible refine Lc.here ?_)|wp_step)
  refine wpAny_onRaise ?_;rw[show ∀(a b:String) (n:Nat),Bind.check #[.positional,"*","ValueError",.self,[#["args",.varPos,false]]] a b n (Iq (λx=>x.fst) ({pos:=Value.ref x::rest}:Args).kw)=pure ()from
   λa b n=>check_star_args _ _ _ _ _ _]
  exact P3 hq
 refine T_ (Ug F.init.plain F.initEntry (Rf ?_));obtain⟨hp,g,d,t,os⟩:=s;obtain⟨oc,Qf,Qg,osl⟩:=ox;dsimp only at g9 w_ hx h;subst g9 w_
 wp_walk
 have hx₁:=Heap.get?_push_of_some {cls:=Value.type "tuple",data:=Data.seq rest.toArray} hx;refine h _ ?_ (λb o hb q=>?_)
 .rw[Heap.get?_update_self _ hx₁ rfl];rfl
 .rw[Heap.get?_update_other _ _ (Ne.symm hb)];exact Heap.get?_push_of_some _ q
end
abbrev veLine:List KB:=[.type "ValueError",.type "Exception",.type "BaseException",.type "object"]
section
variable {prog:SZ}{w:Tp}{A:Tq}{E:KB->Os->Prop}{h:Heap}{g:Array Vf}{d:Drawn}{t:Nat}{os:OsState}{K:Ex}
variable {nm q:F_}{C N fI:KF}{bs bm:List KB}{hdct:Bool}{sn:List F_}{sub:List KB}{ab:Bool}{col:Option Bool}{dd:Option KF}{k0 k1 k2 k3 k5:Option KB}{rest:List KB}
def yn{Q:Fin->Os->Prop}(X:K.In h)(T:OwnTail h veLine bm)(hC:h.get? C=be (TQ nm q C N bs bm hdct sn sub ab col dd k0 k1 k2 k3 k5 "ValueError.__new__"))
  (hi:findIn K (.ref C) "__init__"=be (be (.ref fI))) (hf:typeIn K (.ref fI)=be (.type "function"))
  (hq:∀h' e,Heap.MadeExcOf h h' e (.ref C) rest->To (SB prog w) A (call (.ref fI) (.ref e::rest)) (λr s'=>r=.none/\Q (.done (.ret (.ref e))) s') E #[h',g,d,t,os]) (hl:rest.length<=sizeLine):
  To (SB prog w) A (Builtin.«type.__call__» #[.ref C::rest,[]]) Q E #[h,g,d,t,os]:=by
 have F:=PySem.F.excBase_ValueError
 repeat(first|(with_reducible refine TM hC ?_)|(with_reducible refine wpAny_madeBy_exc hC ?_)|wp_step)
 refine codeAny_call_builtin_code (Code.quiet_builtin _ F.quiet) (wpAny_check_new_subT F T hC (codeAny_exc_new_subT F T hC ?_ hl));have kp:∀b o,h.get? b=be o->((h.push {cls:=.type "tuple",data:=.seq rest.toArray}).push {cls:=.ref C,data:=.fields [.ref h.objs.size,.none,.none,.none,.bool false,.none].toArray}).get? b=be o:=λb o e=>Heap.get?_push_of_some _ (Heap.get?_push_of_some _ e);have Rg:=kp _ _ hC;have X1:K.In _:=X.keeps kp;have he:((h.push {cls:=.type "tuple",data:=.seq rest.toArray}).push {cls:=.ref C,data:=.fields [.ref h.objs.size,.none,.none,.none,.bool false,.none].toArray}).get? (h.objs.size+1)=be {cls:=.ref C,data:=.fields [.ref h.objs.size,.none,.none,.none,.bool false,.none].toArray}:=by heap_get
 have Rh:(Value.ref C::bm).contains (.ref C)=true:=K'
 have L1:=looks_findIn (M:=SB prog w) X1 hi;have L2:=bind_fn (M:=SB prog w) X1 (.ref (h.objs.size+1)) hf;show To _ _ _ _ _ _;unfold UE
 repeat(first|(with_reducible refine TM he ?_)|(with_reducible refine Uk Rg ?_;rw[Rh])|wp_step)
 refine L1.at ?_;refine TR (KM (L2.at ?_));refine KM (TF (hq _ (h.objs.size+1) #[kp,Heap.get?_none_of_le (HK _),h.objs.size,he,Heap.get?_none_of_le (GN _),Heap.get?_push_of_some _ (Heap.get?_push_at rfl rfl)]) (λr s' hr=>?_) λ_ _ x=>x);obtain⟨rfl,hQ⟩:=hr;refine P3 ?_;exact P3 hQ
def yo{Q:KB->Os->Prop}(X:K.In h)(T:OwnTail h veLine bm)(hC:h.get? C=be (TQ nm q C N bs bm hdct sn sub ab col dd k0 k1 k2 k3 k5 "ValueError.__new__"))
  (hi:findIn K (.ref C) "__init__"=be (be (.ref fI))) (hf:typeIn K (.ref fI)=be (.type "function"))
  (hq:∀h' e,Heap.MadeExcOf h h' e (.ref C) rest->To (SB prog w) (A.under (.builtin "type.__call__" #[.ref C::rest,[]])) (call (.ref fI) (.ref e::rest)) (λr s'=>r=.none/\Q (.ref e) s') E #[h',g,d,t,os]) (hl:rest.length<=sizeLine):
  To (SB prog w) A (call (.ref C) rest) Q E #[h,g,d,t,os]:=by
 have f1:=tc_lookup;have f2:=tc_bind (.ref C);have hT:(#[h,g,d,t,os]:Os).TypeIs (.ref C) "type":=#[_,hC,rfl];refine T_ (codeAny_of_tree ?_);show To _ _ (callAny (.ref C) _) _ _ _
 repeat(any_goals (first|(with_reducible refine TM hC ?_)|assumption|wp_step))
 exact#[rfl,codeAny_call_builtin_at (Code.quiet_builtin _ K7) entry_typeCall (wpAny_check_type_call_sub hC (yn X T hC hi hf (λh' e hm=>hq h' e hm) hl))]
end
section
variable {prog:SZ}{w:Tp}{A:Tq}{E:KB->Os->Prop}{s:Os}{env:Um}
variable {nm q:F_}{C N:KF}{bs bm:List KB}{hdct:Bool}{sn:List F_}{sub:List KB}{ab:Bool}{col:Option Bool}{dd:Option KF}{k0 k1 k2 k3 k5:Option KB}{newId:String}
variable{Q:Flow->Os->Prop}
def yp{x:U9 KB}(b8:bm.contains (.type "BaseException")=true)(hh:A.handled=t9)
  (h:To (SB prog w) A x (λv s₁=>∃e t od sl,v=.ref e/\s₁.heap.get? C=be (TQ nm q C N bs bm hdct sn sub ab col dd k0 k1 k2 k3 k5 newId)/\
   s₁.heap.get? e=be #[.ref C,od,.fields [.ref t,.none,.none,.none,.bool false,.none].toArray,sl]/\E (.ref e) s₁) E s):
  To (SB prog w) A (raiseStmt env (be x) t9) Q E s:=by
 have NW:(Value.ref C::bm).contains (.type "BaseException")=true:=by rw[IU,b8,ID]
 unfold raiseStmt;refine KM (TF h (λv s₁ h₁=>?_) λ_ _ x=>x);obtain⟨e,t,od,sl,rfl,hC,he,hE⟩:=h₁;obtain⟨hp,g,d,tk,os⟩:=s₁
 repeat(first|(with_reducible refine TM he ?_)|(with_reducible refine TM hC ?_)|(with_reducible refine Uk hC ?_;rw[NW])|wp_step)
 exact wpAny_raiseNew_none hh hE
def kj{x:Tn}{pos:Tw}(b8:bm.contains (.type "BaseException")=true)(hh:A.handled=t9)
  (h:To (SB prog w) A (Tv x env) (λv s₁=>∃e t od sl,v=.ref e/\s₁.heap.get? C=be (TQ nm q C N bs bm hdct sn sub ab col dd k0 k1 k2 k3 k5 newId)/\
   s₁.heap.get? e=be #[.ref C,od,.fields [.ref t,.none,.none,.none,.bool false,.none].toArray,sl]/\E (.ref e) s₁) E s):
  To (SB prog w) A (exec (.Raise (be x) t9 pos) env) Q E s:=by
 rw[arm_exec_Raise];show To (SB prog w) A (do Ul pos;raiseStmt env (be (do let v <-Tv x env;Ul pos;pure v)) t9) Q E s;exact KM (T4 (yp b8 hh (KM (TF h (λv s₁ h₁=>KM (T4 (P3 h₁))) λ_ _ x=>x))))
end
def ExAt(h:Heap)(e C:KF)(od:Option KF)(T:KF)(fl:KB):Prop:=
 ∃sl vs oT ts,h.get? e=be #[.ref C,od,.fields vs,sl]/\vs[1]?=be (.ref T)/\T≠e/\h.get? T=be oT/\oT.data=.fields ts/\ts[3]?=be fl
structure Stay(fs ex:List KF)(h h':Heap):Prop where
 keep:∀b o,h.get? b=be o->b∉ex->b∉fs->h'.get? b=be o
 slot:∀b o,h.get? b=be o->b∉ex->∃sl,h'.get? b=be {o with slots:=sl}
 there:∀b o,h.get? b=be o->∃o',h'.get? b=be o'
section
variable {M:Ve}{A:Tq}{E:KB->Os->Prop}{s:Os}{env:Um}{outer:List Um}{base:Heap}{L e C T:KF}{od:Option KF}
variable{Q:Unit->Os->Prop}
def rJ{sl:Array (Option KB)}{vs:Array KB}(l7:A.frames=be (env::outer))(hl:s.heap.FunFrames base (env::outer))(hf:env.frame=be L)
  (he:s.heap.get? e=be #[.ref C,od,.fields vs,sl]) (h1:vs[1]?=be .none)
  (h:∀h' T,ExAt h' e C od T (Uw L)->s.heap.objs.size<=T->Stay (frs (env::outer)) [e] s.heap h'->Q () {s with heap:=h'}):To M A (Uu (.ref e) env) Q E s:=by
 have j6:1<vs.size:=(IE.mp h1).1;have K9:e∉(env::outer).filterMap (·.frame):=λhm=>by
  obtain⟨_,o,ho,hnf⟩:=hl.mem hm;rw[he]at ho;injection ho with ho;subst ho;exact hnf vs rfl
 unfold Uu;simp only[hf];refine KM (Ud he rfl h1 ?_);rw[if_neg K3];refine KM (Vp l7 hl hf λh₁ hs₁=>KM (Vk λpl c5=>?_));unfold EntryCells.newEntry newFields;refine KM (TC ?_ (c5.sizeOk5 _ _ _ _ _));have he₁:h₁.get? e=be #[.ref C,od,.fields vs,sl]:=(hs₁.2.1 e K9).trans he;have fresh:h₁.get? h₁.objs.size=none:=Heap.get?_none_of_le (GN _);generalize Me:({cls:=.type "traceback",dict:=t9,data:=.fields ([Value.none,.ref L,.none,Uw L,.none]++(if pl.isEmpty then Hs 6 Value.none else pl)).toArray}:TL)=oT;have he₂:=Heap.get?_push_of_some (h:=h₁) oT he₁;have u5:h₁.objs.size≠e:=HD (Heap.lt_size he₁);refine UA he₂ rfl j6 (h _ h₁.objs.size ?_ ?_ ?_)
 .refine#[sl,vs.setIfInBounds 1 (.ref h₁.objs.size),oT,([Value.none,.ref L,.none,Uw L,.none]++(if pl.isEmpty then Hs 6 Value.none else pl)).toArray,?_,by simp[j6],u5,?_,by rw[<-Me],K']
  .rw[Heap.get?_update_self _ he₂ rfl];rfl
  .rw[Heap.get?_update_other _ _ (Ne.symm u5)];exact Heap.get?_push_size h₁ (by rw[<-Me];rfl)
 .exact IA hs₁.1.symm
 .have kp:∀b o,b≠e->h₁.get? b=be o->((h₁.push oT).update e (Obj.mapFields (·.setIfInBounds 1 (Value.ref h₁.objs.size)))).get? b=be o:=λb o hb z=>by
   rw[Heap.get?_update_other _ _ (Ne.symm hb)];exact Heap.get?_push_of_some _ z
  refine#[λb o q n m=>kp b o (λz=>n (by simp[z])) ((hs₁.2.1 b m).trans q),λb o q n=>?_,λb o q=>?_]
  .obtain⟨t7,z⟩:=hs₁.2.2 b o q;exact#[t7,kp b _ (λz=>n (by simp[z])) z]
  .by_cases hb:b=e
   .subst hb;exact#[_,Heap.get?_update_self _ he₂ rfl]
   .obtain⟨t7,z⟩:=hs₁.2.2 b o q;exact#[_,kp b _ hb z]
def rK(l7:A.frames=be (env::outer))(hl:s.heap.FunFrames base (env::outer))(hf:env.frame=be L)(hx:ExAt s.heap e C od T .none)
  (h:∀h' T',ExAt h' e C od T' (Uw L)->s.heap.objs.size<=T'->Stay (frs (env::outer)) [T,e] s.heap h'->Q () {s with heap:=h'}):To M A (Uu (.ref e) env) Q E s:=by
 obtain⟨sl,vs,oT,ts,he,h1,u5,hT,k9,h3⟩:=hx;have j6:1<vs.size:=(IE.mp h1).1;have Nk:3<ts.size:=(IE.mp h3).1;have K9:e∉(env::outer).filterMap (·.frame):=λhm=>by
  obtain⟨_,o,ho,hnf⟩:=hl.mem hm;rw[he]at ho;injection ho with ho;subst ho;exact hnf vs rfl
 unfold Uu;simp only[hf];refine KM (Ud he rfl h1 ?_);rw[if_pos (show(Value.ref T !=Value.none)=true from K')];refine KM (Ud hT k9 h3 ?_);rw[if_neg (show¬((Value.none==Uw L)=true)from by simp[Uw])];refine KM (UA hT k9 Nk ?_);have other:∀b,b≠T->(s.heap.update T (Obj.mapFields (·.setIfInBounds 3 Value.none))).get? b=s.heap.get? b:=λb hb=>Heap.get?_update_other _ _ (Ne.symm hb);have nT:∀b o,s.heap.get? b=be o->(∀vs,o.data≠.fields vs)->b≠T:=λb o hb hnf q=>by
  rw[q,hT]at hb;injection hb with hb;subst hb;exact hnf ts k9
 have NX:(s.heap.update T (Obj.mapFields (·.setIfInBounds 3 Value.none))).FunFrames base (env::outer):=hl.of_keeps λb o hb hnf=>#[o,(other b (nT b o hb hnf)).trans hb,rfl];have Ri:∃o',(s.heap.update T (Obj.mapFields (·.setIfInBounds 3 Value.none))).get? T=be o':=#[_,Heap.get?_update_self _ hT (Obj.isFreed_of_fields (Obj.data_mapFields k9 _))];refine KM (Vp l7 NX hf λh₁ hs₁=>KM (Vk λpl c5=>?_));unfold EntryCells.newEntry newFields;refine KM (TC ?_ (c5.sizeOk5 _ _ _ _ _));have he₁:h₁.get? e=be #[.ref C,od,.fields vs,sl]:=(hs₁.2.1 e K9).trans ((other e (Ne.symm u5)).trans he);have fresh:h₁.get? h₁.objs.size=none:=Heap.get?_none_of_le (GN _);generalize Me:({cls:=.type "traceback",dict:=t9,data:=.fields ([Value.ref T,.ref L,.none,Uw L,.none]++(if pl.isEmpty then Hs 6 Value.none else pl)).toArray}:TL)=NY;have he₂:=Heap.get?_push_of_some (h:=h₁) NY he₁;have Mf:h₁.objs.size≠e:=HD (Heap.lt_size he₁);refine UA he₂ rfl j6 (h _ h₁.objs.size ?_ ?_ ?_)
 .refine#[sl,vs.setIfInBounds 1 (.ref h₁.objs.size),NY,([Value.ref T,.ref L,.none,Uw L,.none]++(if pl.isEmpty then Hs 6 Value.none else pl)).toArray,?_,by simp[j6],Mf,?_,by rw[<-Me],K']
  .rw[Heap.get?_update_self _ he₂ rfl];rfl
  .rw[Heap.get?_update_other _ _ (Ne.symm Mf)];exact Heap.get?_push_size h₁ (by rw[<-Me];rfl)
 .exact IA (hs₁.1.trans (Heap.size_after_update _ _ _)).symm
 .have kp:∀b o,b≠e->h₁.get? b=be o->((h₁.push NY).update e (Obj.mapFields (·.setIfInBounds 1 (Value.ref h₁.objs.size)))).get? b=be o:=λb o hb z=>by
   rw[Heap.get?_update_other _ _ (Ne.symm hb)];exact Heap.get?_push_of_some _ z
  refine#[λb o q n m=>kp b o (λz=>n (by simp[z])) ((hs₁.2.1 b m).trans ((other b (λz=>n (by simp[z]))).trans q)),λb o q n=>?_,λb o q=>?_]
  .obtain⟨t7,z⟩:=hs₁.2.2 b o ((other b (λz=>n (by simp[z]))).trans q);exact#[t7,kp b _ (λz=>n (by simp[z])) z]
  .by_cases hb:b=e
   .subst hb;exact#[_,Heap.get?_update_self _ he₂ rfl]
   .have:∃o',(s.heap.update T (Obj.mapFields (·.setIfInBounds 3 Value.none))).get? b=be o':=by
     by_cases hb:b=T
     .rw[hb];exact Ri
     .exact#[o,(other _ hb).trans q]
    obtain⟨o',q'⟩:=this;obtain⟨t7,z⟩:=hs₁.2.2 b o' q';exact#[_,kp b _ hb z]
def flight_none{fl:KB}(hx:ExAt s.heap e C od T fl)(h:∀h',ExAt h' e C od T .none->Stay [] [T] s.heap h'->Q () {s with heap:=h'}):To M A (UJ (.ref e) t9) Q E s:=by
 obtain⟨sl,vs,oT,ts,he,h1,u5,hT,k9,h3⟩:=hx;have Nk:3<ts.size:=(IE.mp h3).1;unfold UJ;refine KM (Ud he rfl h1 ?_);rw[if_pos (show(Value.ref T !=Value.none)=true from K')];refine UA hT k9 Nk (h _ ?_ ?_)
 .exact#[sl,vs,_,_,(Heap.get?_update_other _ _ u5).trans he,h1,u5,Heap.get?_update_self _ hT (Obj.isFreed_of_fields (Obj.data_mapFields k9 _)),Obj.data_mapFields k9 _,by simp[Nk]]
 .have other:∀b o,b∉[T]->s.heap.get? b=be o->(s.heap.update T (Obj.mapFields (·.setIfInBounds 3 ((t9:Option KF).elim Value.none λf=>Uw f)))).get? b=be o:=λb o hb q=>(Heap.get?_update_other _ _ (λz=>hb (by simp[z]))).trans q;refine#[λb o q n _=>other b o n q,λb o q n=>#[o.slots,other b o n q],λb o q=>?_];by_cases hb:b=T
  .subst hb;exact#[_,Heap.get?_update_self _ hT (Obj.isFreed_of_fields (Obj.data_mapFields k9 _))]
  .exact#[o,other b o (by simp[hb]) q]
end
def CX1(P:SZ)(w:Tp):CXT:=λouter H s E ev s'=>∃e C od T H',ev=.ref e/\s'.os=s.os/\Us s'.gens/\Un (frs outer) [] H H' s.heap s'.heap/\HOk P w H' s'.heap/\ExAt s'.heap e C od T .none/\s.heap.get? e=t9/\s.heap.get? T=t9/\H' e=t9/\H' T=t9/\E (.ref C) od H'
variable{fs ex:List KF}
def fH{P:SZ}{w:Tp}{H:Hp}{h h':Heap}(x:HOk P w H h)(st:Stay fs ex h h')(hf:∀b∈fs,H b=t9)(he:∀b∈ex,H b=t9):HOk P w H h':=λa o q=>
 (x a o q).stay (λb u hb r=>by
  have hn:H b≠none:=by
   rcases hb with rfl|hb
   .rw[q];exact λz=>nomatch z
   .rw[hb];exact λz=>nomatch z
  exact st.keep b u r (λz=>hn (he b z)) (λz=>hn (hf b z))) (λ_ q=>q) λ_ _ q=>q
def gQ{l6:List KF}{H H':Hp}{h h1 h2:Heap}(u:Un fs [] H H' h h1)(st:Stay l6 ex h1 h2)(d9:∀b∈ex,h.get? b=t9)(Nl:∀b∈l6,b∈fs\/h.get? b=t9):Un fs [] H H' h h2 where
 keep:=λb o q n hb hx=>st.keep b o (u.keep b o q n hb hx) (λz=>by rw[d9 b z]at q;cases q) (λz=>(Nl b z).elim hb λy=>by rw[y]at q;cases q)
 slot:=λb o q n hb hx=>by
  obtain⟨sl,e1⟩:=u.slot b o q n hb hx;obtain⟨t7,e2⟩:=st.slot b _ e1 (λz=>by rw[d9 b z]at q;cases q);exact#[t7,e2]
 free:=u.free
 there:=λb o q hx=>by
  obtain⟨o1,e1⟩:=u.there b o q hx;exact st.there b o1 e1
 tups:=u.tups
 frzs:=u.frzs
 tbls:=u.tbls
section
variable {P:SZ}{w:Tp}{K:Ex}{mg:F_->Option KB}{base:Heap}{N:List F_}{qual:F_}{scope:T3}{f:KF}{cd:KB}{A:Tq}{outer:List Um}{s:Os}{H:Hp}{E E':XK}
def rL{b:KF}(hb:b∈frs (TB qual scope s.heap.objs.size f cd::outer)):b∈frs outer\/s.heap.get? b=none:=by
 unfold frs at hb;rw[Ix]at hb;rcases GP.mp (show b∈s.heap.objs.size::outer.filterMap (·.frame)from hb)with e|e
 .rw[e];exact .inr (Heap.get?_none_of_le (GN _))
 .exact .inl e
def rM{pins:List (KF×TL)}{σ:L2.St}{H1:Hp}{s1:Os}{e C:KF}{od:Option KF}{sl:Array (Option KB)}{vs:Array KB}(I:Inv (cxOf (CX1 P w) P w K mg base N qual scope f cd A outer s H E') pins σ H1 s1)
  (he:s1.heap.get? e=be #[.ref C,od,.fields vs,sl]) (h1:vs[1]?=be .none) (He:H1 e=t9) (ne:s.heap.get? e=t9) (hE:E' (.ref C) od H1):(cxOf (CX1 P w) P w K mg base N qual scope f cd A outer s H E').xe (.ref e) s1:=by
 show To _ _ (U5 _ _) _ _ _;unfold U5;refine KM (rJ I.ok.frames I.stack rfl he h1 λh2 T2 n5 x8 q8=>flight_none (s:={s1 with heap:=h2}) n5 λh3 Mg A'=>?_);have J_:s1.heap.get? T2=none:=Heap.get?_none_of_le x8;have f1:∀b,s1.heap.get? b=t9->s.heap.get? b=none:=λb q=>by
  cases z:s.heap.get? b with
  |none=>rfl
  |some o=>
   obtain⟨o',z'⟩:=I.base.there b o z (by exact λy=>absurd (show b∈([]:List KF)from y) K');rw[q]at z';cases z'
 have hok:HOk P w H1 s1.heap:=I.hok;have KI:H1 T2=none:=hok.fresh x8;have u2:Un (frs outer) [] H H1 s.heap h2:=gQ (show Un (frs outer) [] H H1 s.heap s1.heap from I.base) q8 (λb hb=>by rw[GM.mp hb];exact ne) λb hb=>rL hb;have u3:Un (frs outer) [] H H1 s.heap h3:=gQ u2 A' (λb hb=>by rw[GM.mp hb];exact f1 T2 J_) λb hb=>by cases hb
 have k2:=fH hok q8 (λb hb=>I.stkFree b hb) (λb hb=>by rw[GM.mp hb];exact He);have k3:=fH k2 A' (λb hb=>by cases hb) (λb hb=>by rw[GM.mp hb];exact KI);exact#[e,C,od,T2,H1,rfl,I.os,I.bare,u3,k3,Mg,ne,f1 T2 J_,He,KI,hE]
end
end Exc
namespace L2
def Same.tup{K:Ex}{H H':Hp}{a:KF}{xs:List V}(e:Same H H')(h:SqT K H a xs):SqT K H' a xs:=by
 rcases h with(h|⟨o,h⟩)|h
 .exact .inl (.inl (e _ _ h))
 .exact .inl (.inr #[o,e _ _ h])
 .exact .inr h
end L2
namespace My
def eB{X:Cx}:fG (Exc.CX1 X.prog X.w) X E0:=λ_ _ _ _ _ _ _ h=>by
 obtain⟨e,C,od,T,H',_,_,_,_,_,_,_,_,_,_,h⟩:=h;exact h.elim
def Fun.okC{P:SZ}{w:Tp}{K:Ex}{mg:F_->Option KB}{base:Heap}{CX:CXT}{x qual:F_}{st:SL}{f:KF}{fd:Tu}{N ps:List F_}{k:Nat}{sp:Sp}{dV:KB}(F:FunG K dV x qual st f fd)(S:FnScope N ps (ag st))(len:∀vs H Q E,sp vs H Q E->vs.length=ps.length)
  (a8:∀(cdv:KB) (A:Tq) (outer:List Um) (s:Os) (H:Hp) (vs:List V) (Q:VK) (E:XK),Room k (A.deeper (TB qual (ag st) s.heap.objs.size f cdv))->sp vs H Q E->
   ∃t,PSs (cxOf CX P w K mg base N qual (ag st) f cdv A outer s H E) (aL st) t/\t {nx:=λ_ H'=>Q .non H',rt:=Q} (start N vs) H):FnOk P w K mg base CX (k+1) f fd ps sp:=by
 obtain⟨oc,od,kV,doc,pm,an,cdv,ct,osl,rfl,lk,gV⟩:=F.ex;refine xG lk gV S len λA outer s H vs Q E hr w6=>?_;exact a8 cdv A outer s H vs Q E hr w6
def Cal(P:SZ)(w:Tp)(K:Ex)(mg:F_->Option KB)(base:Heap)(n:Nat)(x:F_)(ps:List F_)(sp:Sp):Prop:=
 ∃f fd,FnOk P w K mg base (Exc.CX1 P w) n f fd ps sp/\Binds K fd ps []/\keepIn K (.ref f)=true/\mg x=be (.ref f)
def Tx(K:Ex)(mg:F_->Option KB)(x:F_)(st:SL)(ps:List F_):Prop:=
 ∃f fd,Fun K x x st f fd/\Binds K fd ps []/\mg x=be (.ref f)
section
variable {X:Cx}{n m:Nat}{ps:List F_}{sp:Sp}{x:F_}{p pos:Tw}{e:Tn}{es:List Tn}{t:TA}
def yq(C:Cal X.prog X.w X.K X.mg X.base n x ps sp)(hr:Room m X.A)(ha:PA X (e::es) t)(hg:autoParam (Gl X x) zA0)(hn:autoParam (n<=m) zA1)(d5:autoParam (zND x) zA1)
  (he:autoParam (zSE X e es) zA0) (c5:autoParam (zPL X pos es) zA0):
  PE X (.Call (.Name x p) (e::es) [] pos) (qY sp [] E0 t):=by
 obtain⟨f,fd,F,hb,hk,hm⟩:=C;exact xD F (hr.mono hn) hg hm hk hb .nil eB ha d5 he c5
end
def aN{H:Hp}{p:KF}(h:H p=t9)(o:HO):Same H (upd H p o):=λb u q=>by rw[aq (bG q h)];exact q
def sz{n:Nat}(h:n<=1000):n<=sizeLine:=Iw (yd h)
end My
namespace L2
section
variable {X:Cx}
variable{e:Tn}
def PE.anti{t t':TE}(h:PE X e t)(a:∀s H Q,t' s H Q->t s H Q):PE X e t':=λpins s σ H Q I q=>h pins s σ H Q I (a _ _ _ q)
def PT.anti{t t':TT}(h:PT X e t)(a:∀s H Q,t' s H Q->t s H Q):PT X e t':=λpins s σ H Q I q=>h pins s σ H Q I (a _ _ _ q)
def PW.anti{t t':TT}(h:PW X e t)(a:∀s H Q,t' s H Q->t s H Q):PW X e t':=λwh pins s σ H Q I q=>h wh pins s σ H Q I (a _ _ _ q)
def PA.anti{e:List Tn}{t t':TA}(h:PA X e t)(a:∀s H Q,t' s H Q->t s H Q):PA X e t':=λp pins s σ H Q I q=>h p pins s σ H Q I (a _ _ _ q)
def PS.anti{e:SL}{t t':TS}(h:PS X e t)(a:∀E s H,t' E s H->t E s H):PS X e t':=λpins s σ H Q I q=>h pins s σ H Q I (a _ _ _ q)
def PSs.anti{e:List SL}{t t':TS}(h:PSs X e t)(a:∀E s H,t' E s H->t E s H):PSs X e t':=λpins s σ H Q I q=>h pins s σ H Q I (a _ _ _ q)
end
end L2
namespace My
inductive D where
 |non|bl (b:Bool)|int (i:Int)|str (x:Str)|tup (xs:List D)|lst (xs:List D)
  |rol (xs:List D)
  |obj (x:F_) (fs:List (F_×D))
  |exc (x:F_) (fs:List (F_×D))
  |own (xs:List D)
  |ptr (a:KF)
  |dti (a9:List ((Int×Int)×Int))
def dtiV(a9:List ((Int×Int)×Int)):List (List Key×V):=a9.map λe=>([.inl e.1.1,.inl e.1.2],.int e.2)
def XO(e C:KF)(od:Option KF):HO:=.ext λh=>∃vs sl,h.get? e=be #[.ref C,od,.fields vs,sl]
mutual
def Rep(K:Ex)(H:Hp):D->V->Prop
 |.non,v=>v=.non
 |.bl b,v=>v=.bl b
 |.int i,v=>v=.int i
 |.str x,v=>v=.str x
 |.tup ds,v=>∃a vs,v=.ref a/\H a=be (.tup vs)/\Reps K H ds vs
 |.lst ds,v=>∃a vs,v=.ref a/\H a=be (.lst vs)/\Reps K H ds vs
 |.rol ds,v=>∃a vs,v=.ref a/\SqL K H a vs/\Reps K H ds vs
 |.obj x fs,v=>∃a C dx vs,v=.ref a/\nsIn K Pi x=be (be (.ref C))/\H a=be (.ins C dx vs)/\RepF K H fs vs
 |.exc x fs,v=>∃a C od vs,v=.ref a/\nsIn K Pi x=be (be (.ref C))/\H a=be (XO a C od)/\RepF K H fs vs/\((od=t9/\vs=[])\/∃b,od=be b/\H b=be (.xd vs))
 |.own _,_=>False
 |.ptr a,v=>v=.ref a
 |.dti a9,v=>∃a,v=.ref a/\H a=be (.dT (dtiV a9))
def RepF(K:Ex)(H:Hp):List (F_×D)->List (F_×V)->Prop
 |[],vs=>vs=[]
 |(f,d)::ds,vs=>∃v r,vs=(f,v)::r/\Rep K H d v/\RepF K H ds r
def Reps(K:Ex)(H:Hp):List D->List V->Prop
 |[],vs=>vs=[]
 |d::ds,vs=>∃v r,vs=v::r/\Rep K H d v/\Reps K H ds r
end
mutual
def Rep.mono{K:Ex}{H H':Hp}(g:Same H H'):∀(d:D) (v:V),Rep K H d v->Rep K H' d v
 |.non,v,h=>by unfold Rep at h ⊢;exact h
 |.bl b,v,h=>by unfold Rep at h ⊢;exact h
 |.int b,v,h=>by unfold Rep at h ⊢;exact h
 |.str b,v,h=>by unfold Rep at h ⊢;exact h
 |.tup ds,v,h=>by
  unfold Rep at h ⊢;obtain⟨a,vs,e,q,r⟩:=h;exact#[a,vs,e,g _ _ q,Reps.mono g ds vs r]
 |.lst ds,v,h=>by
  unfold Rep at h ⊢;obtain⟨a,vs,e,q,r⟩:=h;exact#[a,vs,e,g _ _ q,Reps.mono g ds vs r]
 |.rol ds,v,h=>by
  unfold Rep at h ⊢;obtain⟨a,vs,e,q,r⟩:=h;exact#[a,vs,e,g.seq q,Reps.mono g ds vs r]
 |.obj C fs,v,h=>by
  unfold Rep at h ⊢;obtain⟨a,C,dx,vs,e,n,q,r⟩:=h;exact#[a,C,dx,vs,e,n,g _ _ q,RepF.mono g fs vs r]
 |.exc C fs,v,h=>by
  unfold Rep at h ⊢;obtain⟨a,C,od,vs,e,n,q,r,d⟩:=h;exact#[a,C,od,vs,e,n,g _ _ q,RepF.mono g fs vs r,d.imp id λ⟨b,h1,h2⟩=>#[b,h1,g _ _ h2]]
 |.own ds,v,h=>by
  unfold Rep at h ⊢;exact h
 |.ptr a,v,h=>by unfold Rep at h ⊢;exact h
 |.dti a9,v,h=>by
  unfold Rep at h ⊢;obtain⟨a,e,q⟩:=h;exact#[a,e,g _ _ q]
def RepF.mono{K:Ex}{H H':Hp}(g:Same H H'):∀(ds:List (F_×D)) (vs:List (F_×V)),RepF K H ds vs->RepF K H' ds vs
 |[],vs,h=>by unfold RepF at h ⊢;exact h
 |(f,d)::ds,vs,h=>by
  unfold RepF at h ⊢;obtain⟨v,r,e,q1,q2⟩:=h;exact#[v,r,e,Rep.mono g d v q1,RepF.mono g ds r q2]
def Reps.mono{K:Ex}{H H':Hp}(g:Same H H'):∀(ds:List D) (vs:List V),Reps K H ds vs->Reps K H' ds vs
 |[],vs,h=>by unfold Reps at h ⊢;exact h
 |d::ds,vs,h=>by
  unfold Reps at h ⊢;obtain⟨v,r,e,q1,q2⟩:=h;exact#[v,r,e,Rep.mono g d v q1,Reps.mono g ds r q2]
end
section
variable {K:Ex}{H:Hp}
variable{v:V}
def rep_non:Rep K H .non v↔v=.non:=by unfold Rep;exact Iff.rfl
def rep_bl{b:Bool}:Rep K H (.bl b) v↔v=.bl b:=by unfold Rep;exact Iff.rfl
def rep_int{i:Int}:Rep K H (.int i) v↔v=.int i:=by unfold Rep;exact Iff.rfl
variable{x:F_}
def rep_str:Rep K H (.str x) v↔v=.str x:=by unfold Rep;exact Iff.rfl
variable{ds:List My.D}
def rep_tupS:Rep K H (.tup ds) v↔∃a vs,v=.ref a/\H a=be (.tup vs)/\Reps K H ds vs:=by
 constructor
 .intro h;unfold Rep at h;exact h
 .intro h;unfold Rep;exact h
def rep_tup_mp(h:Rep K H (.tup ds) v):∃a vs,v=.ref a/\SqT K H a vs/\Reps K H ds vs:=by
 obtain⟨a,vs,e,q,r⟩:=rep_tupS.mp h;exact#[a,vs,e,SqT.of q,r]
def rep_ptr{a:KF}:Rep K H (.ptr a) v↔v=.ref a:=by unfold Rep;exact Iff.rfl
def rep_dti{a9:List ((Int×Int)×Int)}:Rep K H (.dti a9) v↔∃a,v=.ref a/\H a=be (.dT (dtiV a9)):=by
 constructor
 .intro h;unfold Rep at h;exact h
 .intro h;unfold Rep;exact h
def rep_lst:Rep K H (.lst ds) v↔∃a vs,v=.ref a/\H a=be (.lst vs)/\Reps K H ds vs:=by
 constructor
 .intro h;unfold Rep at h;exact h
 .intro h;unfold Rep;exact h
def rep_rol:Rep K H (.rol ds) v↔∃a vs,v=.ref a/\SqL K H a vs/\Reps K H ds vs:=by
 constructor
 .intro h;unfold Rep at h;exact h
 .intro h;unfold Rep;exact h
variable{fs:List (F_×My.D)}
def rep_obj:Rep K H (.obj x fs) v↔∃a C dx vs,v=.ref a/\nsIn K Pi x=be (be (.ref C))/\H a=be (.ins C dx vs)/\RepF K H fs vs:=by
 constructor
 .intro h;unfold Rep at h;exact h
 .intro h;unfold Rep;exact h
def rep_exc:Rep K H (.exc x fs) v↔∃a C od vs,v=.ref a/\nsIn K Pi x=be (be (.ref C))/\H a=be (XO a C od)/\RepF K H fs vs/\((od=t9/\vs=[])\/∃b,od=be b/\H b=be (.xd vs)):=by
 constructor
 .intro h;unfold Rep at h;exact h
 .intro h;unfold Rep;exact h
def rep_own:¬Rep K H (.own ds) v:=by intro h;unfold Rep at h;exact h
variable{vs:List (F_×V)}
def repf_nil:RepF K H [] vs↔vs=[]:=by unfold RepF;exact Iff.rfl
def repf_cons{f:F_}{d:D}{ds:List (F_×D)}:RepF K H ((f,d)::ds) vs↔∃v r,vs=(f,v)::r/\Rep K H d v/\RepF K H ds r:=by
 constructor
 .intro h;unfold RepF at h;exact h
 .intro h;unfold RepF;exact h
def RepF.look{f:F_}{d:D}:∀{fs:List (F_×D)} {vs:List (F_×V)},RepF K H fs vs->fs.lookup f=be d->∃v,vs.lookup f=be v/\Rep K H d v
 |[],_,_,e=>by cases e
 |(g,x)::fs,vs,h,e=>by
  obtain⟨v,r,rfl,h1,h2⟩:=repf_cons.mp h;rw[G3]at e ⊢;split at e
  .cases e;exact#[v,rfl,h1]
  .exact RepF.look h2 e
def RepF.none{f:F_}:∀{fs:List (F_×D)} {vs:List (F_×V)},RepF K H fs vs->fs.lookup f=Option.none->vs.lookup f=Option.none
 |[],vs,h,_=>by rw[repf_nil.mp h];rfl
 |(g,x)::fs,vs,h,e=>by
  obtain⟨v,r,rfl,h1,h2⟩:=repf_cons.mp h;rw[G3]at e ⊢;split at e
  .cases e
  .exact RepF.none h2 e
def reps_nil{vs:List V}:Reps K H [] vs↔vs=[]:=by unfold Reps;exact Iff.rfl
def reps_cons{d:D}{vs:List V}:Reps K H (d::ds) vs↔∃v r,vs=v::r/\Rep K H d v/\Reps K H ds r:=by
 constructor
 .intro h;unfold Reps at h;exact h
 .intro h;unfold Reps;exact h
def Reps.length:∀{ds:List D} {vs:List V},Reps K H ds vs->vs.length=ds.length
 |[],vs,h=>by rw[reps_nil.mp h];rfl
 |d::ds,vs,h=>by
  obtain⟨v,r,rfl,_,h2⟩:=reps_cons.mp h;rw[GU,GU,Reps.length h2]
def Reps.get:∀{ds:List D} {vs:List V} {i:Nat} {d:D},Reps K H ds vs->ds[i]?=be d->∃v,vs[i]?=be v/\Rep K H d v
 |[],_,_,_,_,e=>by simp at e
 |x::ds,vs,0,d,h,e=>by
  obtain⟨v,r,rfl,h1,_⟩:=reps_cons.mp h;simp at e;subst e;exact#[v,rfl,h1]
 |x::ds,vs,i+1,d,h,e=>by
  obtain⟨v,r,rfl,_,h2⟩:=reps_cons.mp h;obtain⟨u,q1,q2⟩:=Reps.get (i:=i) h2 (by simpa using e);exact#[u,by simpa using q1,q2]
def Reps.ints:∀{ns:List Int} {vs:List V},Reps K H (ns.map D.int) vs↔vs=ns.map V.int
 |[],vs=>reps_nil
 |n::ns,vs=>by
  rw[G7,reps_cons,G7];constructor
  .rintro⟨v,r,rfl,h1,h2⟩;rw[rep_int.mp h1,Reps.ints.mp h2]
  .rintro rfl;exact#[_,_,rfl,rep_int.mpr rfl,Reps.ints.mpr rfl]
end
abbrev SD:=List (Option D)
def gR:D->Bool|.own _=>true|_=>false
structure RepS(K:Ex)(B F H:Hp)(t:SD)(s:L2.St):Prop where
 len:s.length=t.length
 val:∀(i:Nat) d,t[i]?=be (be d)->gR d=false->∃v,s[i]?=be (be v)/\Rep K F d v
 own:∀(i:Nat) ds,t[i]?=be (be (.own ds))->∃a vs,s[i]?=be (be (.ref a))/\H a=be (.lst vs)/\B a=t9/\F a=t9/\Reps K F ds vs
 apart:∀(i j:Nat) di dj a,t[i]?=be (be (.own di))->t[j]?=be (be (.own dj))->s[i]?=be (be (.ref a))->s[j]?=be (be (.ref a))->i=j
structure Grow(F H F' H':Hp):Prop where
 ff:Same F F'
 fh:Same F' H'
 hh:Same H H'
 out:∀b,F b=t9->H b≠t9->F' b=t9
variable{F H:Hp}
def Grow.refl(h:Same F H):Grow F H F H:=#[Same.refl F,h,Same.refl H,λ_ h _=>h]
def Grow.trans{F1 H1 F2 H2:Hp}(g:Grow F H F1 H1)(k:Grow F1 H1 F2 H2):Grow F H F2 H2:=
 ⟨g.ff.trans k.ff,k.fh,g.hh.trans k.hh,λb h1 h2=>k.out b (g.out b h1 h2) (by
  cases e:H b with
  |none=>exact absurd e h2
  |some o=>rw[g.hh b o e];exact λz=>nomatch z)⟩
def Grow.new{p:KF}(h:Same F H)(hp:H p=t9)(o:HO):Grow F H (upd F p o) (upd H p o):=by
 have fp:F p=none:=h.free hp;refine#[aN fp o,λb u e=>?_,aN hp o,λb h1 h2=>?_]
 .by_cases hb:b=p
  .subst hb;rw[az]at e ⊢;exact e
  .rw[aq hb]at e ⊢;exact h b u e
 .by_cases hb:b=p
  .subst hb;exact absurd hp h2
  .rw[aq hb];exact h1
class Jx where
 B:Hp
 F0:Hp
 RX:SD->F_->List (F_×D)->Prop
structure Kept[J:Jx](B F0 F H:Hp):Prop where
 bh:Same B H
 fh:Same F H
 f0:Same F0 F
 out:∀b,F0 b=t9->B b≠t9->F b=t9
 eb:B=J.B
 jf:Same J.F0 F0
 jo:∀b,J.F0 b=t9->B b≠t9->F0 b=t9
variable{B:Hp}
def Kept.kf[J:Jx]{F0:Hp}(k:Kept B F0 F H):Kept B J.F0 F H:=#[k.bh,k.fh,k.jf.trans k.f0,λb h1 h2=>k.out b (k.jo b h1 h2) h2,k.eb,Same.refl _,λ_ h _=>h]
def Kept.grow[Jx]{F0 F' H':Hp}(k:Kept B F0 F H)(g:Grow F H F' H'):Kept B F0 F' H':=
 ⟨k.bh.trans g.hh,g.fh,k.f0.trans g.ff,λb h1 h2=>g.out b (k.out b h1 h2) (by
  cases e:B b with
  |none=>exact absurd e h2
  |some o=>rw[k.bh b o e];exact λz=>nomatch z),k.eb,k.jf,k.jo⟩
section
variable {K:Ex}{B F H F' H':Hp}{t:SD}{s:L2.St}
def RepS.grow(g:Grow F H F' H')(h:RepS K B F H t s):RepS K B F' H' t s where
 len:=h.len
 val:=λi d e no=>let ⟨v,q1,q2⟩:=h.val i d e no;#[v,q1,q2.mono g.ff]
 own:=λi ds e=>by
  obtain⟨a,vs,q1,q2,q3,q4,q5⟩:=h.own i ds e;exact#[a,vs,q1,g.hh a _ q2,q3,g.out a q4 (by rw[q2];exact λz=>nomatch z),q5.mono g.ff]
 apart:=h.apart
variable{i:Nat}
def RepS.set{d:D}{v:V}(h:RepS K B F H t s)(r:Rep K F d v):RepS K B F H (t.set i (be d)) (s.set i (be v)):=by
 have no:gR d=false:=by
  cases d with
  |own ds=>exact absurd r rep_own
  |_=>rfl
 have get:∀{j:Nat} {x:D},(t.set i (be d))[j]?=be (be x)->(j=i/\x=d/\i<t.length)\/(j≠i/\t[j]?=be (be x)):=λ{j x} e=>by
  by_cases hj:i=j
  .subst hj;rw[HM]at e;simp at e;exact .inl #[rfl,e.2.symm,e.1]
  .rw[G0 hj]at e;exact .inr #[λz=>hj z.symm,e]
 refine#[by rw[Hv,Hv];exact h.len,λj x e nx=>?_,λj ds e=>?_,λj k dj dk a e1 e2 e3 e4=>?_]
 .rcases get e with⟨rfl,rfl,hl⟩|⟨hj,e⟩
  .exact#[v,by rw[Hr (by rw[h.len];exact hl)],r]
  .obtain⟨u,q1,q2⟩:=h.val j x e nx;exact#[u,by rw[G0 (λz=>hj z.symm)];exact q1,q2]
 .rcases get e with⟨rfl,rfl,hl⟩|⟨hj,e⟩
  .cases no
  .obtain⟨a,vs,q1,q⟩:=h.own j ds e;exact#[a,vs,by rw[G0 (λz=>hj z.symm)];exact q1,q]
 .rcases get e1 with⟨rfl,rfl,hl⟩|⟨hj,e1⟩
  .cases no
  .rcases get e2 with⟨rfl,rfl,hl⟩|⟨hk,e2⟩
   .cases no
   .rw[G0 (λz=>hj z.symm)]at e3;rw[G0 (λz=>hk z.symm)]at e4;exact h.apart j k dj dk a e1 e2 e3 e4
variable{ds:List My.D}
def RepS.setOwn{a:KF}{vs:List V}(h:RepS K B F H t s)(hB:B a=t9)(hF:F a=t9)(r:Reps K F ds vs)
  (free:∀(j:Nat) dj,j≠i->t[j]?=be (be (.own dj))->s[j]?≠be (be (.ref a))):RepS K B F (upd H a (.lst vs)) (t.set i (be (.own ds))) (s.set i (be (.ref a))):=by
 have get:∀{j:Nat} {x:D},(t.set i (be (.own ds)))[j]?=be (be x)->(j=i/\x=.own ds/\i<t.length)\/(j≠i/\t[j]?=be (be x)):=λ{j x} e=>by
  by_cases hj:i=j
  .subst hj;rw[HM]at e;simp at e;exact .inl #[rfl,e.2.symm,e.1]
  .rw[G0 hj]at e;exact .inr #[λz=>hj z.symm,e]
 refine#[by rw[Hv,Hv];exact h.len,λj x e nx=>?_,λj dj e=>?_,λj k dj dk b e1 e2 e3 e4=>?_]
 .rcases get e with⟨rfl,rfl,hl⟩|⟨hj,e⟩
  .cases nx
  .obtain⟨u,q1,q2⟩:=h.val j x e nx;exact#[u,by rw[G0 (λz=>hj z.symm)];exact q1,q2]
 .rcases get e with⟨rfl,e,hl⟩|⟨hj,e⟩
  .cases e;exact#[a,vs,by rw[Hr (by rw[h.len];exact hl)],az,hB,hF,r]
  .obtain⟨b,us,q1,q2,q⟩:=h.own j dj e;have ne:b≠a:=λz=>free j dj hj e (z ▸ q1);exact#[b,us,by rw[G0 (λz=>hj z.symm)];exact q1,by rw[aq ne];exact q2,q]
 .rcases get e1 with⟨hj,c1,hl⟩|⟨hj,f1⟩
  .rcases get e2 with⟨hk,c2,Nh⟩|⟨hk,f2⟩
   .rw[hj,hk]
   .rw[hj,Hr (by rw[h.len];exact hl)]at e3;rw[G0 (λz=>hk z.symm)]at e4;cases e3;exact absurd e4 (free k dk hk f2)
  .rcases get e2 with⟨hk,c2,Nh⟩|⟨hk,f2⟩
   .rw[hk,Hr (by rw[h.len];exact Nh)]at e4;rw[G0 (λz=>hj z.symm)]at e3;cases e4;exact absurd e3 (free j dj hj f1)
   .rw[G0 (λz=>hj z.symm)]at e3;rw[G0 (λz=>hk z.symm)]at e4;exact h.apart j k dj dk b f1 f2 e3 e4
def RepS.freeze[Jx]{F0:Hp}(h:RepS K B F H t s)(k:Kept B F0 F H)(e:t[i]?=be (be (.own ds))):∃F',Kept B F0 F' H/\RepS K B F' H (t.set i (be (.lst ds))) s:=by
 obtain⟨a,vs,q1,q2,q3,q4,q5⟩:=h.own i ds e;have hl:i<t.length:=(GZ.mp e).1;have g:Same F (upd F a (.lst vs)):=aN q4 _;have get:∀{j:Nat} {x:D},(t.set i (be (.lst ds)))[j]?=be (be x)->(j=i/\x=.lst ds)\/(j≠i/\t[j]?=be (be x)):=λ{j x} e=>by
  by_cases hj:i=j
  .subst hj;rw[HM]at e;simp at e;exact .inl #[rfl,e.2.symm]
  .rw[G0 hj]at e;exact .inr #[λz=>hj z.symm,e]
 refine#[upd F a (.lst vs),#[k.bh,λb o z=>?_,k.f0.trans g,λb h1 h2=>?_,k.eb,k.jf,k.jo],#[by rw[Hv];exact h.len,λj x e' nx=>?_,λj dj e'=>?_,λj l dj dl b e1 e2 e3 e4=>?_]]
 .by_cases hb:b=a
  .subst hb;rw[az]at z;cases z;exact q2
  .rw[aq hb]at z;exact k.fh b o z
 .by_cases hb:b=a
  .subst hb;exact absurd q3 h2
  .rw[aq hb];exact k.out b h1 h2
 .rcases get e' with⟨rfl,rfl⟩|⟨hj,e'⟩
  .exact#[.ref a,q1,rep_lst.mpr #[a,vs,rfl,az,q5.mono g]]
  .obtain⟨u,p1,p2⟩:=h.val j x e' nx;exact#[u,p1,p2.mono g]
 .rcases get e' with⟨rfl,c⟩|⟨hj,e'⟩
  .cases c
  .obtain⟨b,us,p1,p2,p3,p4,p5⟩:=h.own j dj e';have ne:b≠a:=λz=>hj (h.apart j i dj ds a e' e (z ▸ p1) q1);exact#[b,us,p1,p2,p3,by rw[aq ne];exact p4,p5.mono g]
 .rcases get e1 with⟨rfl,c⟩|⟨hj,e1⟩
  .cases c
  .rcases get e2 with⟨rfl,c⟩|⟨hk,e2⟩
   .cases c
   .exact h.apart j l dj dl b e1 e2 e3 e4
end
def startD(N:List F_)(ds:List D):SD:=ds.map be++Hs (N.length-ds.length) t9
variable{K:Ex}
def Rep.noown{d:D}{v:V}(r:Rep K F d v):gR d=false:=by
 cases d with
 |own ds=>exact absurd r rep_own
 |_=>rfl
def dF{N:List F_}{ds:List D}{vs:List V}(h:Reps K F ds vs):RepS K B F H (startD N ds) (L2.start N vs):=by
 have hl:=h.length;have get:∀(i:Nat) d,(startD N ds)[i]?=be (be d)->∃v,(L2.start N vs)[i]?=be (be v)/\Rep K F d v:=λi d e=>by
  unfold startD at e;unfold L2.start;by_cases hi:i<ds.length
  .rw[Ht (by simpa using hi),GY]at e;cases q:ds[i]? with
   |none=>rw[q]at e;cases e
   |some x=>
    rw[q]at e;cases e;obtain⟨v,q1,q2⟩:=h.get q;exact#[v,by rw[Ht (by simpa[hl]using hi),GY,q1];rfl,q2]
  .rw[HF (by simpa using hi),IR]at e;split at e<;>cases e
 refine#[by unfold startD L2.start;simp[hl],λi d e _=>get i d e,λi d e=>?_,λi j di dj a e=>?_]
 .obtain⟨v,_,r⟩:=get i _ e;exact absurd r rep_own
 .obtain⟨v,_,r⟩:=get i _ e;exact absurd r rep_own
abbrev TD:=SD->(D->Prop)->Prop
abbrev TDT:=SD->(Bool->Prop)->Prop
abbrev TDA:=SD->(List D->Prop)->Prop
structure EndsD where
 nx:SD->Prop
 rt:D->Prop
 bk:SD->Prop:=λ_=>False
 ct:SD->Prop:=λ_=>False
abbrev TSD:=EndsD->SD->Prop
def lE(K:Ex)[J:Jx](t:TD):TE:=λs H Q=>∃B F z,Kept B J.F0 F H/\RepS K B F H z s/\∃R:D->Prop,t z R/\∀d v F' H',Grow F H F' H'->R d->Rep K F' d v->Q v H'
def lT(K:Ex)[J:Jx](t:TDT):TT:=λs H Q=>∃B F z,Kept B J.F0 F H/\RepS K B F H z s/\∃R:Bool->Prop,t z R/\∀b F' H',Grow F H F' H'->R b->Q b H'
def lA(K:Ex)[J:Jx](t:TDA):TA:=λs H Q=>∃B F z,Kept B J.F0 F H/\RepS K B F H z s/\∃R:List D->Prop,t z R/\∀ds vs F' H',Grow F H F' H'->R ds->Reps K F' ds vs->Q vs H'
structure EndsOk[Jx](K:Ex)(B F0:Hp)(ED:EndsD)(E:Ends):Prop where
 nx:∀z' s' F' H',Kept B F0 F' H'->ED.nx z'->RepS K B F' H' z' s'->E.nx s' H'
 rt:∀d v F' H',Kept B F0 F' H'->ED.rt d->Rep K F' d v->E.rt v H'
 bk:∀z' s' F' H',Kept B F0 F' H'->ED.bk z'->RepS K B F' H' z' s'->E.bk s' H'
 ct:∀z' s' F' H',Kept B F0 F' H'->ED.ct z'->RepS K B F' H' z' s'->E.ct s' H'
def lS(K:Ex)[Jx](t:TSD):TS:=λE s H=>∃B F0 F z,Kept B F0 F H/\RepS K B F H z s/\∃ED:EndsD,t ED z/\EndsOk K B F0 ED E
abbrev DE(X:Cx)[Jx](e:Tn)(t:TD):Prop:=PE X e (lE X.K t)
abbrev DT(X:Cx)[Jx](e:Tn)(t:TDT):Prop:=PT X e (lT X.K t)
abbrev DW(X:Cx)[Jx](e:Tn)(t:TDT):Prop:=PW X e (lT X.K t)
abbrev DA(X:Cx)[Jx](es:List Tn)(t:TDA):Prop:=PA X es (lA X.K t)
abbrev DS(X:Cx)[Jx](st:SL)(t:TSD):Prop:=PS X st (lS X.K t)
abbrev DSs(X:Cx)[Jx](st:List SL)(t:TSD):Prop:=PSs X st (lS X.K t)
structure WDE(X:Cx)[Jx](e:Tn)(t:TD):Prop where
 out:DE X e t
structure WDT(X:Cx)[Jx](e:Tn)(t:TDT):Prop where
 out:DT X e t
structure WDW(X:Cx)[Jx](e:Tn)(t:TDT):Prop where
 out:DW X e t
structure WDA(X:Cx)[Jx](es:List Tn)(t:TDA):Prop where
 out:DA X es t
structure WDS(X:Cx)[Jx](st:SL)(t:TSD):Prop where
 out:DS X st t
structure WDSs(X:Cx)[Jx](st:List SL)(t:TSD):Prop where
 out:DSs X st t
section
variable {X:Cx}
def okR(R:D->Prop):D->Prop|.own _=>False|d=>R d
def dVar(i:Nat):TD:=λz R=>match z[i]? with|some (be d)=>okR R d|_=>False
def dC(d:D):TD:=λ_ R=>R d
variable{x:F_}
def aa[Jx](i:Nat){pos:Tw}(hN:autoParam (X.N[i]?=be x) zA0)(hv:autoParam (Vis X.env.scope x) zA5)(hd:autoParam (zND x) zA1)
  (gV:autoParam (zNC x) zA1):WDE X (.Name x pos) (dVar i):=⟨(cK hN hv hd gV).anti λs H Q h=>by
 obtain⟨B,F,z,kf,r,R,h1,h2⟩:=h;have fh:=kf.fh;unfold dVar at h1;split at h1
 .rename_i d e;have no:gR d=false:=by
   cases d with
   |own ds=>exact False.elim h1
   |_=>rfl
  have Rj:R d:=by
   cases d with
   |own ds=>exact False.elim h1
   |_=>exact h1
  obtain⟨v,q1,q2⟩:=r.val i d e no;exact#[v,q1,h2 d v F H (Grow.refl fh) Rj q2]
 .exact h1.elim⟩
variable{e:Tn}
def de_c[Jx]{d:D}{v:V}(h:PE X e (tC v))(r:∀H,Rep X.K H d v):DE X e (dC d):=h.anti λs H Q q=>by
 obtain⟨B,F,z,kf,_,R,h1,h2⟩:=q;have fh:=kf.fh;exact h2 d v F H (Grow.refl fh) h1 (r F)
def ad[Jx]{i j pos}:WDE X (.Constant (.int i) j pos) (dC (.int i)):=#[de_c wg λ_=>rep_int.mpr rfl]
def cL[Jx]{b j pos}:WDE X (.Constant (.bool b) j pos) (dC (.bl b)):=#[de_c wj λ_=>rep_bl.mpr rfl]
def bV[Jx]{j pos}:WDE X (.Constant .none j pos) (dC .non):=#[de_c wk λ_=>rep_non.mpr rfl]
def aA[Jx]{x j pos}:WDE X (.Constant (.str x) j pos) (dC (.str x)):=#[de_c qp λ_=>rep_str.mpr rfl]
abbrev RD2:=D->D->(D->Prop)->Prop
def dOp(r:RD2)(ta tb:TD):TD:=λz R=>ta z λx=>tb z λy=>r x y R
def bb(K:Ex)(r:R2)(rd:RD2):Prop:=∀x y u v F H R Q,Same F H->rd x y R->Rep K F x u->Rep K F y v->(∀d w F' H',Grow F H F' H'->R d->Rep K F' d w->Q w H')->r u v H Q
variable{r:R2}{rd:RD2}
def km[Jx]{ta tb:TD}(L:bb X.K r rd)(h:PE X e (tOp r (lE X.K ta) (lE X.K tb))):DE X e (dOp rd ta tb):=h.anti λs H Q q=>by
 obtain⟨B,F,z,kf,rs,R,h1,h2⟩:=q;have fh:=kf.fh;refine#[B,F,z,kf,rs,_,h1,λx u F1 H1 g1 hx rx=>?_];refine#[B,F1,z,kf.grow g1,rs.grow g1,_,hx,λy v F2 H2 g2 hy ry=>?_];exact L x y u v F2 H2 R Q g2.fh hy (rx.mono g2.ff) ry λd w F' H' g3=>h2 d w F' H' (g1.trans (g2.trans g3))
variable {a b c:Tn}{ta tb tc:TD}{pos:Tw}
def dG[Jx]{op:UV}(ho:OpR X (TV op) r)(L:bb X.K r rd)(ha:DE X a ta)(hb:DE X b tb):DE X (.BinOp a op b pos) (dOp rd ta tb):=km L (jP ho ha hb)
def rN[Jx]{op:Vg}(ho:OpR X (TK op) r)(L:bb X.K r rd)(ha:DE X a ta)(hb:DE X b tb)(hm:TU op b=false):DE X (.Compare a [op] [b] pos) (dOp rd ta tb):=km L (qN ho ha hb hm)
def yr[Jx](hr:IxR X r)(L:bb X.K r rd)(ha:DE X a ta)(hb:DE X b tb)(hs:autoParam (dZ b) zA6):DE X (.Subscript a b pos) (dOp rd ta tb):=km L (pe_ix hr ha hb hs)
def rdAdd:RD2:=λx y R=>match x,y with
 |.int i,.int j=>R (.int (i+j))
 |.str i,.str j=>i.length+j.length<=1000000/\R (.str (i++j))
 |.lst xs,.lst ys=>xs.length+ys.length<=1000000/\R (.lst (xs++ys))
 |.tup xs,.tup ys=>(xs≠[]/\ys≠[]/\xs.length+ys.length<=1000000)/\R (.tup (xs++ys))
 |_,_=>False
def rO(K:Ex):R2:=λx y H Q=>rI0 (λi j=>.int (i+j)) x y H Q\/((λx y H Q=>∃i j,x=.str i/\y=.str j/\i.length+j.length<=sizeLine/\Q (.str (i++j)) H) x y H Q\/(rCat x y H Q\/rk K x y H Q))
def rP:OpR X (TV .Add) (rO X.K):=OpR.or wT (OpR.or xi (OpR.or rC xN))
def Reps.append{K:Ex}{F:Hp}:∀{xs ys:List D} {us vs:List V},Reps K F xs us->Reps K F ys vs->Reps K F (xs++ys) (us++vs)
 |[],ys,us,vs,r1,r2=>by rw[reps_nil.mp r1];exact r2
 |x::xs,ys,us,vs,r1,r2=>by
  obtain⟨u,ur,rfl,a1,a2⟩:=reps_cons.mp r1;exact reps_cons.mpr #[u,ur++vs,rfl,a1,Reps.append a2 r2]
variable{K:Ex}
def Reps.ne_nil{F:Hp}{xs:List D}{us:List V}(r:Reps K F xs us)(h:xs≠[]):us≠[]:=by
 cases xs with
 |nil=>exact absurd rfl h
 |cons x xs=>obtain⟨u,ur,rfl,_⟩:=reps_cons.mp r;exact λz=>nomatch z
def rQ:bb K (rO K) rdAdd:=by
 intro x y u v F H R Q fh h rx ry q;unfold rdAdd at h;split at h
 .exact .inl #[_,_,rep_int.mp rx,rep_int.mp ry,q _ _ F H (Grow.refl fh) h (rep_int.mpr rfl)]
 .exact .inr (.inl #[_,_,rep_str.mp rx,rep_str.mp ry,GW h.1 K3,q _ _ F H (Grow.refl fh) h.2 (rep_str.mpr rfl)])
 .obtain⟨a,us,rfl,hq,rr⟩:=rep_lst.mp rx;obtain⟨b,vs,rfl,v_,Kh⟩:=rep_lst.mp ry;refine .inr (.inr (.inl #[a,b,us,vs,rfl,rfl,fh _ _ hq,fh _ _ v_,by rw[rr.length,Kh.length];exact GW h.1 K3,λp hp=>?_]));exact q _ _ _ _ (Grow.new fh hp _) h.2 (rep_lst.mpr #[p,_,rfl,az,(rr.append Kh).mono (aN (fh.free hp) _)])
 .obtain⟨a,us,rfl,hq,rr⟩:=rep_tup_mp rx;obtain⟨b,vs,rfl,v_,Kh⟩:=rep_tup_mp ry;obtain⟨⟨n1,n2,hz⟩,h⟩:=h;refine .inr (.inr (.inr #[a,b,us,vs,rfl,rfl,fh.tup hq,fh.tup v_,rr.ne_nil n1,by rw[rr.length,Kh.length];exact GW hz K3,λz=>absurd z (Kh.ne_nil n2),λ_ p hp=>?_]));exact q _ _ _ _ (Grow.new fh hp _) h (rep_tupS.mpr #[p,_,rfl,az,(rr.append Kh).mono (aN (fh.free hp) _)])
 .exact h.elim
def aj[Jx](ha:WDE X a ta)(hb:WDE X b tb):WDE X (.BinOp a .Add b pos) (dOp rdAdd ta tb):=#[have ha:=ha.out;have hb:=hb.out;dG rP rQ ha hb]
def rdSub:RD2:=λx y R=>match x,y with|.int i,.int j=>R (.int (i-j))|_,_=>False
def rR:bb K (rI0 λi j=>.int (i-j)) rdSub:=by
 intro x y u v F H R Q fh h rx ry q;unfold rdSub at h;split at h
 .exact#[_,_,rep_int.mp rx,rep_int.mp ry,q _ _ F H (Grow.refl fh) h (rep_int.mpr rfl)]
 .exact h.elim
def bo[Jx](ha:WDE X a ta)(hb:WDE X b tb):WDE X (.BinOp a .Sub b pos) (dOp rdSub ta tb):=#[have ha:=ha.out;have hb:=hb.out;dG qF rR ha hb]
def rdMul:RD2:=λx y R=>match x,y with|.int i,.int j=>CMul i j/\R (.int (i*j))|_,_=>False
def yt:bb K (rI CMul λi j=>.int (i*j)) rdMul:=by
 intro x y u v F H R Q fh h rx ry q;unfold rdMul at h;split at h
 .exact#[_,_,rep_int.mp rx,rep_int.mp ry,h.1,q _ _ F H (Grow.refl fh) h.2 (rep_int.mpr rfl)]
 .exact h.elim
def aw[Jx](ha:WDE X a ta)(hb:WDE X b tb):WDE X (.BinOp a .Mult b pos) (dOp rdMul ta tb):=#[have ha:=ha.out;have hb:=hb.out;dG wU yt ha hb]
def rdFdiv:RD2:=λx y R=>match x,y with|.int i,.int j=>(0<j/\j<1073741824)/\R (.int (i/j))|_,_=>False
def yu:bb K (rI CDiv λi j=>.int (i/j)) rdFdiv:=by
 intro x y u v F H R Q fh h rx ry q;unfold rdFdiv at h;split at h
 .exact#[_,_,rep_int.mp rx,rep_int.mp ry,h.1,q _ _ F H (Grow.refl fh) h.2 (rep_int.mpr rfl)]
 .exact h.elim
def aX[Jx](ha:WDE X a ta)(hb:WDE X b tb):WDE X (.BinOp a .FloorDiv b pos) (dOp rdFdiv ta tb):=#[have ha:=ha.out;have hb:=hb.out;dG wV yu ha hb]
def rS(i j:Int):Prop:=j≠0/\j.natAbs<4611686018427387904
def yw:OpR X (TV .FloorDiv) (rI rS λi j=>.int (i.fdiv j)):=opI λ_ j _ _ _ _ _ hc q=>floordiv_int hc.1 q (.inl (PyProof.noPylong_of_log2 (JC ((JE (λz=>hc.1 (JF.mp z))).mpr (show j.natAbs<2^62 from hc.2)) K3)))
def rdFdivN:RD2:=λx y R=>match x,y with|.int i,.int j=>(j≠0/\j.natAbs<4611686018427387904)/\R (.int (i.fdiv j))|_,_=>False
def yx:bb K (rI rS λi j=>.int (i.fdiv j)) rdFdivN:=by
 intro x y u v F H R Q fh h rx ry q;unfold rdFdivN at h;split at h
 .exact#[_,_,rep_int.mp rx,rep_int.mp ry,h.1,q _ _ F H (Grow.refl fh) h.2 (rep_int.mpr rfl)]
 .exact h.elim
def yy[Jx](ha:WDE X a ta)(hb:WDE X b tb):WDE X (.BinOp a .FloorDiv b pos) (dOp rdFdivN ta tb):=#[have ha:=ha.out;have hb:=hb.out;dG yw yx ha hb]
def rdMod:RD2:=λx y R=>match x,y with|.int i,.int j=>0<j/\R (.int (i%j))|_,_=>False
def yz:bb K (rI (λ_ j=>0<j) λi j=>.int (i%j)) rdMod:=by
 intro x y u v F H R Q fh h rx ry q;unfold rdMod at h;split at h
 .exact#[_,_,rep_int.mp rx,rep_int.mp ry,h.1,q _ _ F H (Grow.refl fh) h.2 (rep_int.mpr rfl)]
 .exact h.elim
def aC[Jx](ha:WDE X a ta)(hb:WDE X b tb):WDE X (.BinOp a .Mod b pos) (dOp rdMod ta tb):=#[have ha:=ha.out;have hb:=hb.out;dG wW yz ha hb]
def rdModN:RD2:=λx y R=>match x,y with|.int i,.int j=>j≠0/\R (.int (i.fmod j))|_,_=>False
def yB:bb K (rI (λ_ j=>j≠0) λi j=>.int (i.fmod j)) rdModN:=by
 intro x y u v F H R Q fh h rx ry q;unfold rdModN at h;split at h
 .exact#[_,_,rep_int.mp rx,rep_int.mp ry,h.1,q _ _ F H (Grow.refl fh) h.2 (rep_int.mpr rfl)]
 .exact h.elim
def rT[Jx](ha:WDE X a ta)(hb:WDE X b tb):WDE X (.BinOp a .Mod b pos) (dOp rdModN ta tb):=#[have ha:=ha.out;have hb:=hb.out;dG wX yB ha hb]
def rdLt:RD2:=λx y R=>match x,y with|.int i,.int j=>R (.bl (decide (i<j)))|_,_=>False
def rV:bb K (rI0 λi j=>.bl (decide (i<j))) rdLt:=by
 intro x y u v F H R Q fh h rx ry q;unfold rdLt at h;split at h
 .exact#[_,_,rep_int.mp rx,rep_int.mp ry,q _ _ F H (Grow.refl fh) h (rep_bl.mpr rfl)]
 .exact h.elim
def rdLe:RD2:=λx y R=>match x,y with|.int i,.int j=>R (.bl (decide (i<=j)))|_,_=>False
def yD:bb K (rI0 λi j=>.bl (decide (i<=j))) rdLe:=by
 intro x y u v F H R Q fh h rx ry q;unfold rdLe at h;split at h
 .exact#[_,_,rep_int.mp rx,rep_int.mp ry,q _ _ F H (Grow.refl fh) h (rep_bl.mpr rfl)]
 .exact h.elim
def rdGt:RD2:=λx y R=>match x,y with|.int i,.int j=>R (.bl (decide (j<i)))|_,_=>False
def rW:bb K (rI0 λi j=>.bl (decide (j<i))) rdGt:=by
 intro x y u v F H R Q fh h rx ry q;unfold rdGt at h;split at h
 .exact#[_,_,rep_int.mp rx,rep_int.mp ry,q _ _ F H (Grow.refl fh) h (rep_bl.mpr rfl)]
 .exact h.elim
def rdGe:RD2:=λx y R=>match x,y with|.int i,.int j=>R (.bl (decide (j<=i)))|_,_=>False
def yF:bb K (rI0 λi j=>.bl (decide (j<=i))) rdGe:=by
 intro x y u v F H R Q fh h rx ry q;unfold rdGe at h;split at h
 .exact#[_,_,rep_int.mp rx,rep_int.mp ry,q _ _ F H (Grow.refl fh) h (rep_bl.mpr rfl)]
 .exact h.elim
def rdEq:RD2:=λx y R=>match x,y with
 |.int i,.int j=>R (.bl (decide (i=j)))
 |.bl i,.bl j=>R (.bl (decide (i=j)))
 |.str i,.str j=>R (.bl (decide (i=j)))
 |.non,.non=>R (.bl true)
 |_,_=>False
def rdNe:RD2:=λx y R=>match x,y with
 |.int i,.int j=>R (.bl (!decide (i=j)))
 |.bl i,.bl j=>R (.bl (!decide (i=j)))
 |.str i,.str j=>R (.bl (!decide (i=j)))
 |.non,.non=>R (.bl false)
 |_,_=>False
def ko:bb K rEq rdEq:=by
 intro x y u v F H R Q fh h rx ry q;unfold rdEq at h;split at h
 .rw[rep_int.mp rx,rep_int.mp ry];refine#[rfl,q _ _ F H (Grow.refl fh) h (rep_bl.mpr ?_)];simp
 .rw[rep_bl.mp rx,rep_bl.mp ry];refine#[rfl,q _ _ F H (Grow.refl fh) h (rep_bl.mpr ?_)];simp
 .rw[rep_str.mp rx,rep_str.mp ry];refine#[rfl,q _ _ F H (Grow.refl fh) h (rep_bl.mpr ?_)];simp
 .rw[rep_non.mp rx,rep_non.mp ry];refine#[rfl,q _ _ F H (Grow.refl fh) h (rep_bl.mpr ?_)];simp
 .exact h.elim
def rX:bb K rNe rdNe:=by
 intro x y u v F H R Q fh h rx ry q;unfold rdNe at h;split at h
 .rw[rep_int.mp rx,rep_int.mp ry];refine#[rfl,q _ _ F H (Grow.refl fh) h (rep_bl.mpr ?_)];simp
 .rw[rep_bl.mp rx,rep_bl.mp ry];refine#[rfl,q _ _ F H (Grow.refl fh) h (rep_bl.mpr ?_)];simp
 .rw[rep_str.mp rx,rep_str.mp ry];refine#[rfl,q _ _ F H (Grow.refl fh) h (rep_bl.mpr ?_)];simp
 .rw[rep_non.mp rx,rep_non.mp ry];refine#[rfl,q _ _ F H (Grow.refl fh) h (rep_bl.mpr ?_)];simp
 .exact h.elim
def dH[Jx](ha:WDE X a ta)(hb:WDE X b tb):WDE X (.Compare a [.Eq] [b] pos) (dOp rdEq ta tb):=#[have ha:=ha.out;have hb:=hb.out;rN jQ ko ha hb (nomark _)]
def kq:D->Bool|.non=>true|_=>false
def rdIs(f:Bool->Bool):RD2:=λx y R=>match y with|.non=>R (.bl (f (kq x)))|_=>False
def rY{H:Hp}{x:D}{u:V}(r:Rep K H x u):decide (u=.non)=kq x:=by
 cases x with
 |non=>rw[rep_non.mp r];rfl
 |bl b=>rw[rep_bl.mp r];rfl
 |int b=>rw[rep_int.mp r];rfl
 |str b=>rw[rep_str.mp r];rfl
 |tup b=>obtain⟨a,vs,rfl,_⟩:=rep_tup_mp r;rfl
 |lst b=>obtain⟨a,vs,rfl,_⟩:=rep_lst.mp r;rfl
 |rol b=>obtain⟨a,vs,rfl,_⟩:=rep_rol.mp r;rfl
 |obj C b=>obtain⟨a,C,dx,vs,rfl,_⟩:=rep_obj.mp r;rfl
 |exc C b=>obtain⟨a,C,od,vs,rfl,_⟩:=rep_exc.mp r;rfl
 |own b=>exact absurd r rep_own
 |ptr b=>rw[rep_ptr.mp r];rfl
 |dti b=>obtain⟨a,rfl,_⟩:=rep_dti.mp r;rfl
def kr:bb K (λx y H Q=>y=.non/\Q (.bl (decide (x=.non))) H) (rdIs id):=by
 intro x y u v F H R Q fh h rx ry q;unfold rdIs at h;split at h
 .exact#[rep_non.mp ry,q _ _ F H (Grow.refl fh) h (rep_bl.mpr (by rw[rY rx];rfl))]
 .exact h.elim
def yG:bb K (λx y H Q=>y=.non/\Q (.bl (!decide (x=.non))) H) (rdIs not):=by
 intro x y u v F H R Q fh h rx ry q;unfold rdIs at h;split at h
 .exact#[rep_non.mp ry,q _ _ F H (Grow.refl fh) h (rep_bl.mpr (by rw[rY rx]))]
 .exact h.elim
def yH[Jx](ha:WDE X a ta)(hb:WDE X b tb):WDE X (.Compare a [.Is] [b] pos) (dOp (rdIs id) ta tb):=#[have ha:=ha.out;have hb:=hb.out;rN jR kr ha hb (nomark _)]
def rdIx:RD2:=λx y R=>match x,y with
 |.tup ds,.int i=>∃d,atI ds i=be d/\R d
 |.lst ds,.int i=>∃d,atI ds i=be d/\R d
 |.rol ds,.int i=>∃d,atI ds i=be d/\R d
 |.str x,.int i=>∃c,(x.length<=1000000/\atI x.cps.toList i=be c)/\R (.str #[[c].toArray])
 |_,_=>False
def Reps.at{H:Hp}{ds:List D}{vs:List V}{i:Int}{d:D}(r:Reps K H ds vs)(e:atI ds i=be d):∃v,atI vs i=be v/\Rep K H d v:=by
 unfold atI at e ⊢;rw[r.length];cases q:ixN ds.length i with
 |none=>rw[q]at e;cases e
 |some j=>
  rw[q]at e;exact r.get e
def rZ:bb K (rIx K) rdIx:=by
 intro x y u v F H R Q fh h rx ry q;unfold rdIx at h;split at h
 .obtain⟨d,e,h⟩:=h;obtain⟨a,vs,e1,hq,rs⟩:=rep_tup_mp rx;obtain⟨w,e2,h_⟩:=rs.at e;exact .inr (.inl #[a,vs,_,w,e1,rep_int.mp ry,fh.tup hq,e2,q d w F H (Grow.refl fh) h h_])
 .obtain⟨d,e,h⟩:=h;obtain⟨a,vs,e1,hq,rs⟩:=rep_lst.mp rx;obtain⟨w,e2,h_⟩:=rs.at e;exact .inl #[a,vs,_,w,e1,rep_int.mp ry,fh.seq (SqL.of hq),e2,q d w F H (Grow.refl fh) h h_]
 .obtain⟨d,e,h⟩:=h;obtain⟨a,vs,e1,hq,rs⟩:=rep_rol.mp rx;obtain⟨w,e2,h_⟩:=rs.at e;exact .inl #[a,vs,_,w,e1,rep_int.mp ry,fh.seq hq,e2,q d w F H (Grow.refl fh) h h_]
 .obtain⟨c,⟨hz,e⟩,h⟩:=h;exact .inr (.inr #[_,_,c,rep_str.mp rx,rep_int.mp ry,GW hz K3,e,q _ _ F H (Grow.refl fh) h (rep_str.mpr rfl)])
 .exact h.elim
def af[Jx](ha:WDE X a ta)(hb:WDE X b tb)(hs:autoParam (dZ b) zA6):WDE X (.Subscript a b pos) (dOp rdIx ta tb):=#[have ha:=ha.out;have hb:=hb.out;yr rn rZ ha hb hs]
def dUn(r:D->(D->Prop)->Prop)(ta:TD):TD:=λz R=>ta z λx=>r x R
def se:D->(D->Prop)->Prop:=λx R=>match x with|.int i=>R (.int (-i))|_=>False
def ck[Jx](ha:WDE X a ta):WDE X (.UnaryOp .USub a pos) (dUn se ta):=⟨have ha:=ha.out;(wS wY ha).anti λs H Q h=>by
 obtain⟨B,F,z,kf,rs,R,h1,h2⟩:=h;have fh:=kf.fh;refine#[B,F,z,kf,rs,_,h1,λx u F1 H1 g1 hx rx=>?_];unfold se at hx;split at hx
 .exact#[_,rep_int.mp rx,h2 _ _ F1 H1 g1 hx (rep_int.mpr rfl)]
 .exact hx.elim⟩
def dNil:TDA:=λ_ R=>R []
def yI(ta:TD)(tr:TDA):TDA:=λz R=>ta z λx=>tr z λxs=>R (x::xs)
def ae[Jx]:WDA X [] dNil:=⟨pa_nil.anti λs H Q h=>by
 obtain⟨B,F,z,kf,rs,R,h1,h2⟩:=h;have fh:=kf.fh;exact h2 [] [] F H (Grow.refl fh) h1 (reps_nil.mpr rfl)⟩
variable{es:List Tn}{t:TDA}
def ac[Jx]{te:TD}(ha:WDE X e te)(hr:WDA X es t)(hs:autoParam (zSE X e es) zA0):WDA X (e::es) (yI te t):=⟨have ha:=ha.out;have hr:=hr.out;(bD ha hr hs).anti λs H Q h=>by
 obtain⟨B,F,z,kf,rs,R,h1,h2⟩:=h;have fh:=kf.fh;refine#[B,F,z,kf,rs,_,h1,λx u F1 H1 g1 hx rx=>?_];refine#[B,F1,z,kf.grow g1,rs.grow g1,_,hx,λxs us F2 H2 g2 hy ry=>?_];exact h2 _ _ F2 H2 (g1.trans g2) hy (reps_cons.mpr #[_,_,rfl,rx.mono g2.ff,ry])⟩
def dTup(t:TDA):TD:=λz R=>t z λxs=>xs.length<=1000/\R (.tup xs)
def dLst(t:TDA):TD:=λz R=>t z λxs=>xs.length<=1000/\R (.lst xs)
def aI[Jx]{x1}(h:WDA X es t):WDE X (.Tuple es x1 pos) (dTup t):=⟨have h:=h.out;(qX h).anti λs H Q q=>by
 obtain⟨B,F,z,kf,rs,R,h1,h2⟩:=q;have fh:=kf.fh;refine#[B,F,z,kf,rs,_,h1,λds vs F1 H1 g1 hx rx=>?_];have hl:=rx.length;refine#[sz (by rw[hl];exact hx.1),λp hp=>?_];exact h2 _ _ _ _ (g1.trans (Grow.new g1.fh hp _)) hx.2 (rep_tupS.mpr #[p,vs,rfl,az,rx.mono (aN (g1.fh.free hp) _)])⟩
def br[Jx](h:WDA X es t):WDE X (.List es pos) (dLst t):=⟨have h:=h.out;(jV h).anti λs H Q q=>by
 obtain⟨B,F,z,kf,rs,R,h1,h2⟩:=q;have fh:=kf.fh;refine#[B,F,z,kf,rs,_,h1,λds vs F1 H1 g1 hx rx=>?_];have hl:=rx.length;refine#[sz (by rw[hl];exact hx.1),λp hp=>?_];exact h2 _ _ _ _ (g1.trans (Grow.new g1.fh hp _)) hx.2 (rep_lst.mpr #[p,vs,rfl,az,rx.mono (aN (g1.fh.free hp) _)])⟩
abbrev SpD:=List D->(D->Prop)->Prop
def lSp(K:Ex)(S:SpD):Sp:=λvs H Q _=>∃F ds,Same F H/\Reps K F ds vs/\∃R:D->Prop,S ds R/\∀d v F' H',Grow F H F' H'->R d->Rep K F' d v->Q v H'
def yJ(S:SpD)(t:TDA):TD:=λz R=>t z λds=>S ds R
abbrev CalD(P:SZ)(w:Tp)(K:Ex)(mg:F_->Option KB)(base:Heap)(n:Nat)(x:F_)(ps:List F_)(S:SpD):Prop:=Cal P w K mg base n x ps (lSp K S)
variable{p:Tw}
def av[Jx]{n m:Nat}{ps:List F_}{S:SpD}(C:CalD X.prog X.w X.K X.mg X.base n x ps S)(hr:Room m X.A)(ha:WDA X (e::es) t)(hg:autoParam (Gl X x) zA0)(hn:autoParam (n<=m) zA1)(d5:autoParam (zND x) zA1)
  (he:autoParam (zSE X e es) zA0) (c5:autoParam (zPL X pos es) zA0):WDE X (.Call (.Name x p) (e::es) [] pos) (yJ S t):=⟨have ha:=ha.out;(yq C hr ha hg hn d5 he c5).anti λs H Q h=>by
 obtain⟨B,F,z,kf,rs,R,h1,h2⟩:=h;have fh:=kf.fh;refine#[B,F,z,kf,rs,_,h1,λds vs F1 H1 g1 hx rx=>?_];exact#[F1,ds,g1.fh,by rw[Hl];exact rx,R,hx,λd v F' H' g=>h2 d v F' H' (g1.trans g)]⟩
abbrev RDn:=List D->(D->Prop)->Prop
def cw(K:Ex)(r:List V->Hp->VK->Prop)(rd:RDn):Prop:=∀ds vs F H R Q,Same F H->rd ds R->Reps K F ds vs->(∀d w F' H',Grow F H F' H'->R d->Rep K F' d w->Q w H')->r vs H Q
def dCB(r:RDn)(t:TDA):TD:=λz R=>t z λds=>r ds R
def gS[Jx]{id:String}{r:List V->Hp->VK->Prop}{rd:RDn}(hc:bM X (.builtin id) r)(L:cw X.K r rd)(hm:X.mg x=t9)(hv:TN x=be (.builtin id))(ha:DA X (e::es) t)(hg:autoParam (Gl X x) zA0)(hn:autoParam (x≠"__name__") zA1)(d5:autoParam (zND x) zA1)
  (he:autoParam (zSE X e es) zA0) (c5:autoParam (zPL X pos es) zA0):DE X (.Call (.Name x p) (e::es) [] pos) (dCB rd t):=(gM hc hg hm hv ha hn d5 he c5).anti λs H Q h=>by
 obtain⟨B,F,z,kf,rs,R,h1,h2⟩:=h;have fh:=kf.fh;refine#[B,F,z,kf,rs,_,h1,λds vs F1 H1 g1 hx rx=>?_];exact L ds vs F1 H1 R Q g1.fh hx rx λd w F' H' g=>h2 d w F' H' (g1.trans g)
def rdLen:RDn:=λds R=>match ds with
 |[.tup xs]=>R (.int xs.length)
 |[.lst xs]=>R (.int xs.length)
 |[.rol xs]=>R (.int xs.length)
 |[.str x]=>x.length<=1000000/\R (.int x.length)
 |_=>False
def sf:cw K (λxs H Q=>∃x n,xs=[x]/\LenV K x H n/\Q (.int n) H) rdLen:=by
 intro ds vs F H R Q fh h rx q;unfold rdLen at h;split at h
 .obtain⟨v,r,rfl,h1,h2⟩:=reps_cons.mp rx;rw[reps_nil.mp h2];obtain⟨a,us,rfl,hq,rs⟩:=rep_tup_mp h1;exact#[.ref a,us.length,rfl,.inr #[us,fh.tup hq,rfl],q _ _ F H (Grow.refl fh) h (rep_int.mpr (by rw[rs.length]))]
 .obtain⟨v,r,rfl,h1,h2⟩:=reps_cons.mp rx;rw[reps_nil.mp h2];obtain⟨a,us,rfl,hq,rs⟩:=rep_lst.mp h1;exact#[.ref a,us.length,rfl,.inl #[us,fh.seq (SqL.of hq),rfl],q _ _ F H (Grow.refl fh) h (rep_int.mpr (by rw[rs.length]))]
 .obtain⟨v,r,rfl,h1,h2⟩:=reps_cons.mp rx;rw[reps_nil.mp h2];obtain⟨a,us,rfl,hq,rs⟩:=rep_rol.mp h1;exact#[.ref a,us.length,rfl,.inl #[us,fh.seq hq,rfl],q _ _ F H (Grow.refl fh) h (rep_int.mpr (by rw[rs.length]))]
 .obtain⟨v,r,rfl,h1,h2⟩:=reps_cons.mp rx;rw[reps_nil.mp h2,rep_str.mp h1];exact#[.str _,_,rfl,#[GW h.1 K3,rfl],q _ _ F H (Grow.refl fh) h.2 (rep_int.mpr rfl)]
 .exact h.elim
def cm[Jx](hm:X.mg "len"=t9)(ha:WDA X [e] t)(hg:autoParam (Gl X "len") zA0)(he:autoParam (zSE X e []) zA0):WDE X (.Call (.Name "len" p) [e] [] pos) (dCB rdLen t):=#[have ha:=ha.out;gS jS sf hm PySem.boot_len ha hg K3 K3 he]
def rdAbs:RDn:=λds R=>match ds with
 |[.int i]=>R (.int (if i<0 then -i else i))
 |_=>False
def yL:cw K (λxs H Q=>∃i,xs=[.int i]/\Q (.int (if i<0 then -i else i)) H) rdAbs:=by
 intro ds vs F H R Q fh h rx q;unfold rdAbs at h;split at h
 .obtain⟨v,r,rfl,h1,h2⟩:=reps_cons.mp rx;rw[reps_nil.mp h2,rep_int.mp h1];exact#[_,rfl,q _ _ F H (Grow.refl fh) h (rep_int.mpr rfl)]
 .exact h.elim
def eE[Jx](hm:X.mg "abs"=t9)(ha:WDA X [e] t)(hg:autoParam (Gl X "abs") zA0)(he:autoParam (zSE X e []) zA0):WDE X (.Call (.Name "abs" p) [e] [] pos) (dCB rdAbs t):=#[have ha:=ha.out;gS xj yL hm PyProof.Rows.boot_abs ha hg K3 K3 he]
end
section
variable {X:Cx}{a b c e:Tn}{ta tb tc te:TD}{pos:Tw}
def dTst(t:TD):TDT:=λz R=>t z λx=>match x with|.bl k=>R k|_=>False
def cX[Jx]{op:Vg}{r:R2}{rd:RD2}(ho:OpR X (TK op) r)(L:bb X.K r rd)(ha:DE X a ta)(hb:DE X b tb)(hm:TU op b=false):DT X (.Compare a [op] [b] pos) (dTst (dOp rd ta tb)):=(qO ho ha hb hm).anti λs H Q q=>by
 obtain⟨B,F,z,kf,rs,R,h1,h2⟩:=q;have fh:=kf.fh;refine#[B,F,z,kf,rs,_,h1,λx u F1 H1 g1 hx rx=>?_];refine#[B,F1,z,kf.grow g1,rs.grow g1,_,hx,λy v F2 H2 g2 hy ry=>?_];refine L x y u v F2 H2 _ _ g2.fh hy (rx.mono g2.ff) ry λd w F' H' g3 hd rd=>?_;split at hd
 .exact#[_,rep_bl.mp rd,h2 _ F' H' (g1.trans (g2.trans g3)) hd]
 .exact hd.elim
def fJ[Jx](ha:WDE X a ta)(hb:WDE X b tb):WDT X (.Compare a [.Lt] [b] pos) (dTst (dOp rdLt ta tb)):=#[have ha:=ha.out;have hb:=hb.out;cX qL rV ha hb (nomark _)]
def ku[Jx](ha:WDE X a ta)(hb:WDE X b tb):WDT X (.Compare a [.LtE] [b] pos) (dTst (dOp rdLe ta tb)):=#[have ha:=ha.out;have hb:=hb.out;cX wZ yD ha hb (nomark _)]
def fK[Jx](ha:WDE X a ta)(hb:WDE X b tb):WDT X (.Compare a [.Gt] [b] pos) (dTst (dOp rdGt ta tb)):=#[have ha:=ha.out;have hb:=hb.out;cX qM rW ha hb (nomark _)]
def si[Jx](ha:WDE X a ta)(hb:WDE X b tb):WDT X (.Compare a [.GtE] [b] pos) (dTst (dOp rdGe ta tb)):=#[have ha:=ha.out;have hb:=hb.out;cX xa yF ha hb (nomark _)]
def bc[Jx](ha:WDE X a ta)(hb:WDE X b tb):WDT X (.Compare a [.Eq] [b] pos) (dTst (dOp rdEq ta tb)):=#[have ha:=ha.out;have hb:=hb.out;cX jQ ko ha hb (nomark _)]
def cM[Jx](ha:WDE X a ta)(hb:WDE X b tb):WDT X (.Compare a [.NotEq] [b] pos) (dTst (dOp rdNe ta tb)):=#[have ha:=ha.out;have hb:=hb.out;cX qK rX ha hb (nomark _)]
def sj[Jx](ha:WDE X a ta)(hb:WDE X b tb):WDT X (.Compare a [.Is] [b] pos) (dTst (dOp (rdIs id) ta tb)):=#[have ha:=ha.out;have hb:=hb.out;cX jR kr ha hb (nomark _)]
def yM[Jx](ha:WDE X a ta)(hb:WDE X b tb):WDT X (.Compare a [.IsNot] [b] pos) (dTst (dOp (rdIs not) ta tb)):=#[have ha:=ha.out;have hb:=hb.out;cX xb yG ha hb (nomark _)]
def dTru(t:TD):TDT:=λz R=>t z λx=>match x with
 |.non=>R false
 |.bl k=>R k
 |.int i=>R (i !=0)
 |.str y=>y.length<=1000/\R ((y.length:Int) !=0)
 |.tup xs=>R (!xs.isEmpty)
 |.lst xs=>R (!xs.isEmpty)
 |.rol xs=>R (!xs.isEmpty)
 |_=>False
variable{K:Ex}
def Reps.isEmpty{H:Hp}{ds:List D}{vs:List V}(r:Reps K H ds vs):vs.isEmpty=ds.isEmpty:=by
 cases ds with
 |nil=>rw[reps_nil.mp r];rfl
 |cons d ds=>obtain⟨v,r',rfl,_⟩:=reps_cons.mp r;rfl
def cE[Jx](ha:WDE X a ta)(he:autoParam (∀f7,isTrue a X.env f7=(do let v <-f7;Ul a.pos;T1 [v] (truthy v))) zA3):WDT X a (dTru ta):=⟨have ha:=ha.out;(qP ha he).anti λs H Q q=>by
 obtain⟨B,F,z,kf,rs,R,h1,h2⟩:=q;have fh:=kf.fh;refine#[B,F,z,kf,rs,_,h1,λx u F1 H1 g1 hx rx=>?_];split at hx
 .rw[rep_non.mp rx];exact#[false,rfl,h2 _ F1 H1 g1 hx]
 .rw[rep_bl.mp rx];exact#[_,rfl,h2 _ F1 H1 g1 hx]
 .rw[rep_int.mp rx];exact#[_,rfl,h2 _ F1 H1 g1 hx]
 .rw[rep_str.mp rx];exact#[_,#[sz hx.1,rfl],h2 _ F1 H1 g1 hx.2]
 .obtain⟨p,vs,rfl,hq,rr⟩:=rep_tup_mp rx;exact#[_,.inr (.inl #[vs,g1.fh.tup hq,by rw[rr.isEmpty]]),h2 _ F1 H1 g1 hx]
 .obtain⟨p,vs,rfl,hq,rr⟩:=rep_lst.mp rx;exact#[_,.inl #[vs,g1.fh.seq (SqL.of hq),by rw[rr.isEmpty]],h2 _ F1 H1 g1 hx]
 .obtain⟨p,vs,rfl,hq,rr⟩:=rep_rol.mp rx;exact#[_,.inl #[vs,g1.fh.seq hq,by rw[rr.isEmpty]],h2 _ F1 H1 g1 hx]
 .exact hx.elim⟩
variable {tA D':TDT}{rest:List Tn}
def dAnd(t u:TDT):TDT:=λz R=>t z λc=>if c=true then u z R else R false
def dOr(t u:TDT):TDT:=λz R=>t z λc=>if c=true then R true else u z R
def dNot(t:TDT):TDT:=λz R=>t z λc=>R (!c)
def gT[Jx](ha:WDT X a tA):WDW X (.BoolOp .And [a] pos) tA:=#[have ha:=ha.out;qq ha]
def fL[Jx](ha:WDT X a tA):WDW X (.BoolOp .Or [a] pos) tA:=#[have ha:=ha.out;qr ha]
def gU[Jx](ha:WDT X a tA)(hb:WDW X (.BoolOp .And (b::rest) pos) D'):WDW X (.BoolOp .And (a::b::rest) pos) (dAnd tA D'):=⟨have ha:=ha.out;have hb:=hb.out;(qt ha hb).anti λs H Q q=>by
 obtain⟨B,F,z,kf,rs,R,h1,h2⟩:=q;have fh:=kf.fh;refine#[B,F,z,kf,rs,_,h1,λk F1 H1 g1 hx=>?_];cases k with
 |true=>exact#[B,F1,z,kf.grow g1,rs.grow g1,R,hx,λb F' H' g=>h2 b F' H' (g1.trans g)]
 |false=>exact h2 _ F1 H1 g1 hx⟩
def fM[Jx](ha:WDT X a tA)(hb:WDW X (.BoolOp .Or (b::rest) pos) D'):WDW X (.BoolOp .Or (a::b::rest) pos) (dOr tA D'):=⟨have ha:=ha.out;have hb:=hb.out;(qu ha hb).anti λs H Q q=>by
 obtain⟨B,F,z,kf,rs,R,h1,h2⟩:=q;have fh:=kf.fh;refine#[B,F,z,kf,rs,_,h1,λk F1 H1 g1 hx=>?_];cases k with
 |false=>exact#[B,F1,z,kf.grow g1,rs.grow g1,R,hx,λb F' H' g=>h2 b F' H' (g1.trans g)]
 |true=>exact h2 _ F1 H1 g1 hx⟩
def cN[Jx](h:WDW X a tA):WDT X a tA:=#[have h:=h.out;PW.pt h]
def fN[Jx](ha:WDT X a tA):WDT X (.UnaryOp .Not a pos) (dNot tA):=⟨have ha:=ha.out;(wo ha).anti λs H Q q=>by
 obtain⟨B,F,z,kf,rs,R,h1,h2⟩:=q;have fh:=kf.fh;exact#[B,F,z,kf,rs,_,h1,λk F1 H1 g1 hx=>h2 _ F1 H1 g1 hx]⟩
def yO(ta tb:TD):TD:=λz R=>ta z λx=>match x with|.bl k=>if k=true then tb z R else R (.bl false)|_=>False
def yQ(ta:TD):TD:=λz R=>ta z λx=>match x with|.bl k=>R (.bl (!k))|_=>False
def gW[Jx]{op}(h:WDE X a ta):WDE X (.BoolOp op [a] pos) ta:=#[have h:=h.out;wv h]
def gX[Jx](ha:WDE X a ta)(hb:WDE X (.BoolOp .And (b::rest) pos) tb):WDE X (.BoolOp .And (a::b::rest) pos) (yO ta tb):=⟨have ha:=ha.out;have hb:=hb.out;(ww ha hb).anti λs H Q q=>by
 obtain⟨B,F,z,kf,rs,R,h1,h2⟩:=q;have fh:=kf.fh;refine#[B,F,z,kf,rs,_,h1,λx u F1 H1 g1 hx rx=>?_];split at hx
 .rename_i k;refine#[k,rep_bl.mp rx,?_];cases k with
  |true=>exact#[B,F1,z,kf.grow g1,rs.grow g1,R,hx,λd v F' H' g=>h2 d v F' H' (g1.trans g)]
  |false=>exact h2 _ _ F1 H1 g1 hx (rep_bl.mpr rfl)
 .exact hx.elim⟩
def yR[Jx](ha:WDE X a ta):WDE X (.UnaryOp .Not a pos) (yQ ta):=⟨have ha:=ha.out;(wx ha).anti λs H Q q=>by
 obtain⟨B,F,z,kf,rs,R,h1,h2⟩:=q;have fh:=kf.fh;refine#[B,F,z,kf,rs,_,h1,λx u F1 H1 g1 hx rx=>?_];split at hx
 .exact#[_,rep_bl.mp rx,h2 _ _ F1 H1 g1 hx (rep_bl.mpr rfl)]
 .exact hx.elim⟩
def tyD:D->String
 |.non=>"NoneType"|.bl _=>"bool"|.int _=>"int"|.str _=>"str"|.tup _=>"tuple"|.lst _=>"list"|.rol _=>"list"|.obj _ _=>"object"|.exc _ _=>"object"|.own _=>"list"|.ptr _=>"object"|.dti _=>"dict"
def eF(t:String)(x:D):Bool:=tyD x==t||(tyD x=="bool" && t=="int")
def TyQ(K:Ex)(H:Hp)(x:V)(t:String):Prop:=TyOf K H x (.type t)\/(t="tuple"/\∃a xs,x=.ref a/\SqT K H a xs)\/(t="list"/\∃a xs,x=.ref a/\SqL K H a xs)
def yT:bM X (.builtin "isinstance") (λxs H Q=>∃x t c k,xs=[x,.ty c]/\TyQ X.K H x t/\kitOne X.K (.type t) (.type c)=be k/\Q (.bl k) H):=by
 intro pins s σ H xs us Q I r h;obtain⟨x,t,c,k,rfl,ty,e,q⟩:=h;obtain⟨u,u',rfl,rx,rc⟩:=fF r;cases(show u'=Value.type c from rc);rcases ty with ty|⟨rfl,a,ys,rfl,hq⟩|⟨rfl,a,ys,rfl,hq⟩
 .exact xy I rx ty e λtk=>#[.bl k,H,I.tok _,rfl,q]
 .cases(show u=Value.ref a from rx);obtain⟨its,_,⟨o,h1,h2,_⟩,_⟩:=I.tuple hq;exact kia_one kitx_tuple I.kIn #[o,h1,h2] e (λz=>nomatch z) λtk=>#[.bl k,H,I.tok _,rfl,q]
 .cases(show u=Value.ref a from rx);obtain⟨its,_,pl,_⟩:=I.list hq;obtain⟨o,n,h1,h2,_⟩:=pl;exact kia_one kitx_list I.kIn #[o,h1,h2] e (λz=>nomatch z) λtk=>#[.bl k,H,I.tok _,rfl,q]
def eI:D->Bool|.obj _ _=>false|.exc _ _=>false|.ptr _=>false|.dti _=>false|_=>true
def yU{F H:Hp}{x:D}{u:V}(fh:Same F H)(r:Rep K F x u)(no:eI x=true):TyQ K H u (tyD x):=by
 cases x with
 |non=>rw[rep_non.mp r];exact .inl .non
 |bl b=>rw[rep_bl.mp r];exact .inl (.bl b)
 |int b=>rw[rep_int.mp r];exact .inl (.int b)
 |str b=>rw[rep_str.mp r];exact .inl (.str b)
 |tup b=>obtain⟨a,vs,rfl,hq,_⟩:=rep_tup_mp r;exact .inr (.inl #[rfl,a,vs,rfl,fh.tup hq])
 |lst b=>obtain⟨a,vs,rfl,hq,_⟩:=rep_lst.mp r;exact .inr (.inr #[rfl,a,vs,rfl,fh.seq (SqL.of hq)])
 |rol b=>obtain⟨a,vs,rfl,hq,_⟩:=rep_rol.mp r;exact .inr (.inr #[rfl,a,vs,rfl,fh.seq hq])
 |obj C b=>cases no
 |exc C b=>cases no
 |ptr b=>cases no
 |dti b=>cases no
 |own b=>exact absurd r rep_own
def yV(t:String):D->(D->Prop)->Prop:=λx R=>match x with|.obj _ _=>False|.exc _ _=>False|.ptr _=>False|.dti _=>False|x=>R (.bl (eF t x))
def ky[Jx]{p p2:Tw}{y:F_}{t:String}(hm:X.mg "isinstance"=t9)(Rk:X.mg y=t9)(ha:WDE X a ta)(hv:TN y=be (.type t))
  (hk:∀x:D,eI x=true->kitOne X.K (.type (tyD x)) (.type t)=be (eF t x)) (hg:autoParam (Gl X "isinstance") zA0) (Rl:autoParam (Gl X y) zA0) (hn:autoParam (y≠"__name__") zA1) (d5:autoParam (zND y) zA1)
  (n_:autoParam (Tr [a,.Name y p2] X.env=(false,Tv a X.env)::Tr [.Name y p2] X.env) zA0) (n4:autoParam (Tr [.Name y p2] X.env=(false,Tv (.Name y p2) X.env)::Tr [] X.env) zA0) (c5:autoParam ((Ua pos (Tr [.Name y p2] X.env)).any (·.1)=false) zA0):WDE X (.Call (.Name "isinstance" p) [a,.Name y p2] [] pos) (dUn (yV t) ta):=⟨have ha:=ha.out;(gM yT hg hm PyProof.Rows.boot_isinstance (bD ha (bD (wn (v:=.ty t) Rl Rk hv rfl hn d5) pa_nil n4) n_) K3 K3 n_ c5).anti λs H Q q=>by
 obtain⟨B,F,z,kf,rs,R,h1,h2⟩:=q;have fh:=kf.fh;refine#[B,F,z,kf,rs,_,h1,λx u F1 H1 g1 hx rx=>?_];have no:eI x=true:=by
  cases x with
  |obj C b=>exact False.elim hx
  |exc C b=>exact False.elim hx
  |ptr b=>exact False.elim hx
  |dti b=>exact False.elim hx
  |_=>rfl
 have f8:R (.bl (eF t x)):=by
  cases x with
  |obj C b=>exact False.elim hx
  |exc C b=>exact False.elim hx
  |ptr b=>exact False.elim hx
  |dti b=>exact False.elim hx
  |_=>exact hx
 exact#[u,tyD x,t,_,rfl,yU g1.fh rx no,hk x no,h2 _ _ F1 H1 g1 f8 (rep_bl.mpr rfl)]⟩
def yY:∀x:D,eI x=true->kitOne K (.type (tyD x)) (.type "int")=be (eF "int" x):=by intro x no;cases x<;>first|rfl|cases no
def kit_bool:∀x:D,eI x=true->kitOne K (.type (tyD x)) (.type "bool")=be (eF "bool" x):=by intro x no;cases x<;>first|rfl|cases no
def kit_list:∀x:D,eI x=true->kitOne K (.type (tyD x)) (.type "list")=be (eF "list" x):=by intro x no;cases x<;>first|rfl|cases no
def toV:D->Option V
 |.non=>be .non|.bl b=>be (.bl b)|.int i=>be (.int i)|.str x=>be (.str x)|_=>t9
def bI(d:D):Bool:=(toV d).isSome
def eqF:D->D->Bool
 |.non,.non=>true
 |.bl a,.bl b=>a==b
 |.bl a,.int b=>(if a then 1 else 0)==b
 |.int a,.bl b=>a==(if b then 1 else 0)
 |.int a,.int b=>a==b
 |.str a,.str b=>a==b
 |_,_=>false
def eqFs:List D->List D->Bool
 |[],[]=>true
 |x::xs,y::ys=>eqF x y&&eqFs xs ys
 |_,_=>false
end
section
variable {X:Cx}{a b:Tn}{ta tb:TD}{pos:Tw}
def eqVs:List V->List V->Bool
 |[],[]=>true
 |x::xs,y::ys=>eqV x y&&eqVs xs ys
 |_,_=>false
def sk:∀(xs ys:List V),((GO (min xs.length ys.length)).all (λj=>eqV (xs.getD j .non) (ys.getD j .non))&&xs.length==ys.length)=eqVs xs ys
 |[],[]=>rfl
 |[],_::_=>by simp[eqVs]
 |_::_,[]=>by simp[eqVs]
 |x::xs,y::ys=>by
  have ih:=sk xs ys;rw[eqVs,<-ih];have e:min (x::xs).length (y::ys).length=min xs.length ys.length+1:=by simp only[GU];lia
  rw[e,List.range_succ_eq_map,HW,List.all_map];have e2:((x::xs).length==(y::ys).length)=(xs.length==ys.length):=K'
  rw[e2,Bool.and_assoc];rfl
variable{xs:List V}
def Vals.getD{us:List KB}{j:Nat}(r:Vals xs us)(h:j<us.length):RelV (xs.getD j .non) us[j]:=by
 have hl:=L2.Vals.length r;obtain⟨u,q1,q2⟩:=L2.Vals.get (i:=j) (x:=xs.getD j .non) r (by rw[G4 KK];simp[Hw,G4 (show j<xs.length by lia)]);rw[G4 h]at q1;cases q1;exact q2
def flat_getD{j:Nat}(h:xs.all bN=true):bN (xs.getD j .non)=true:=by
 by_cases hj:j<xs.length
 .have q:=Hy.mp h xs[j] (Hg hj);simpa[Hw,G4 hj]using q
 .simp[Hw,Ho (IC hj),bN]
def rEqT(K:Ex):R2:=λx y H Q=>∃a b xs ys,x=.ref a/\y=.ref b/\SqT K H a xs/\SqT K H b ys/\xs.all bN=true/\ys.all bN=true/\Q (.bl (eqVs xs ys)) H
def yZ(hu:X.A.units+1<UM):OpR X (TK .Eq) (rEqT X.K):=by
 intro pins s σ H x y v u Q I rx ry h;obtain⟨a,b,xs,ys,rfl,rfl,ha,hb,fx,fy,q⟩:=h;cases rx;cases ry;obtain⟨its,r1,p1,_⟩:=I.tuple ha;obtain⟨k8,r2,p2,_⟩:=I.tuple hb;refine SeqAt.eq_tupleAt (e:=λj=>eqV (xs.getD j .non) (ys.getD j .non)) p1 p2 KK (λj h1 h2=>?_) #[.bl (eqVs xs ys),H,I,?_,q]
 .rw[GX]at h1 h2;simp only[List.getElem_toArray];exact eqAt_V (Vals.getD r1 h1) (Vals.getD r2 h2) (flat_getD fx) (flat_getD fy)
 .rw[<-sk,GX,GX,<-L2.Vals.length r1,<-L2.Vals.length r2];rfl
variable{K:Ex}
def so{H:Hp}{x y:D}{u v:V}(rx:Rep K H x u)(ry:Rep K H y v)(fx:bI x=true)(fy:bI y=true):eqV u v=eqF x y:=by
 cases x with
 |tup _=>cases fx
 |lst _=>cases fx
 |rol _=>cases fx
 |obj _ _=>cases fx
 |exc _ _=>cases fx
 |ptr _=>cases fx
 |dti _=>cases fx
 |own _=>cases fx
 |non=>rw[rep_non.mp rx];cases y with
  |tup _=>cases fy
  |lst _=>cases fy
  |rol _=>cases fy
  |obj _ _=>cases fy
  |exc _ _=>cases fy
  |ptr _=>cases fy
  |dti _=>cases fy
  |own _=>cases fy
  |non=>rw[rep_non.mp ry];rfl
  |bl _=>rw[rep_bl.mp ry];rfl
  |int _=>rw[rep_int.mp ry];rfl
  |str _=>rw[rep_str.mp ry];rfl
 |bl _=>rw[rep_bl.mp rx];cases y with
  |tup _=>cases fy
  |lst _=>cases fy
  |rol _=>cases fy
  |obj _ _=>cases fy
  |exc _ _=>cases fy
  |ptr _=>cases fy
  |dti _=>cases fy
  |own _=>cases fy
  |non=>rw[rep_non.mp ry];rfl
  |bl _=>rw[rep_bl.mp ry];rfl
  |int _=>rw[rep_int.mp ry];rfl
  |str _=>rw[rep_str.mp ry];rfl
 |int _=>rw[rep_int.mp rx];cases y with
  |tup _=>cases fy
  |lst _=>cases fy
  |rol _=>cases fy
  |obj _ _=>cases fy
  |exc _ _=>cases fy
  |ptr _=>cases fy
  |dti _=>cases fy
  |own _=>cases fy
  |non=>rw[rep_non.mp ry];rfl
  |bl _=>rw[rep_bl.mp ry];rfl
  |int _=>rw[rep_int.mp ry];rfl
  |str _=>rw[rep_str.mp ry];rfl
 |str _=>rw[rep_str.mp rx];cases y with
  |tup _=>cases fy
  |lst _=>cases fy
  |rol _=>cases fy
  |obj _ _=>cases fy
  |exc _ _=>cases fy
  |ptr _=>cases fy
  |dti _=>cases fy
  |own _=>cases fy
  |non=>rw[rep_non.mp ry];rfl
  |bl _=>rw[rep_bl.mp ry];rfl
  |int _=>rw[rep_int.mp ry];rfl
  |str _=>rw[rep_str.mp ry];rfl
def gY{H:Hp}{x:D}{u:V}(rx:Rep K H x u)(fx:bI x=true):bN u=true:=by
 cases x with
 |tup _=>cases fx
 |lst _=>cases fx
 |rol _=>cases fx
 |obj _ _=>cases fx
 |exc _ _=>cases fx
 |ptr _=>cases fx
 |dti _=>cases fx
 |own _=>cases fx
 |non=>rw[rep_non.mp rx];rfl
 |bl _=>rw[rep_bl.mp rx];rfl
 |int _=>rw[rep_int.mp rx];rfl
 |str _=>rw[rep_str.mp rx];rfl
def eJ{K:Ex}{H:Hp}:∀{xs:List D} {us:List V},Reps K H xs us->xs.all bI=true->us.all bN=true
 |[],us,r,_=>by rw[reps_nil.mp r];rfl
 |x::xs,us,r,f=>by
  obtain⟨v,vr,rfl,r1,r2⟩:=reps_cons.mp r;rw[HW,Hf]at f ⊢;exact#[gY r1 f.1,eJ r2 f.2]
def sq{K:Ex}{H:Hp}:∀{xs ys:List D} {us vs:List V},Reps K H xs us->Reps K H ys vs->xs.all bI=true->ys.all bI=true->eqVs us vs=eqFs xs ys
 |[],[],us,vs,r1,r2,_,_=>by rw[reps_nil.mp r1,reps_nil.mp r2];rfl
 |[],y::ys,us,vs,r1,r2,_,_=>by
  obtain⟨v,vr,rfl,_,_⟩:=reps_cons.mp r2;rw[reps_nil.mp r1];rfl
 |x::xs,[],us,vs,r1,r2,_,_=>by
  obtain⟨v,vr,rfl,_,_⟩:=reps_cons.mp r1;rw[reps_nil.mp r2];rfl
 |x::xs,y::ys,us,vs,r1,r2,f1,f2=>by
  obtain⟨u,ur,rfl,a1,a2⟩:=reps_cons.mp r1;obtain⟨v,vr,rfl,b1,b2⟩:=reps_cons.mp r2;rw[HW,Hf]at f1 f2;rw[eqVs,eqFs,so a1 b1 f1.1 f2.1,sq a2 b2 f1.2 f2.2]
def rdEqT:RD2:=λx y R=>match x,y with|.tup xs,.tup ys=>(xs.all bI=true/\ys.all bI=true)/\R (.bl (eqFs xs ys))|_,_=>False
def za:bb K (rEqT K) rdEqT:=by
 intro x y u v F H R Q fh h rx ry q;unfold rdEqT at h;split at h
 .obtain⟨⟨f1,f2⟩,h⟩:=h;obtain⟨a,us,rfl,hq,rr⟩:=rep_tup_mp rx;obtain⟨b,vs,rfl,v_,Kh⟩:=rep_tup_mp ry;exact#[a,b,us,vs,rfl,rfl,fh.tup hq,fh.tup v_,eJ rr f1,eJ Kh f2,q _ _ F H (Grow.refl fh) h (rep_bl.mpr (by rw[sq rr Kh f1 f2]))]
 .exact h.elim
end
section
variable {X:Cx}{a b c e:Tn}{ta tb tc te:TD}{pos:Tw}{st:SL}{rest:List SL}{t u:TSD}
def zb:TSD:=λE z=>E.nx z
def dSeq(t u:TSD):TSD:=λE z=>t {E with nx:=u E} z
def aT[Jx]:WDSs X [] zb:=⟨pss_nil.anti λE s H q=>by
 obtain⟨B,F0,F,z,k,rs,ED,h,e⟩:=q;exact e.nx z s F H k h rs⟩
def ai[Jx](h1:WDS X st t)(h2:WDSs X rest u):WDSs X (st::rest) (dSeq t u):=⟨have h1:=h1.out;have h2:=h2.out;(dW h1 h2).anti λE s H q=>by
 obtain⟨B,F0,F,z,k,rs,ED,h,e⟩:=q;exact#[B,F0,F,z,k,rs,{ED with nx:=u ED},h,#[λz' s' F' H' k' hz r'=>#[B,F0,F',z',k',r',ED,hz,e],e.rt,e.bk,e.ct]]⟩
def ao[Jx](h1:WDS X st t):WDSs X [st] t:=#[have h1:=h1.out;qv h1]
def dFrz(i:Nat)(t:TSD):TSD:=λE z=>match z[i]? with|some (be (.own ds))=>t E (z.set i (be (.lst ds)))|_=>False
def cY[Jx](i:Nat){Mh:List SL}(h:WDSs X Mh t):WDSs X Mh (dFrz i t):=⟨have h:=h.out;PSs.anti h λE s H q=>by
 obtain⟨B,F0,F,z,k,rs,ED,h,e⟩:=q;unfold dFrz at h;split at h
 .rename_i ds ez;obtain⟨F',k',r'⟩:=rs.freeze k ez;exact#[B,F0,F',_,k',r',ED,h,e]
 .exact h.elim⟩
def dRet(te:TD):TSD:=λE z=>te z E.rt
def ay[Jx](he:WDE X e te):WDS X (.Return (be e) pos) (dRet te):=⟨have he:=he.out;(qw he).anti λE s H q=>by
 obtain⟨B,F0,F,z,k,rs,ED,h,e⟩:=q;exact#[B,F,z,k.kf,rs,_,h,λd v F' H' g hd rd=>e.rt d v F' H' (k.grow g) hd rd]⟩
def zc(te:TD):TSD:=λE z=>te z λ_=>E.nx z
def sr[Jx](he:WDE X e te)(hs:autoParam (TJ e t9 pos.line X.env=pure false) zA0):WDS X (.Expr e pos) (zc te):=⟨have he:=he.out;(jK he hs).anti λE s H q=>by
 obtain⟨B,F0,F,z,k,rs,ED,h,e⟩:=q;exact#[B,F,z,k.kf,rs,_,h,λd v F' H' g hd rd=>e.nx z s F' H' (k.grow g) hd (rs.grow g)]⟩
def dIfS(c:TDT)(t u:TSD):TSD:=λE z=>c z λb=>if b=true then t E z else u E z
variable{l r:List SL}
def ss[Jx]{c:Tn}{tc:TDT}(hc:DT X c tc)(ha:DSs X l t)(hb:DSs X r u):DS X (.If c l r pos) (dIfS tc t u):=(qy hc ha hb).anti λE s H q=>by
 obtain⟨B,F0,F,z,k,rs,ED,h,e⟩:=q;refine#[B,F,z,k.kf,rs,_,h,λb F1 H1 g hk=>?_];cases b with
 |true=>exact#[B,F0,F1,z,k.grow g,rs.grow g,ED,hk,e]
 |false=>exact#[B,F0,F1,z,k.grow g,rs.grow g,ED,hk,e]
def dIfJ(c:TDT)(t u:TSD):TSD:=λE z=>∃J:SD->Prop,(c z λb=>if b=true then t {E with nx:=J} z else u {E with nx:=J} z)/\∀z',J z'->E.nx z'
def fO[Jx]{c:Tn}{tc:TDT}(hc:WDT X c tc)(ha:WDSs X l t)(hb:WDSs X r u):WDS X (.If c l r pos) (dIfJ tc t u):=⟨have hc:=hc.out;have ha:=ha.out;have hb:=hb.out;(ss hc ha hb).anti λE s H q=>by
 obtain⟨B,F0,F,z,k,rs,ED,⟨J,h,j⟩,e⟩:=q;exact#[B,F0,F,z,k,rs,{ED with nx:=J},h,#[λz' s' F' H' k' hz r'=>e.nx z' s' F' H' k' (j z' hz) r',e.rt,e.bk,e.ct]]⟩
def dSet(i:Nat)(te:TD):TSD:=λE z=>∃P:D->Prop,te z P/\∀d,P d->E.nx (z.set i (be d))
variable{x:F_}
def am[Jx](i:Nat){b_:Tw}(hN:X.N.Nodup)(he:WDE X e te)(hi:autoParam (X.N[i]?=be x) zA0)(hx:autoParam (Loc X.env.scope x) zA4)(hs:autoParam (TJ e (be (.Name x b_)) pos.line X.env=pure false) zA0)
  (hf:autoParam (zFN X x) zA2):WDS X (.Assign [.Name x b_] e pos) (dSet i te):=⟨have he:=he.out;(gI hN hi hx he hs hf).anti λE s H q=>by
 obtain⟨B,F0,F,z,k,rs,ED,⟨P,h,j⟩,e⟩:=q;exact#[B,F,z,k.kf,rs,P,h,λd v F' H' g hd rd=>e.nx _ _ F' H' (k.grow g) (j d hd) ((rs.grow g).set rd)]⟩
def dNew(i:Nat)(ta:TDA):TSD:=λE z=>ta z λds=>ds.length<=1000/\E.nx (z.set i (be (.own ds)))
variable{es:List Tn}
def fP[Jx](i:Nat){b_ p2:Tw}{ta:TDA}(hN:X.N.Nodup)(he:WDA X es ta)(hi:autoParam (X.N[i]?=be x) zA0)(hx:autoParam (Loc X.env.scope x) zA4)(hs:autoParam (TJ (.List es p2) (be (.Name x b_)) pos.line X.env=pure false) zA0)
  (hf:autoParam (zFN X x) zA2):WDS X (.Assign [.Name x b_] (.List es p2) pos) (dNew i ta):=⟨have he:=he.out;(gI hN hi hx (jV he) hs hf).anti λE s H q=>by
 obtain⟨B,F0,F,z,k,rs,ED,h,e⟩:=q;refine#[B,F,z,k.kf,rs,_,h,λds vs F1 H1 g hd rd=>?_];have hl:=rd.length;refine#[sz (by rw[hl];exact hd.1),λp hp=>?_];have k1:=k.grow g;have r1:=rs.grow g;have hB:B p=none:=k1.bh.free hp;have hF:F1 p=none:=k1.fh.free hp;refine e.nx _ _ F1 _ #[k1.bh.trans (aN hp _),k1.fh.trans (aN hp _),k1.f0,k1.out,k1.eb,k1.jf,k1.jo] hd.2 (r1.setOwn hB hF rd λj dj hj e1 e2=>?_);obtain⟨a,us,q1,q2,_⟩:=r1.own j dj e1;rw[e2]at q1;cases q1;rw[hp]at q2;cases q2⟩
def dApp(i:Nat)(te:TD):TSD:=λE z=>match z[i]? with|some (be (.own ds))=>(te z λd=>ds.length<=100000/\E.nx (z.set i (be (.own (ds++[d])))))|_=>False
def eK{K:Ex}{F:Hp}{d:D}{v:V}(r:Rep K F d v):Reps K F [d] [v]:=reps_cons.mpr #[v,[],rfl,r,reps_nil.mpr rfl]
def fQ[Jx](i:Nat){p1 apos cpos:Tw}(he:WDE X e te)(hN:autoParam (X.N[i]?=be x) zA0)(hv:autoParam (Vis X.env.scope x) zA5)(hd:autoParam (zND x) zA1)
  (gV:autoParam (zNC x) zA1) (n_:autoParam (zSE X e []) zA0)
  (b8:autoParam (Tt (.Name x p1) "append" X.env (Tv (.Name x p1) X.env)=Tv (.Name x p1) X.env) zA0)
  (d8:autoParam (zHF X cpos [e]) zA0)
  (c8:autoParam ((apos.endLine==cpos.line)=true) zA0) (Ki:autoParam (TJ (.Call (.Attribute (.Name x p1) "append" apos) [e] [] cpos) t9 pos.line X.env=pure false) zA0):WDS X (.Expr (.Call (.Attribute (.Name x p1) "append" apos) [e] [] cpos) pos) (dApp i te):=⟨have he:=he.out;(jK (eg PySem.F.plainAttrs_list PySem.F.slot_list_append PySem.F.type_list_append kd (cK hN hv hd gV) (bD he pa_nil n_) b8 d8 c8 n_) Ki).anti λE s H q=>by
 obtain⟨B,F0,F,z,k,rs,ED,h,e⟩:=q;unfold dApp at h;split at h
 .rename_i ds ez;obtain⟨a,vs,q1,q2,q3,q4,q5⟩:=rs.own i ds ez;refine#[.ref a,q1,.inl #[rfl,vs,SqL.of q2],?_];refine#[B,F,z,k.kf,rs,_,h,λd v F1 H1 g hd rd=>?_];have k1:=k.grow g;have r1:=rs.grow g;have a1:H1 a=be (.lst vs):=g.hh a _ q2;have f1:F1 a=none:=g.out a q4 (by rw[q2];exact λz=>nomatch z);have hl:vs.length=ds.length:=q5.length;have hz:vs.length<sizeLine:=by
   have h1:ds.length<=100000:=hd.1;have h2:(100000:Nat)<sizeLine:=K3
   lia
  refine#[a,vs,v,rfl,rfl,a1,hz,?_];have same:∀{G:Hp},G a=t9->Same G H1->Same G (upd H1 a (.lst (vs++[v]))):=λ{G} ga gs b o eb=>by
   have ne:b≠a:=λz=>by rw[z,ga]at eb;cases eb
   rw[aq ne];exact gs b o eb
  have r2:=r1.setOwn (i:=i) (a:=a) (vs:=vs++[v]) (ds:=ds++[d]) q3 f1 ((q5.mono g.ff).append (eK rd)) (λj dj hj e1 e2=>hj (rs.apart j i dj ds a e1 ez e2 q1));have es:s.set i (be (.ref a))=s:=by
   apply HZ;intro n;by_cases hn:i=n
   .subst hn;rw[Hr (GZ.mp q1).1,q1]
   .rw[G0 hn]
  rw[es]at r2;exact e.nx _ s F1 _ #[same q3 k1.bh,same f1 k1.fh,k1.f0,k1.out,k1.eb,k1.jf,k1.jo] hd.2 r2
 .exact h.elim⟩
def aY:List Nat->List D->SD->SD
 |i::is,d::ds,z=>aY is ds (z.set i (be d))
 |_,_,z=>z
def DGs(X:Cx)(ts:List Tn)(is:List Nat):Prop:=∃u:TGs,PGs X ts u/\∀(ds:List D) (vs:List V) (z:SD) (s:L2.St) (B F H:Hp) (Q:L2.St->Hp->Prop),ds.length=is.length->Reps X.K F ds vs->RepS X.K B F H z s->(∀s',RepS X.K B F H (aY is ds z) s'->Q s' H)->u vs s H Q
def dI[Jx]:DGs X [] []:=⟨_,wE,λds vs z s B F H Q hl r rs q=>by
 cases ds with
 |nil=>exact#[reps_nil.mp r,q s rs]
 |cons _ _=>cases hl⟩
variable{p:Tw}{is:List Nat}
def dg_cons[Jx](i:Nat)(hN:X.N.Nodup)(h2:DGs X es is)(hi:autoParam (X.N[i]?=be x) zA0)(hx:autoParam (Loc X.env.scope x) zA4)(hf:autoParam (zFN X x) zA2)
  (hs:autoParam ((Ts (.Name x p::es) X.env).map (·.2)=Uj (.Name x p) X.env::(Ts es X.env).map (·.2)) zA0):DGs X (.Name x p::es) (i::is):=by
 obtain⟨u,hu,k⟩:=h2;refine#[_,wF (dX hN hi hx hf) hu hs,λds vs z s B F H Q hl r rs q=>?_];cases ds with
 |nil=>cases hl
 |cons d ds=>
  obtain⟨v,vr,rfl,r1,r2⟩:=reps_cons.mp r;exact#[v,vr,rfl,k ds vr _ _ B F H Q (Nat.succ.inj hl) r2 (rs.set r1) q]
def zd(is:List Nat)(te:TD):TSD:=λE z=>te z λx=>match x with|.tup ds=>ds.length=is.length/\E.nx (aY is ds z)|_=>False
def kz[Jx]{k:Nat}(hc:X.calm=true)(he:WDE X e te)(hg:DGs X es is)(hn:autoParam ((Ts es X.env).length=is.length) zA0)(m4:autoParam ((Ts es X.env).findIdx? (·.1)=none) zA0)
  (hs:autoParam (Ub [.Tuple es k p] e pos.line X.env=pure false) zA0) (hw:autoParam (Uc [.Tuple es k p] e X.env=pure none) zA0) (h1:autoParam ((Ts [.Tuple es k p] X.env).map (·.2)=[Uj (.Tuple es k p) X.env]) zA0):WDS X (.Assign [.Tuple es k p] e pos) (zd is te):=⟨by
 have he:=he.out;obtain⟨u,hu,kk⟩:=hg;refine(jL he (gH hc hu hn m4) hs hw h1).anti λE s H q=>?_;obtain⟨B,F0,F,z,k,rs,ED,h,e⟩:=q;refine#[B,F,z,k.kf,rs,_,h,λd v F' H' g hd rd=>?_];split at hd
 .obtain⟨p,vs,rfl,hq,rr⟩:=rep_tup_mp rd;exact#[p,vs,rfl,g.fh.tup hq,by rw[rr.length];exact hd.1,kk _ vs z s B F' H' _ hd.1 rr (rs.grow g) λs' r'=>e.nx _ _ F' H' (k.grow g) hd.2 r']
 .exact hd.elim⟩
def dPar(i j:Nat)(ta:TDA):TSD:=λE z=>ta z λds=>match ds with|[x,y]=>E.nx ((z.set i (be x)).set j (be y))|_=>False
def ze[Jx](i j:Nat){y:F_}{t:TDA}{px py pt:Tw}{kt k2 K2}(hc:X.calm=true)(hN:X.N.Nodup)(ha:WDA X [a,b] t)(hi:autoParam (X.N[i]?=be x) zA0)(hj:autoParam (X.N[j]?=be y) zA0)(NM:autoParam (i≠j) zA1)
  (hx:autoParam (X.env.scope.names.lookup x=be .local) zA0) (hy:autoParam (X.env.scope.names.lookup y=be .local) zA0)
  (hw:autoParam (Uc [.Tuple [.Name x px,.Name y py] kt pt] (.Tuple [a,b] k2 K2) X.env=pure (be [x,y])) zA0)
  (hs:autoParam (Ub [.Tuple [.Name x px,.Name y py] kt pt] (.Tuple [a,b] k2 K2) pos.line X.env=pure false) zA0):WDS X (.Assign [.Tuple [.Name x px,.Name y py] kt pt] (.Tuple [a,b] k2 K2) pos) (dPar i j t):=⟨have ha:=ha.out;(wH hc hN hi hj NM hx hy ha hw hs).anti λE s H q=>by
 obtain⟨B,F0,F,z,k,rs,ED,h,e⟩:=q;refine#[B,F,z,k.kf,rs,_,h,λds vs F' H' g hd rd=>?_];split at hd
 .obtain⟨v,r,rfl,r1,r2⟩:=reps_cons.mp rd;obtain⟨w,r,rfl,r3,r4⟩:=reps_cons.mp r2;rw[reps_nil.mp r4];exact#[v,w,rfl,e.nx _ _ F' H' (k.grow g) hd (((rs.grow g).set r1).set r3)]
 .exact hd.elim⟩
def zf(c:TDT)(tb:TSD):TSD:=λE z=>∃W:Nat->SD->Prop,(∃m,W m z)/\∀m z,W m z->
 c z λb=>if b=true then tb {E with nx:=λz'=>∃m',m'<m/\W m' z',ct:=λz'=>∃m',m'<m/\W m' z',bk:=E.nx} z else E.nx z
variable{body:List SL}
def fR[Jx]{c:Tn}{tc:TDT}{tb:TSD}(hp:TX (SB X.prog X.w) X.A X.env X.xe)(hc:WDT X c tc)(hb:WDSs X body tb):WDS X (.While c body [] pos) (zf tc tb):=⟨have hc:=hc.out;have hb:=hb.out;(qz hp hc hb).anti λE s H q=>by
 obtain⟨B,F0,F,z,k,rs,ED,⟨W,⟨m0,w0⟩,c7⟩,e⟩:=q;refine#[λm s' H'=>∃F' z',Kept B F0 F' H'/\RepS X.K B F' H' z' s'/\W m z',#[m0,F,z,k,rs,w0],?_];rintro m s1 H1⟨F1,z1,k1,r1,w1⟩;refine#[B,F1,z1,k1.kf,r1,_,c7 m z1 w1,λb F2 H2 g2 hk=>?_];cases b with
 |true=>
  refine#[λs3 H3=>∃F3 z3,Kept B F0 F3 H3/\RepS X.K B F3 H3 z3 s3/\∃m',m'<m/\W m' z3,λs3 H3 ⟨F3,z3,k3,r3,m',l,w3⟩=>#[m',l,F3,z3,k3,r3,w3],?_];exact#[B,F0,F2,z1,k1.grow g2,r1.grow g2,_,hk,#[λz3 s3 F3 H3 k3 h3 r3=>#[F3,z3,k3,r3,h3],e.rt,e.nx,λz3 s3 F3 H3 k3 h3 r3=>#[F3,z3,k3,r3,h3]]]
 |false=>exact e.nx z1 s1 F2 H2 (k1.grow g2) hk (r1.grow g2)⟩
abbrev TDI:=SD->(List D->Prop)->Prop
def dItL(t:TD):TDI:=λz R=>t z λx=>match x with|.lst ds=>R ds|.rol ds=>R ds|_=>False
def dItR(t:TD):TDI:=λz R=>t z λx=>match x with|.int n=>(0<=n/\n<2^62)/\R ((GO n.toNat).map λk=>D.int ((k:Nat):Int))|_=>False
def dFor(i:Nat)(ti:TDI)(tb:TSD):TSD:=λE z=>ti z λds=>∃W:Nat->SD->Prop,W 0 z/\(∀k x z,ds[k]?=be x->W k z->tb {E with nx:=W (k+1),ct:=W (k+1),bk:=E.nx} (z.set i (be x)))/\∀z,W ds.length z->E.nx z
def Reps.get'{K:Ex}{H:Hp}{ds:List D}{vs:List V}{k:Nat}{v:V}(r:Reps K H ds vs)(e:vs[k]?=be v):∃d,ds[k]?=be d/\Rep K H d v:=by
 have hk:k<ds.length:=by rw[<-r.length];exact(GZ.mp e).1
 obtain⟨u,q1,q2⟩:=r.get (G4 hk);rw[e]at q1;cases q1;exact#[_,G4 hk,q2]
def gZ[Jx](i:Nat){tb:TSD}(hp:TX (SB X.prog X.w) X.A X.env X.xe)(hc:X.calm=true)(hN:X.N.Nodup)(he:WDE X e te)(hb:WDSs X body tb)(hi:autoParam (X.N[i]?=be x) zA0)(hx:autoParam (Loc X.env.scope x) zA4)
  (hf:autoParam (zFN X x) zA2) (hs:autoParam (∀y,zFS X e y) zA3):WDS X (.For (.Name x p) e body [] pos) (dFor i (dItL te) tb):=⟨have he:=he.out;have hb:=hb.out;(cV hp hc (qB he) (dX hN hi hx hf) hb hs).anti λE s H q=>by
 obtain⟨B,F0,F,z,kp,rs,ED,h,e⟩:=q;refine#[B,F,z,kp.kf,rs,_,h,λd v F1 H1 g1 hd rd=>?_];split at hd
 .obtain⟨p,vs,rfl,hq,rr⟩:=rep_lst.mp rd;obtain⟨W,w0,c7,out⟩:=hd;refine#[p,rfl,#[vs,g1.fh.seq (SqL.of hq)],qE (K:=X.K) (a:=p) (xs:=vs) (λk s' H'=>∃F' z',Kept B F0 F' H'/\Same F1 F'/\RepS X.K B F' H' z' s'/\W k z') #[F1,z,kp.grow g1,Same.refl F1,rs.grow g1,w0] (λk s' H' _ ⟨F',z',k',g',r',w'⟩=>k'.fh.seq (g'.seq (SqL.of hq))) ?_ ?_]
  .rintro k y s' H' hk⟨F',z',k',g',r',w'⟩;obtain⟨d,hd,ry⟩:=rr.get' hk;refine#[B,F',F',_,#[k'.bh,k'.fh,Same.refl F',λb h1 _=>h1,k'.eb,k'.jf.trans k'.f0,λb h1 h2=>k'.out b (k'.jo b h1 h2) h2],r'.set (ry.mono g'),_,c7 k d z' hd w',?_];have up:∀{F2 H2:Hp},Kept B F' F2 H2->Kept B F0 F2 H2:=λk2=>#[k2.bh,k2.fh,k'.f0.trans k2.f0,λb h1 h2=>k2.out b (k'.out b h1 h2) h2,k'.eb,k'.jf,k'.jo];exact#[λz3 s3 F3 H3 k3 h3 r3=>#[F3,z3,up k3,g'.trans k3.f0,r3,h3],λd v F3 H3 k3=>e.rt d v F3 H3 (up k3),λz3 s3 F3 H3 k3=>e.nx z3 s3 F3 H3 (up k3),λz3 s3 F3 H3 k3 h3 r3=>#[F3,z3,up k3,g'.trans k3.f0,r3,h3]]
  .rintro s' H'⟨F',z',k',g',r',w'⟩;exact e.nx z' s' F' H' k' (out z' (by rw[<-rr.length];exact w')) r'
 .obtain⟨p,vs,rfl,hq,rr⟩:=rep_rol.mp rd;obtain⟨W,w0,c7,out⟩:=hd;refine#[p,rfl,#[vs,g1.fh.seq hq],qE (K:=X.K) (a:=p) (xs:=vs) (λk s' H'=>∃F' z',Kept B F0 F' H'/\Same F1 F'/\RepS X.K B F' H' z' s'/\W k z') #[F1,z,kp.grow g1,Same.refl F1,rs.grow g1,w0] (λk s' H' _ ⟨F',z',k',g',r',w'⟩=>k'.fh.seq (g'.seq hq)) ?_ ?_]
  .rintro k y s' H' hk⟨F',z',k',g',r',w'⟩;obtain⟨d,hd,ry⟩:=rr.get' hk;refine#[B,F',F',_,#[k'.bh,k'.fh,Same.refl F',λb h1 _=>h1,k'.eb,k'.jf.trans k'.f0,λb h1 h2=>k'.out b (k'.jo b h1 h2) h2],r'.set (ry.mono g'),_,c7 k d z' hd w',?_];have up:∀{F2 H2:Hp},Kept B F' F2 H2->Kept B F0 F2 H2:=λk2=>#[k2.bh,k2.fh,k'.f0.trans k2.f0,λb h1 h2=>k2.out b (k'.out b h1 h2) h2,k'.eb,k'.jf,k'.jo];exact#[λz3 s3 F3 H3 k3 h3 r3=>#[F3,z3,up k3,g'.trans k3.f0,r3,h3],λd v F3 H3 k3=>e.rt d v F3 H3 (up k3),λz3 s3 F3 H3 k3=>e.nx z3 s3 F3 H3 (up k3),λz3 s3 F3 H3 k3 h3 r3=>#[F3,z3,up k3,g'.trans k3.f0,r3,h3]]
  .rintro s' H'⟨F',z',k',g',r',w'⟩;exact e.nx z' s' F' H' k' (out z' (by rw[<-rr.length];exact w')) r'
 .exact hd.elim⟩
def ce[Jx](i:Nat){p1 p2:Tw}{tb:TSD}(hp:TX (SB X.prog X.w) X.A X.env X.xe)(hc:X.calm=true)(hN:X.N.Nodup)(hm:X.mg "range"=t9)(he:WDE X e te)(hb:WDSs X body tb)(hg:autoParam (Gl X "range") zA0)(hi:autoParam (X.N[i]?=be x) zA0)(hx:autoParam (Loc X.env.scope x) zA4)
  (hf:autoParam (zFN X x) zA2) (hs:autoParam (∀y,zFS X (.Call (.Name "range" p1) [e] [] p2) y) zA3) (q_:autoParam (zSE X e []) zA0) (g7:autoParam (Tr [e] X.env=[(false,Tv e X.env)]) zA0):WDS X (.For (.Name x p) (.Call (.Name "range" p1) [e] [] p2) body [] pos) (dFor i (dItR te) tb):=⟨have he:=he.out;have hb:=hb.out;(cV hp hc (jN hg hm (bD he pa_nil q_) g7) (dX hN hi hx hf) hb hs).anti λE s H q=>by
 obtain⟨B,F0,F,z,kp,rs,ED,h,e⟩:=q;refine#[B,F,z,kp.kf,rs,_,h,λd v F1 H1 g1 hd rd=>?_];split at hd
 .rename_i n;obtain⟨⟨b1,b2⟩,W,w0,c7,out⟩:=hd;have hl:((GO n.toNat).map λk=>D.int ((k:Nat):Int)).length=n.toNat:=by simp
  refine#[n,by rw[rep_int.mp rd],KK,b2,jO (lo:=0) (n:=n.toNat) (λk s' H'=>∃F' z',Kept B F0 F' H'/\RepS X.K B F' H' z' s'/\W k z') #[F1,z,kp.grow g1,rs.grow g1,w0] ?_ ?_]
  .rintro k s' H' hk⟨F',z',k',r',w'⟩;have e1:(0:Int)+(k:Int)=(k:Int):=by lia
   exact#[B,F0,F',_,k',r'.set (d:=.int (k:Int)) (rep_int.mpr (by rw[e1])),_,c7 k (.int (k:Int)) z' (by simp[hk]) w',#[λz3 s3 F3 H3 k3 h3 r3=>#[F3,z3,k3,r3,h3],e.rt,e.nx,λz3 s3 F3 H3 k3 h3 r3=>#[F3,z3,k3,r3,h3]]]
  .rintro s' H'⟨F',z',k',r',w'⟩;exact e.nx z' s' F' H' k' (out z' (by rw[hl];exact w')) r'
 .exact hd.elim⟩
end
section
variable {P:SZ}{w:Tp}{K:Ex}{mg:F_->Option KB}{base:Heap}
variable{N ps:List F_}
def _root_.L2.Fun.okD{x qual:F_}{st:SL}{f:KF}{fd:Tu}{k:Nat}{S:SpD}(T:Fun K x qual st f fd)(F:FnScope N ps (ag st))(len:∀ds R,S ds R->ds.length=ps.length)
  (a8:∀(cdv:KB) (A:Tq) (outer:List Um) (s:Os) (H:Hp) (E:XK) (J:Jx),Room k (A.deeper (TB qual (ag st) s.heap.objs.size f cdv))->
   ∃t,DSs (cxOf (Exc.CX1 P w) P w K mg base N qual (ag st) f cdv A outer s H E).nox (aL st) t/\∀ds R,S ds R->t {nx:=λ_=>R .non,rt:=R} (startD N ds)):FnOk P w K mg base (Exc.CX1 P w) (k+1) f fd ps (lSp K S):=by
 refine Fun.okC T F (λvs H Q E h=>?_) (λcdv A outer s H vs Q E hr h=>?_)
 .obtain⟨F,ds,fh,rs,R,h,_⟩:=h;rw[rs.length];exact len ds R h
 .obtain⟨F,ds,fh,rs,R,h,q⟩:=h
  letI:Jx:=#[H,F,λ_ _ _=>False]
  obtain⟨t,ht,hq⟩:=a8 cdv A outer s H E inferInstance hr;refine#[_,ht.nox,H,F,F,startD N ds,#[Same.refl H,fh,Same.refl F,λ_ h _=>h,rfl,Same.refl F,λ_ h _=>h],dF rs,_,hq ds R h,#[λz' s' F' H' k hn _=>q _ _ F' H' #[k.f0,k.fh,k.bh,k.out] hn (rep_non.mpr rfl),λd v F' H' k hd rd=>q d v F' H' #[k.f0,k.fh,k.bh,k.out] hd rd,λ_ _ _ _ _ h _=>h.elim,λ_ _ _ _ _ h _=>h.elim]]
def Tx.okD{x:F_}{st:SL}{k:Nat}{S:SpD}(T:Tx K mg x st ps)(F:FnScope N ps (ag st))(len:∀ds R,S ds R->ds.length=ps.length)
  (a8:∀(f:KF) (cdv:KB) (A:Tq) (outer:List Um) (s:Os) (H:Hp) (E:XK) (J:Jx),Room k (A.deeper (TB x (ag st) s.heap.objs.size f cdv))->
   ∃t,DSs (cxOf (Exc.CX1 P w) P w K mg base N x (ag st) f cdv A outer s H E).nox (aL st) t/\∀ds R,S ds R->t {nx:=λ_=>R .non,rt:=R} (startD N ds)):CalD P w K mg base (k+1) x ps S:=by
 obtain⟨f,fd,T,hb,hm⟩:=T;exact#[f,fd,T.okD F len λcdv A outer s H E J hr=>a8 f cdv A outer s H E J hr,hb,T.kp,hm]
end
def eL:SpD:=λds R=>∃ns:List Int,ds=[.rol (ns.map D.int)]/\ns.length<=63/\R (.bl true)
def zg{a:KF}{ns:List Int}(hl:ns.length<=63)(hS:SqL K H a (ns.map V.int)){E:XK}:lSp K eL [.ref a] H (λv _=>v=.bl true) E:=
 #[H,[.rol (ns.map D.int)],Same.refl H,reps_cons.mpr #[_,_,rfl,rep_rol.mpr #[a,_,rfl,hS,Reps.ints.mpr rfl],reps_nil.mpr rfl],λd=>d=.bl true,#[ns,rfl,hl,rfl],λd v F' H' _ hd rd=>by subst hd;exact rep_bl.mp rd]
section
variable {X:Cx}{a b c e:Tn}{ta tb tc te:TD}{pos:Tw}
variable{p:Tw}{es:List Tn}{t:TDA}
def kA[Jx]{x:F_}{T:String}{r:List V->Hp->VK->Prop}{rd:RDn}(hc:bM X (.type T) r)(L:cw X.K r rd)(hm:X.mg x=t9)(hv:TN x=be (.type T))(ha:DA X (e::es) t)(hg:autoParam (Gl X x) zA0)(hn:autoParam (x≠"__name__") zA1)(d5:autoParam (zND x) zA1)
  (he:autoParam (zSE X e es) zA0) (c5:autoParam (zPL X pos es) zA0):DE X (.Call (.Name x p) (e::es) [] pos) (dCB rd t):=(jW hc hg hm hv ha hn d5 he c5).anti λs H Q h=>by
 obtain⟨B,F,z,kf,rs,R,h1,h2⟩:=h;have fh:=kf.fh;refine#[B,F,z,kf,rs,_,h1,λds vs F1 H1 g1 hx rx=>?_];exact L ds vs F1 H1 R Q g1.fh hx rx λd w F' H' g=>h2 d w F' H' (g1.trans g)
def rdStr:RDn:=λds R=>match ds with|[.int i]=>i.natAbs<18446744073709551616/\R (.str (toString i))|_=>False
variable{K:Ex}
def zh:cw K (λxs H Q=>∃i,xs=[.int i]/\i.natAbs.log2<1920/\Q (.str (toString i)) H) rdStr:=by
 intro ds vs F H R Q fh h rx q;unfold rdStr at h;split at h
 .obtain⟨v,r,rfl,h1,h2⟩:=reps_cons.mp rx;rw[reps_nil.mp h2,rep_int.mp h1];refine#[_,rfl,?_,q _ _ F H (Grow.refl fh) h.2 (rep_str.mpr rfl)];rename_i i;by_cases h0:i.natAbs=0
  .rw[h0];decide
  .have:=(JE h0).mpr (show i.natAbs<2^64 from h.1);lia
 .exact h.elim
def cZ[Jx](hm:X.mg "str"=t9)(ha:WDA X [e] t)(hg:autoParam (Gl X "str") zA0)(he:autoParam (zSE X e []) zA0):WDE X (.Call (.Name "str" p) [e] [] pos) (dCB rdStr t):=#[have ha:=ha.out;kA xo zh hm PyProof.Rows.boot_str ha hg K3 K3 he]
def rdInt:RDn:=λds R=>match ds with
 |[.int i]=>R (.int i)
 |[.bl k]=>R (.int (if k then 1 else 0))
 |[.str x]=>∃n,(PySem.intText? x=be n/\x.length<=640)/\R (.int n)
 |_=>False
def su:bM X (.type "int") (λxs H Q=>((∃i,xs=[.int i]/\Q (.int i) H)\/∃k,xs=[.bl k]/\Q (.int (if k then 1 else 0)) H)\/∃x n,xs=[.str x]/\PySem.intText? x=be n/\x.length<=640/\Q (.int n) H):=by
 intro pins s σ H xs us Q I r h;rcases h with h|⟨x,n,rfl,h1,h2,q⟩
 .exact xn pins s σ H xs us Q I r h
 .obtain⟨u,rfl,t,rfl⟩:=cb r;exact PySem.W.KIN.call_text h1 h2 #[.int n,H,I.tok _,#[_,rfl],q]
def sy:cw K (λxs H Q=>((∃i,xs=[.int i]/\Q (.int i) H)\/∃k,xs=[.bl k]/\Q (.int (if k then 1 else 0)) H)\/∃x n,xs=[.str x]/\PySem.intText? x=be n/\x.length<=640/\Q (.int n) H) rdInt:=by
 intro ds vs F H R Q fh h rx q;unfold rdInt at h;split at h
 .obtain⟨v,r,rfl,h1,h2⟩:=reps_cons.mp rx;rw[reps_nil.mp h2,rep_int.mp h1];exact .inl (.inl #[_,rfl,q _ _ F H (Grow.refl fh) h (rep_int.mpr rfl)])
 .obtain⟨v,r,rfl,h1,h2⟩:=reps_cons.mp rx;rw[reps_nil.mp h2,rep_bl.mp h1];exact .inl (.inr #[_,rfl,q _ _ F H (Grow.refl fh) h (rep_int.mpr rfl)])
 .obtain⟨v,r,rfl,h1,h2⟩:=reps_cons.mp rx;rw[reps_nil.mp h2,rep_str.mp h1];obtain⟨n,⟨e1,e2⟩,h⟩:=h;exact .inr #[_,n,rfl,e1,e2,q _ _ F H (Grow.refl fh) h (rep_int.mpr rfl)]
 .exact h.elim
def hU[Jx](hm:X.mg "int"=t9)(ha:WDA X [e] t)(hg:autoParam (Gl X "int") zA0)(he:autoParam (zSE X e []) zA0):WDE X (.Call (.Name "int" p) [e] [] pos) (dCB rdInt t):=#[have ha:=ha.out;kA su sy hm PyProof.Rows.boot_int ha hg K3 K3 he]
def rdList:RDn:=λds R=>match ds with|[.lst xs]=>R (.lst xs)|[.tup xs]=>R (.lst xs)|[.rol xs]=>R (.lst xs)|_=>False
def zi:cw K (λxs H Q=>∃p ys,xs=[.ref p]/\(SqL K H p ys\/SqT K H p ys)/\∀l,H l=t9->Q (.ref l) (upd H l (.lst ys))) rdList:=by
 intro ds vs F H R Q fh h rx q;unfold rdList at h;split at h
 .obtain⟨v,r,rfl,h1,h2⟩:=reps_cons.mp rx;rw[reps_nil.mp h2];obtain⟨a,us,rfl,hq,rs⟩:=rep_lst.mp h1;exact#[a,us,rfl,.inl (fh.seq (SqL.of hq)),λl hl=>q _ _ _ _ (Grow.new fh hl _) h (rep_lst.mpr #[l,us,rfl,az,rs.mono (aN (fh.free hl) _)])]
 .obtain⟨v,r,rfl,h1,h2⟩:=reps_cons.mp rx;rw[reps_nil.mp h2];obtain⟨a,us,rfl,hq,rs⟩:=rep_tup_mp h1;exact#[a,us,rfl,.inr (fh.tup hq),λl hl=>q _ _ _ _ (Grow.new fh hl _) h (rep_lst.mpr #[l,us,rfl,az,rs.mono (aN (fh.free hl) _)])]
 .obtain⟨v,r,rfl,h1,h2⟩:=reps_cons.mp rx;rw[reps_nil.mp h2];obtain⟨a,us,rfl,hq,rs⟩:=rep_rol.mp h1;exact#[a,us,rfl,.inl (fh.seq hq),λl hl=>q _ _ _ _ (Grow.new fh hl _) h (rep_lst.mpr #[l,us,rfl,az,rs.mono (aN (fh.free hl) _)])]
 .exact h.elim
def zj[Jx](hm:X.mg "list"=t9)(ha:WDA X [e] t)(hg:autoParam (Gl X "list") zA0)(he:autoParam (zSE X e []) zA0):WDE X (.Call (.Name "list" p) [e] [] pos) (dCB rdList t):=#[have ha:=ha.out;kA rB zi hm PyProof.Rows.boot_list ha hg K3 K3 he]
def rdMax:RDn:=λds R=>match ds with|[.int i,.int j]=>R (.int (if j>i then j else i))|_=>False
def rdMin:RDn:=λds R=>match ds with|[.int i,.int j]=>R (.int (if j<i then j else i))|_=>False
def zk:cw K (λxs H Q=>∃i j,xs=[.int i,.int j]/\Q (.int (if j>i then j else i)) H) rdMax:=by
 intro ds vs F H R Q fh h rx q;unfold rdMax at h;split at h
 .obtain⟨v,r,rfl,h1,h2⟩:=reps_cons.mp rx;obtain⟨v',r',rfl,h3,h4⟩:=reps_cons.mp h2;rw[reps_nil.mp h4,rep_int.mp h1,rep_int.mp h3];exact#[_,_,rfl,q _ _ F H (Grow.refl fh) h (rep_int.mpr rfl)]
 .exact h.elim
def zl:cw K (λxs H Q=>∃i j,xs=[.int i,.int j]/\Q (.int (if j<i then j else i)) H) rdMin:=by
 intro ds vs F H R Q fh h rx q;unfold rdMin at h;split at h
 .obtain⟨v,r,rfl,h1,h2⟩:=reps_cons.mp rx;obtain⟨v',r',rfl,h3,h4⟩:=reps_cons.mp h2;rw[reps_nil.mp h4,rep_int.mp h1,rep_int.mp h3];exact#[_,_,rfl,q _ _ F H (Grow.refl fh) h (rep_int.mpr rfl)]
 .exact h.elim
def fS[Jx](hc:X.calm=true)(hm:X.mg "max"=t9)(ha:WDA X [e,a] t)(hg:autoParam (Gl X "max") zA0)(he:autoParam (zSE X e [a]) zA0)(c5:autoParam (zPL X pos [a]) zA0):WDE X (.Call (.Name "max" p) [e,a] [] pos) (dCB rdMax t):=#[have ha:=ha.out;gS (xk hc) zk hm PyProof.Rows.boot_max ha hg K3 K3 he c5]
def zm[Jx](hc:X.calm=true)(hm:X.mg "min"=t9)(ha:WDA X [e,a] t)(hg:autoParam (Gl X "min") zA0)(he:autoParam (zSE X e [a]) zA0)(c5:autoParam (zPL X pos [a]) zA0):WDE X (.Call (.Name "min" p) [e,a] [] pos) (dCB rdMin t):=#[have ha:=ha.out;gS (xm hc) zl hm PyProof.Rows.boot_min ha hg K3 K3 he c5]
def cO:List D->Option (List F_)
 |[]=>be []
 |.str x::r=>(cO r).map (x::·)
 |_=>t9
def sA{K:Ex}{F:Hp}:∀{ds:List D} {xs:List F_} {vs:List V} {us:List KB},cO ds=be xs->Reps K F ds vs->Vals vs us->StrsAre us xs
 |[],xs,vs,us,e,r,q=>by
  cases e;rw[reps_nil.mp r]at q;cases q;exact .nil
 | .str x::ds,xs,vs,us,e,r,q=>by
  obtain⟨v,r',rfl,h1,h2⟩:=reps_cons.mp r;rw[rep_str.mp h1]at q;cases q with
  |cons q1 q2=>
   obtain⟨t,rfl⟩:=q1;cases e2:cO ds with
   |none=>simp[cO,e2]at e
   |some ys=>
    simp[cO,e2]at e;subst e;exact .cons x t (sA e2 h2 q2)
def zn:V->List V->Hp->VK->Prop:=λx vs H Q=>∃p8 l xs ys,x=.str p8/\vs=[.ref l]/\H l=be (.lst xs)/\(∀us,Vals xs us->StrsAre us ys)/\(ys.map (·.length)).sum+ys.length*p8.length<=16777216/\Q (.str (Txt.join p8 ys)) H
def zo:MtR X "str.join" zn:=by
 intro pins s σ H x vs v us Q I rx rv h;obtain⟨p8,l,xs,ys,rfl,rfl,hl,hs,hz,q⟩:=h;obtain⟨t,rfl⟩:=rx;obtain⟨u,rfl,ru⟩:=cb rv;cases ru;obtain⟨its,r,pl,_⟩:=I.list (SqL.of hl);exact PyProof.Rows.join_list pl.isList (by simpa using hs its r) hz λt' k=>#[.str _,H,I.tok _,#[_,rfl],q]
def zp(p8:F_)(te:TD):TD:=λz R=>te z λx=>match x with
 |.lst ds=>∃ys,cO ds=be ys/\(ys.map (·.length)).sum+ys.length*p8.length<=1000000/\R (.str (Txt.join p8 ys))
 |_=>False
variable{k:Nat}
def kB[Jx]{p8:F_}{p1 apos cpos:Tw}(he:WDE X e te)(n_:autoParam (zSE X e []) zA0)
  (b8:autoParam (Tt (.Constant (.str p8) k p1) "join" X.env (Tv (.Constant (.str p8) k p1) X.env)=Tv (.Constant (.str p8) k p1) X.env) zA0)
  (d8:autoParam (zHF X cpos [e]) zA0)
  (c8:autoParam ((apos.endLine==cpos.line)=true) zA0):WDE X (.Call (.Attribute (.Constant (.str p8) k p1) "join" apos) [e] [] cpos) (zp p8 te):=⟨have he:=he.out;(eg PySem.F.plainAttrs_str PySem.F.slot_str_join PySem.F.type_str_join zo qp (bD he pa_nil n_) b8 d8 c8 n_).anti λs H Q q=>by
 obtain⟨B,F,z,kf,rs,R,h1,h2⟩:=q;have fh:=kf.fh;refine#[rfl,?_];refine#[B,F,z,kf,rs,_,h1,λx u F1 H1 g1 hx rx=>?_];split at hx
 .obtain⟨ys,e1,e2,hx⟩:=hx;obtain⟨l,vs,rfl,hq,rr⟩:=rep_lst.mp rx;exact#[p8,l,vs,ys,rfl,rfl,g1.fh _ _ hq,λus q=>sA e1 rr q,GW e2 K3,h2 _ _ F1 H1 g1 hx (rep_str.mpr rfl)]
 .exact hx.elim⟩
def dOix(i:Nat)(tb:TD):TD:=λz R=>match z[i]? with
 |some (be (.own ds))=>tb z λy=>match y with|.int k=>∃d,atI ds k=be d/\R d|_=>False
 |_=>False
def kC[Jx](i:Nat){x:F_}(hb:WDE X b tb)(hN:autoParam (X.N[i]?=be x) zA0)(hv:autoParam (Vis X.env.scope x) zA5)(hd:autoParam (zND x) zA1)
  (gV:autoParam (zNC x) zA1) (hs:autoParam (dZ b) zA6):WDE X (.Subscript (.Name x p) b pos) (dOix i tb):=⟨have hb:=hb.out;(pe_ix ix_list (cK hN hv hd gV) hb hs).anti λs H Q q=>by
 obtain⟨B,F,z,kf,rs,R,h1,h2⟩:=q;have fh:=kf.fh;unfold dOix at h1;split at h1
 .rename_i ds ez;obtain⟨a,vs,q1,q2,q3,q4,q5⟩:=rs.own i ds ez;refine#[.ref a,q1,B,F,z,kf,rs,_,h1,λy v F1 H1 g1 hy ry=>?_];split at hy
  .obtain⟨d,e1,hR⟩:=hy;obtain⟨w,e2,h_⟩:=(q5.mono g1.ff).at e1;exact#[a,vs,_,w,rfl,rep_int.mp ry,SqL.of (g1.hh _ _ q2),e2,h2 d w F1 H1 g1 hR h_]
  .exact hy.elim
 .exact h1.elim⟩
def cutD(xs:List D)(lo hi:Option Int):List D:=(xs.drop (HT.sIx xs.length 0 lo)).take (HT.sIx xs.length xs.length hi-HT.sIx xs.length 0 lo)
def Reps.drop{K:Ex}{F:Hp}:∀(n:Nat) {xs:List D} {us:List V},Reps K F xs us->Reps K F (xs.drop n) (us.drop n)
 |0,_,_,r=>r
 |n+1,[],us,r=>by rw[reps_nil.mp r];exact reps_nil.mpr rfl
 |n+1,x::xs,us,r=>by
  obtain⟨u,ur,rfl,_,a2⟩:=reps_cons.mp r;exact Reps.drop n a2
def Reps.take{K:Ex}{F:Hp}:∀(n:Nat) {xs:List D} {us:List V},Reps K F xs us->Reps K F (xs.take n) (us.take n)
 |0,_,_,_=>reps_nil.mpr rfl
 |n+1,[],us,r=>by rw[reps_nil.mp r];exact reps_nil.mpr rfl
 |n+1,x::xs,us,r=>by
  obtain⟨u,ur,rfl,a1,a2⟩:=reps_cons.mp r;exact reps_cons.mpr #[u,_,rfl,a1,Reps.take n a2]
def Reps.cut{F:Hp}{xs:List D}{us:List V}(r:Reps K F xs us)(lo hi:Option Int):Reps K F (cutD xs lo hi) (cutV us lo hi):=by
 unfold cutD cutV;rw[r.length];exact(r.drop _).take _
def zq(ta tb:TD):TD:=λz R=>ta z λx=>tb z λy=>match x,y with|.lst xs,.int i=>R (.lst (cutD xs (be i) t9))|_,_=>False
def zr[Jx]{p2:Tw}(ha:WDE X a ta)(hb:WDE X b tb):WDE X (.Subscript a (.Slice (be b) t9 t9 p2) pos) (zq ta tb):=⟨have ha:=ha.out;have hb:=hb.out;(gN gO ha (jY hb) jX).anti λs H Q q=>by
 obtain⟨B,F,z,kf,rs,R,h1,h2⟩:=q;have fh:=kf.fh;refine#[B,F,z,kf,rs,_,h1,λx u F1 H1 g1 hx rx=>?_];refine#[B,F1,z,kf.grow g1,rs.grow g1,_,hx,λy v F2 H2 g2 hy ry=>?_];split at hy
 .refine#[_,rep_int.mp ry,?_];obtain⟨l,vs,rfl,hq,rr⟩:=rep_lst.mp (rx.mono g2.ff);refine#[l,vs,rfl,SqL.of (g2.fh _ _ hq),λp hp=>?_];exact h2 _ _ _ _ (g1.trans (g2.trans (Grow.new g2.fh hp _))) hy (rep_lst.mpr #[p,_,rfl,az,(rr.cut _ _).mono (aN (g2.fh.free hp) _)])
 .exact hy.elim⟩
def zt{t:TGs}{n:Nat}(hc:X.calm=true)(h:PGs X es t)(hn:autoParam ((Ts es X.env).length=n) zA0)(m4:autoParam ((Ts es X.env).findIdx? (·.1)=none) zA0):
  PG X (.Tuple es k pos) (λv σ H Q=>∃a xs,v=.ref a/\SqL X.K H a xs/\xs.length=n/\t xs σ H Q):=by
 intro pins s σ H v u Q I r hw;obtain⟨a,xs,e1,hq,hl,hw⟩:=hw;subst e1;cases r;obtain⟨its,rv,pl,hz⟩:=I.list hq;have e2:(Ts es X.env).length=its.toArray.size:=by simp[hn,<-hl,rv.length]
 rw[PyProof.Rows.assign_Tuple];refine KM (T4 ?_);unfold unpack;rw[e2,m4];refine KM (TR (kun_itemsOf (I.ok.hd hc) pl.isList λh' hx=>?_));have I1:Inv X pins σ H {s with heap:=h'}:=I.kept (t':=s.toks) λb o e=>hx b o (GV (Heap.lt_size e)) e;exact h pins _ σ H xs _ Q I1 (by simpa using rv) hw
def zu(is:List Nat)(te:TD):TSD:=λE z=>te z λx=>match x with|.lst ds=>ds.length=is.length/\E.nx (aY is ds z)|_=>False
def zv[Jx]{is:List Nat}(hc:X.calm=true)(he:WDE X e te)(hg:DGs X es is)(hn:autoParam ((Ts es X.env).length=is.length) zA0)(m4:autoParam ((Ts es X.env).findIdx? (·.1)=none) zA0)
  (hs:autoParam (Ub [.Tuple es k p] e pos.line X.env=pure false) zA0) (hw:autoParam (Uc [.Tuple es k p] e X.env=pure none) zA0) (h1:autoParam ((Ts [.Tuple es k p] X.env).map (·.2)=[Uj (.Tuple es k p) X.env]) zA0):WDS X (.Assign [.Tuple es k p] e pos) (zu is te):=⟨by
 have he:=he.out;obtain⟨u,hu,kk⟩:=hg;refine(jL he (zt hc hu hn m4) hs hw h1).anti λE s H q=>?_;obtain⟨B,F0,F,z,k,rs,ED,h,e⟩:=q;refine#[B,F,z,k.kf,rs,_,h,λd v F' H' g hd rd=>?_];split at hd
 .obtain⟨p,vs,rfl,hq,rr⟩:=rep_lst.mp rd;exact#[p,vs,rfl,SqL.of (g.fh _ _ hq),by rw[rr.length];exact hd.1,kk _ vs z s B F' H' _ hd.1 rr (rs.grow g) λs' r'=>e.nx _ _ F' H' (k.grow g) hd.2 r']
 .exact hd.elim⟩
end
end My
namespace L2
def kD{env:Um}:∀(names:List (F_×Uh)) (u6:List (F_×KF)),(∀n,(n,NameKind.free)∈names->∃c,env.cells.lookup n=be c)->
  ∃cl,(forIn (m:=U9) names u6 λx r=>match x with
     |(name,kind)=>if(kind==NameKind.free)=true then(do let a <-cellOf env name;pure (ForInStep.yield ((name,a)::r)))else pure (ForInStep.yield r))=(pure cl:U9 (List (F_×KF)))/\
   (∀n c,cl.lookup n=be c->env.cells.lookup n=be c\/u6.lookup n=be c)/\(∀n,(n,NameKind.free)∈names->∃c,cl.lookup n=be c)/\∀n c,u6.lookup n=be c->∃c',cl.lookup n=be c'
 |[],u6,_=>#[u6,rfl,(λ_ _ h=>.inr h),(λ_ h=>by cases h),(λ_ c h=>#[c,h])]
 |(name,kind)::r,u6,h=>by
  by_cases hk:(kind==NameKind.free)=true
  .have ek:kind=.free:=by simpa using hk
   subst ek;obtain⟨c,hc⟩:=h name GS;obtain⟨cl,e,p1,p2,p3⟩:=kD r ((name,c)::u6) λn q=>h n (GQ _ q);refine#[cl,?_,λn c' q=>?_,λn q=>?_,λn c' q=>?_]
   .rw[IV];have ec:cellOf env name=pure c:=by unfold cellOf;rw[hc]
    simp only[hk,if_true,ec];exact e
   .rcases p1 n c' q with z|z
    .exact .inl z
    .rw[G3]at z;split at z
     .rename_i q2;have en:n=name:=by simpa using q2
      cases z;exact .inl (en ▸ hc)
     .exact .inr z
   .rcases GP.mp q with z|z
    .cases z;exact p3 _ c (by rw[G3];simp)
    .exact p2 n z
   .by_cases hn:n=name
    .subst hn;exact p3 n c (by rw[G3];simp)
    .exact p3 n c' (by rw[G3,beq_eq_false_iff_ne.mpr hn];exact q)
  .obtain⟨cl,e,p1,p2,p3⟩:=kD r u6 λn q=>h n (GQ _ q);refine#[cl,?_,p1,λn q=>?_,p3]
   .rw[IV];simp only[hk];exact e
   .rcases GP.mp q with z|z
    .cases z;exact absurd rfl hk
    .exact p2 n z
def closure_is{env:Um}{scope:T3}(h:∀n,(n,NameKind.free)∈scope.names->∃c,env.cells.lookup n=be c):
  ∃cl,closureFor scope env=pure cl/\(∀n c,cl.lookup n=be c->env.cells.lookup n=be c)/\∀n,(n,NameKind.free)∈scope.names->∃c,cl.lookup n=be c:=by
 obtain⟨cl,e,p1,p2,_⟩:=kD scope.names [] h;refine#[cl,?_,λn c q=>(p1 n c q).elim id (λz=>nomatch z),p2];unfold closureFor;show(forIn (m:=U9) scope.names [] _>>=λs=>pure s)=pure cl;rw[e];rfl
def hV{env:Um}:∀{names:List (F_×Uh)} {n:F_} {k:Uh},(∀y∈names,y.2≠.cell)->k=.cell\/k=.free->
  (names.map λ(n,k)=>if(k==NameKind.free&&env.scope.kind== .function&&env.kindOf n==be .cell)then(n,NameKind.cell)else(n,k)).lookup n=be k->(n,NameKind.free)∈names
 |[],_,_,_,_,h=>by simp at h
 |(a,b)::r,n,k,hc,hk,h=>by
  rw[G7]at h;by_cases hb:(b==NameKind.free&&env.scope.kind== .function&&env.kindOf a==be .cell)=true
  .have eb:b=.free:=by
    have:=(Hf _ _ ▸ ((Hf _ _ ▸ hb).1)).1;simpa using this
   simp only[hb,if_true]at h;rw[G3]at h;split at h
   .rename_i q;have en:n=a:=by simpa using q
    subst en eb;exact GS
   .exact GQ _ (hV (λy q=>hc y (GQ _ q)) hk h)
  .simp only[hb]at h;rw[if_neg K',G3]at h;split at h
   .rename_i q;have en:n=a:=by simpa using q
    cases h;subst en;rcases hk with z|z
    .exact absurd z (hc _ GS)
    .rw[z];exact GS
   .exact GQ _ (hV (λy q=>hc y (GQ _ q)) hk h)
section
variable {prog:SZ}{w:Tp}{A:Tq}{R:Result->Os->Prop}{s:Os}
abbrev sB(j7:List Tn)(env:Um):U9 Bool:=forIn j7 true λc r=>if r=true then do let ok <-isTrue c env (Tv c env);pure (ForInStep.yield ok)else pure (ForInStep.yield r)
def zw{g_ g6 iter:Tn}{j7:List Tn}{scope:T3}{pos:Tw}{it u6:KB}{env:Um}(I:Nat->Os->Prop)
  (c7:∀n s,I n s->To (SB prog w) A (pyNext it) (λr s₁=>match r with
   |none=>R (.ok .next) s₁
   |some v=>To (SB prog w) A (Uz g6 it v) (λ_ s₁'=>To (SB prog w) A (Uj g6 env v) (λ_ s₂=>To (SB prog w) A (sB j7 env) (λok s₂'=>if ok=true then To (SB prog w) A (Tv g_ env) (λx s₃=>
     To (SB prog w) A (call (.builtin "list.append") [u6,x]) (λ_ s₄=>∃m,m<n/\I m s₄) (λ_ _=>False) s₃)
     (λ_ _=>False) s₂' else ∃m,m<n/\I m s₂') (λ_ _=>False) s₂) (λ_ _=>False) s₁') (λ_ _=>False) s₁) (λ_ _=>False) s)
  (n:Nat) (h:I n s):
  UC (SB prog w) A (.compLoop (.ListComp g_ [#[g6,iter,j7,0]] scope pos) 0 it u6 env) R s:=by
 refine codeAny_loop rfl I (λn s hI=>?_) n h;show To _ _ ((compTurn (.ListComp g_ [#[g6,iter,j7,0]] scope pos) 0 it u6 env).onRaise (λx=>do Uu x env;theTreesLotGoes x)) _ _ s;refine wpAny_noted ?_;rw[compTurn_list];refine KM (T4 (KM (TF (c7 n s hI) (λr s₁ h₁=>?_) λ_ _ h'=>h'.elim)));cases r with
 |none=>exact P3 h₁
 |some v=>
  refine KM (TF h₁ (λ_ s₁' h₁'=>KM (TF h₁' (λ_ s₂ h₂=>KM (TF h₂ (λok s₃ h₃=>?_) λ_ _ h'=>h'.elim)) λ_ _ h'=>h'.elim)) λ_ _ h'=>h'.elim);cases ok with
  |false=>exact P3 #[rfl,h₃]
  |true=>
   exact KM (KM (TF h₃ (λx s₄ h₄=>KM (TF h₄ (λ_ s₅ h₅=>P3 (P3 #[rfl,h₅])) λ_ _ h'=>h'.elim)) λ_ _ h'=>h'.elim))
end
def cf(X:Cx)(scope:T3)(cl:List (F_×KF))(x:F_)(s₀:Os)(H₀:Hp)(fp:List KF):Cx where
 prog:=X.prog
 w:=X.w
 K:=X.K
 mg:=X.mg
 base:=X.base
 A:=X.A
 N:=X.N.map (λn=>if n=x then("":F_)else n)++[x]
 s₀:=s₀
 H₀:=H₀
 env:=compEnvC scope cl s₀.heap.objs.size X.env
 outer:=X.stack
 stack:=X.stack
 ex:=fp
 fn:=λ_=>false
 calm:=X.calm
 pn:=[]
 xe:=λ_ _=>False
structure CompScope(X:Cx)(scope:T3)(x:Str):Prop where
 kind:scope.kind=.function
 nocell:∀y∈scope.names,y.2≠.cell
 names:∀y∈scope.names,y.2=.local->scope.names.lookup y.1=be .local
 own:scope.names.lookup x=be .local
 free:∀n,(n,NameKind.free)∈scope.names->X.env.kindOf n=be .cell
 vis:∀n∈X.N,n≠x->Vis (Vs scope X.env) n->(n,NameKind.free)∈scope.names
 empty:¬Vis (Vs scope X.env) ("":F_)
 cells:∀n,(n,NameKind.free)∈scope.names->(Vs scope X.env).names.lookup n=be .cell
 nd:(X.N.map (λn=>if n=x then("":F_)else n)++[x]).Nodup
section
variable {X:Cx}{pins:List (KF×TL)}{σ:St}{H:Hp}{s:Os}{scope:T3}{cl:List (F_×KF)}{x:F_}{fp:List KF}
def sC(I:Inv X pins σ H s)(S:CompScope X scope x)(c1:∀n c,cl.lookup n=be c->X.env.cells.lookup n=be c)(c2:∀n,(n,NameKind.free)∈scope.names->∃c,cl.lookup n=be c)
  (hf:∀b∈fp,FpOk X pins H b) (hl:∀b∈fp,b<s.heap.objs.size):(cf X scope cl x s H fp).Ok where
 mod:=I.ok.mod
 kind:=S.kind
 glob:=I.ok.glob
 blt:=I.ok.blt
 above:=GN _
 inj:=λy z c h1 h2=>I.ok.inj y z c (c1 y c h1) (c1 z c h2)
 has:=λn hn=>by
  rcases hn with hn|hn
  .exact c2 n (hV S.nocell (.inl rfl) hn)
  .exact c2 n (hV S.nocell (.inr rfl) hn)
 cab:=λ_ _ h=>nomatch h
 hd:=I.ok.hd
 frames:=I.ok.frames
 stk:=.inl rfl
 exf:=λb hb=>#[GV (hl b hb),λy c h=>(hf b hb).2.2.2.2.1 y c (c1 y c h)]
 bs:=I.bs
 bsz:=GW I.ok.bsz I.sz
 noex:=λb o e hb=>by
  have h1:=I.ok.noex b o e;rcases(hf b hb).2.2.2.1 with z|z
  .exact h1 z
  .exact absurd (G9 (Heap.lt_size e) (GW I.ok.bsz z)) (HI _)
 exfs:=λb hb hs=>by
  rcases GP.mp (I.stkSub b hs)with z|z
  .exact(hf b hb).2.1 z
  .exact(hf b hb).2.2.1 z
 funs:=I.stack
 frf:=I.stkFree
def sE{h':Heap}{t':Nat}(I:Inv X pins σ H s)(S:CompScope X scope x)(c1:∀n c,cl.lookup n=be c->X.env.cells.lookup n=be c)(c2:∀n,(n,NameKind.free)∈scope.names->∃c,cl.lookup n=be c)
  (hf:∀b∈fp,FpOk X pins H b) (hl:∀b∈fp,b<s.heap.objs.size) {m:F_->Option KB} (hn:h'.Ns s.heap.objs.size m) (k:∀b o,s.heap.get? b=be o->h'.get? b=be o):
  Inv (cf X scope cl x s H fp) [] (σ++[t9]) H {s with heap:=h',toks:=t'}:=by
 refine#[sC I S c1 c2 hf hl,rfl,I.bare,Un.kept k,#[m,hn,λi n v e1 e2 e3=>?_],λn c e=>?_,I.hok.fresh (GN _),λn c e=>I.freeC n c (c1 n c e),λp hp=>absurd (show p∈([]:List (KF×TL))from hp) K',I.hok.kept k,?_]
 .have hi:i<σ.length:=by
   rcases H8 i σ.length with q|q
   .exact q
   .rw[HF q]at e2;cases hz:i-σ.length with
    |zero=>rw[hz]at e2;simp at e2
    |succ z=>rw[hz]at e2;simp at e2
  rw[Ht hi]at e2;have Nm:i<X.N.length:=by rw[<-I.len];exact hi
  have Lx:(X.N.map (λn=>if n=x then("":F_)else n)++[x])[i]?=be n:=e1;rw[Ht (by simpa using Nm),GY,G4 Nm]at Lx;simp only[Option.map_some,Option.some.injEq]at Lx;by_cases hx:X.N[i]=x
  .rw[if_pos hx]at Lx;subst Lx;exact absurd e3 S.empty
  .rw[if_neg hx]at Lx;subst Lx;have j_:=S.vis _ (Hg Nm) hx e3;have l_:=S.free _ j_;obtain⟨c,hc⟩:=c2 _ j_;obtain⟨mX,SQ,Rm⟩:=I.loc;obtain⟨u,ru,lk⟩:=Rm i X.N[i] v (G4 Nm) e2 (.inr (.inl l_));refine#[u,ru,.inr #[?_,c,hc,?_]]
   .exact .inl (S.cells _ j_)
   .rcases lk with⟨kl,_⟩|⟨_,c',KE,g9⟩
    .rw[l_]at kl;cases kl
    .have:c=c':=by
      have:=c1 _ c hc;rw[KE]at this;exact(Option.some.inj this).symm
     subst this;obtain⟨o,ho,hd⟩:=g9;exact#[o,k _ _ ho,hd]
 .obtain⟨v,o,ho,hd⟩:=I.cell n c (c1 n c e);exact#[v,o,k _ _ ho,hd]
 .show(σ++[t9]).length=(X.N.map _++[x]).length;rw[G2,G2,GT,I.len];rfl
end
def fT(wi:TI)(tt:TT)(i6:TE):TE:=λσ H Q=>wi σ H λJ H1=>∀D,H1 D=t9->∃W:Nat->Nat->Hp->Prop,(∃m,W 0 m (upd H1 D (.lst [])))/\∀i m H,W i m H->
 (J.stop i H/\Q (.ref D) H)\/(J.go i H/\∀x H',J.yld i H x H'->tt (σ++[be x]) H' λb H1=>if b=true then i6 (σ++[be x]) H1 λy H''=>∃vs,H'' D=be (.lst vs)/\vs.length<sizeLine/\∃m',m'<m/\W (i+1) m' (upd H'' D (.lst (vs++[y])))else ∃m',m'<m/\W (i+1) m' H1)
def PIf(X:Cx)(j7:List Tn)(t:TT):Prop:=
 ∀(pins:List (KF×TL)) (s:Os) (σ:St) (H:Hp) (Q:Bool->Hp->Prop),Inv X pins σ H s->t σ H Q->To (SB X.prog X.w) X.A (sB j7 X.env) (TP X pins σ Q) X.xe s
def pif_nil{X:Cx}:PIf X [] (λ_ H Q=>Q true H):=λpins s σ H Q I q=>wpAny_tests_nil #[H,I,q]
def PIf.anti{X:Cx}{e:List Tn}{t t':TT}(h:PIf X e t)(a:∀s H Q,t' s H Q->t s H Q):PIf X e t':=λpins s σ H Q I q=>h pins s σ H Q I (a _ _ _ q)
section
variable {X:Cx}
variable{g_ iter:Tn}{j7:List Tn}{x:F_}{px pos:Tw}{scope:T3}{tt:TT}{i6:TE}
def sF{pins:List (KF×TL)}{s2:Os}{σ:St}{H1:Hp}{cl:List (F_×KF)}{it:KF}{fp:List KF}{tn:Nat->Heap->Prop}{J:It}{Qs:Hp->Prop}{R:Result->Os->Prop}{W:Nat->Nat->Hp->Prop}{m0:Nat}{h₁:Heap}(hc:X.calm=true)(S:CompScope X scope x)
  (hq:∀cl s₀ H₀ fp,PIf (cf X scope cl x s₀ H₀ fp) j7 tt) (he:∀cl s₀ H₀ fp,PE (cf X scope cl x s₀ H₀ fp) g_ i6) (c1:∀n c,cl.lookup n=be c->X.env.cells.lookup n=be c) (c2:∀n,(n,NameKind.free)∈scope.names->∃c,cl.lookup n=be c)
  (I1:Inv X pins σ H1 s2) (T:Turn X.prog X.w X.K (.Name x px) J fp it tn) (st:tn 0 s2.heap) (f1:∀b∈fp,FpOk X pins H1 b) (w0:W 0 m0 (upd H1 s2.heap.objs.size (.lst [])))
  (step:∀i m H,W i m H->(J.stop i H/\Qs H)\/(J.go i H/\∀x H',J.yld i H x H'->tt (σ++[be x]) H' λb H1=>if b=true then i6 (σ++[be x]) H1 λy H''=>∃vs,H'' s2.heap.objs.size=be (.lst vs)/\vs.length<sizeLine/\∃m',m'<m/\W (i+1) m' (upd H'' s2.heap.objs.size (.lst (vs++[y])))else ∃m',m'<m/\W (i+1) m' H1))
  (I4:Inv (cf X scope cl x {s2 with heap:=s2.heap.push {cls:=.type "list",data:=.seq ([]:List KB).toArray},toks:=s2.toks} (upd H1 s2.heap.objs.size (.lst [])) fp) [] (σ++[t9]) (upd H1 s2.heap.objs.size (.lst [])) {s2 with heap:=h₁,toks:=s2.toks+([]:List (F_×KB)).length}) (t0:tn 0 h₁)
  (N1:∀H' s4 m,Inv X pins σ H' s4->s4.heap.Ns (s2.heap.push {cls:=.type "list",data:=.seq ([]:List KB).toArray}).objs.size m->H' (s2.heap.push {cls:=.type "list",data:=.seq ([]:List KB).toArray}).objs.size=t9->Qs H'->R (.ok .next) s4):
  UC (SB X.prog X.w) X.A (.compLoop (.ListComp g_ [#[.Name x px,iter,j7,0]] scope pos) 0 (.ref it) (.ref s2.heap.objs.size) (compEnvC scope cl (s2.heap.push {cls:=.type "list",data:=.seq ([]:List KB).toArray}).objs.size X.env)) R {s2 with heap:=h₁,toks:=s2.toks+([]:List (F_×KB)).length}:=by
 have f9:∀b∈fp,b<s2.heap.objs.size:=λb hb=>by
  obtain⟨o,ho,_⟩:=T.obj _ _ st b hb;exact Heap.lt_size ho
 have I3:Inv X pins σ (upd H1 s2.heap.objs.size (.lst [])) {s2 with heap:=s2.heap.push {cls:=.type "list",data:=.seq ([]:List KB).toArray},toks:=s2.toks}:=I1.lnew (its:=[]) (ys:=[]) .nil (Hb _);have j6:∀b∈fp,b<(s2.heap.push {cls:=.type "list",data:=.seq ([]:List KB).toArray}).objs.size:=λb hb=>by
  rw[Heap.size_push];exact IW (f9 b hb)
 have A_:∀b∈fp,FpOk X pins (upd H1 s2.heap.objs.size (.lst [])) b:=λb hb=>#[by rw[aq (GV (f9 b hb))];exact(f1 b hb).1,(f1 b hb).2];have Nn:=sC (x:=x) (fp:=fp) I3 S c1 c2 A_ j6;generalize hY:cf X scope cl x {s2 with heap:=s2.heap.push {cls:=.type "list",data:=.seq ([]:List KB).toArray},toks:=s2.toks} (upd H1 s2.heap.objs.size (.lst [])) fp=Y at I4 Nn;have yP:Y.prog=X.prog:=Qk
 have yW:Y.w=X.w:=Qk
 have yK:Y.K=X.K:=Qk
 have yA:Y.A=X.A:=Qk
 have yN:Y.N=X.N.map (λn=>if n=x then("":F_)else n)++[x]:=Qk
 have yE:Y.env=compEnvC scope cl (s2.heap.push {cls:=.type "list",data:=.seq ([]:List KB).toArray}).objs.size X.env:=Qk
 have yX:Y.xe=λ_ _=>False:=Qk
 have yC:Y.calm=true:=by rw[<-hY];exact hc
 have Qi:Y.ex=fp:=Qk
 have Rn:Y.pn=[]:=Qk
 have Ro:Y.fs=frs X.stack:=Qk
 have Rp:Y.H₀=upd H1 s2.heap.objs.size (.lst []):=Qk
 have Qj:Y.s₀={s2 with heap:=s2.heap.push {cls:=.type "list",data:=.seq ([]:List KB).toArray},toks:=s2.toks}:=Qk
 have Rq:PE Y g_ i6:=by rw[<-hY];exact he _ _ _ _
 have Rr:PIf Y j7 tt:=by rw[<-hY];exact hq _ _ _ _
 have n6:∀{H':Hp},(∀b∈fp,H' b=t9)->∀b∈fp,FpOk Y [] H' b:=λ{H'} hn b hb=>by
  have g5:b∈Y.ex:=by rw[Qi];exact hb
  exact#[hn b hb,(Nn.exf b g5).1,Nn.exfs b g5,.inl g5,λn c e=>(Nn.exf b g5).2 n c e,by rw[Rn];simp]
 have Mj:Y.env.scope.names.lookup x=be .local:=by rw[yE];exact lookup_relabel_local S.own
 have N2:Y.N[X.N.length]?=be x:=by rw[yN];simp
 have Rs:Y.N.Nodup:=by rw[yN];exact S.nd
 have N3:Y.env.locals=(s2.heap.push {cls:=.type "list",data:=.seq ([]:List KB).toArray}).objs.size:=by rw[yE];rfl
 have d_:∀(o:Option V) (H':Hp) (s':Os),Inv Y [] (σ++[o]) H' s'->Inv X pins σ H' s':=λo H' s' I'=>by
  have bs:=I'.base;rw[Ro,Qi,Rp,Qj]at bs;refine I3.call' (ch:=fp) ?_ bs ?_ I'.bare ?_
  .have:=I'.os;rw[Qj]at this;exact this
  .have:=I'.hok;rw[yP,yW]at this;exact this
  .exact λb hb=>#[(A_ b hb).2.2.2.1,(A_ b hb).2.1,(A_ b hb).2.2.2.2.1,(A_ b hb).2.2.2.2.2]
 refine zw (λn s'=>∃i o H',Inv Y [] (σ++[o]) H' s'/\tn i s'.heap/\(∀b∈fp,H' b=t9)/\W i n H') ?_ m0 #[0,t9,_,I4,t0,λb hb=>(A_ b hb).1,w0];rintro n s3⟨i,o,H3,I5,t3,f3,w3⟩;rcases step i n H3 w3 with⟨stop,q⟩|⟨go,q⟩
 .have dn:=T.done Y yP yW yK yC i [] s3 _ H3 (λ_ _=>False) I5 (n6 f3) t3 stop;rw[yA]at dn;refine thn dn λr s4 b9=>?_;obtain⟨hr,I6⟩:=b9;subst hr;obtain⟨m,hn,_⟩:=I6.loc;have l7:=I6.free;rw[N3]at hn l7;exact N1 H3 s4 m (d_ o H3 s4 I6) hn l7 q
 .have Ql:=T.item Y yP yW yK yC i [] s3 _ H3 (λ_ _=>False) I5 (n6 f3) t3 go;rw[yA]at Ql;refine thn Ql λr s4 b9=>?_;obtain⟨u,hr,h4⟩:=b9;subst hr;refine thn h4 λ_ s5 b9=>?_;obtain⟨xv,H5,I6,r5,y5,G',NN⟩:=b9;have Rt:=I6.pinned (n6 NN) (T.obj _ _ G');rw[<-yE];refine UG (dU Rt Rs N2 (.inl Mj) r5 (λs6 I7=>?_) (.inr Mj));have N4:(σ++[o]).set X.N.length (be xv)=σ++[be xv]:=by
   rw[<-I1.len];simp
  rw[N4]at I7;have tv:=Rr _ s6 _ H5 _ I7 (q xv H5 y5);rw[yP,yW,yA,yX]at tv;refine thn tv λb Ru b9=>?_;obtain⟨Rv,No,qb⟩:=b9;cases b with
  |false=>
   obtain⟨m',hm,w7⟩:=qb;refine#[m',hm,i+1,be xv,_,No.unpinned,T.keep _ _ _ G' λb hb ob e=>(No.pin (b,ob) (Ha _ (Ha _ (dY hb e)))).1,λb hb=>?_,w7];obtain⟨ob,e,d⟩:=T.obj _ _ G' b hb;exact(No.pin (b,ob) (Ha _ (Ha _ (dY hb e)))).2.1
  |true=>
  have ev:=Rq _ Ru _ Rv _ No qb;rw[yP,yW,yA,yX]at ev;refine thn ev λyv s7 b9=>?_;obtain⟨y,H6,I8,ry,vs,Rw,b7,m',hm,w7⟩:=b9;have ap:=kd (X:=Y) _ s7 _ H6 (.ref s2.heap.objs.size) [y] (.ref s2.heap.objs.size) [yv] (λ_ H7=>H7=upd H6 s2.heap.objs.size (.lst (vs++[y]))) I8 rfl (.cons ry .nil) #[_,vs,y,rfl,rfl,Rw,b7,rfl];rw[yP,yW,yA,yX]at ap;refine thn ap λ_ s8 b9=>?_;obtain⟨_,H7,I9,_,e7⟩:=b9;subst e7;refine#[m',hm,i+1,be xv,_,I9.unpinned,T.keep _ _ _ G' λb hb ob e=>(I9.pin (b,ob) (Ha _ (Ha _ (dY hb e)))).1,λb hb=>?_,w7];obtain⟨ob,e,d⟩:=T.obj _ _ G' b hb;exact(I9.pin (b,ob) (Ha _ (Ha _ (dY hb e)))).2.1
def zx{wi:TI}(hc:X.calm=true)(S:CompScope X scope x)(hi:PI X (.Name x px) iter wi)
  (hq:∀cl s₀ H₀ fp,PIf (cf X scope cl x s₀ H₀ fp) j7 tt) (he:∀cl s₀ H₀ fp,PE (cf X scope cl x s₀ H₀ fp) g_ i6) (hs:autoParam (∀y,zFS X iter y) zA3):
  PE X (.ListComp g_ [#[.Name x px,iter,j7,0]] scope pos) (fT wi tt i6):=by
 intro pins s σ H Q I h;obtain⟨cl,g9,c1,c2⟩:=closure_is (env:=X.env) (scope:=scope) (λn q=>I.ok.has n (.inl (S.free n q)));rw[eval_ListComp];refine UW (use:=t9) rfl hs g9 S.kind S.names (thn (hi pins s σ H _ I h) λv s1 h1=>thn h1 λNb s2 h2=>?_);obtain⟨it,fp,tn,J,H1,e,I1,T,st,f1,hr⟩:=h2;subst e;have f9:∀b∈fp,b<s2.heap.objs.size:=λb hb=>by
  obtain⟨o,ho,_⟩:=T.obj _ _ st b hb;exact Heap.lt_size ho
 have hD:H1 s2.heap.objs.size=none:=I1.hok.fresh (GN _);obtain⟨W,⟨m0,w0⟩,step⟩:=hr _ hD;refine TC (Vb S.nocell (by intro y hy;simp at hy) (λh₁ hns₁ hsb₁=>?_) S.kind);have I3:Inv X pins σ (upd H1 s2.heap.objs.size (.lst [])) {s2 with heap:=s2.heap.push {cls:=.type "list",data:=.seq ([]:List KB).toArray},toks:=s2.toks}:=I1.lnew (its:=[]) (ys:=[]) .nil (Hb _);have j6:∀b∈fp,b<(s2.heap.push {cls:=.type "list",data:=.seq ([]:List KB).toArray}).objs.size:=λb hb=>by
  rw[Heap.size_push];exact IW (f9 b hb)
 have A_:∀b∈fp,FpOk X pins (upd H1 s2.heap.objs.size (.lst [])) b:=λb hb=>#[by rw[aq (GV (f9 b hb))];exact(f1 b hb).1,(f1 b hb).2];have kp:∀b o,(s2.heap.push {cls:=.type "list",data:=.seq ([]:List KB).toArray}).get? b=be o->h₁.get? b=be o:=λb o e=>
  (hsb₁.2 b (GV (Heap.lt_size e))).trans (Heap.get?_push_of_some _ e)
 have I4:=sE (x:=x) (fp:=fp) (t':=s2.toks+([]:List (F_×KB)).length) I3 S c1 c2 A_ j6 hns₁ kp;have Kj:(s2.heap.push {cls:=.type "list",data:=.seq ([]:List KB).toArray}).objs.size≠X.env.locals:=HD I3.lt;have Kk:∀z c,X.env.cells.lookup z=be c->c≠(s2.heap.push {cls:=.type "list",data:=.seq ([]:List KB).toArray}).objs.size:=λz c e=>by
  obtain⟨vv,oo,ho,_⟩:=I3.cell z c e;exact GV (Heap.lt_size ho)
 have La:∀p∈X.pn++pins,p.1≠(s2.heap.push {cls:=.type "list",data:=.seq ([]:List KB).toArray}).objs.size:=λp hp=>GV (Heap.lt_size (I3.pin p hp).1);have q9:=sF (pos:=pos) (iter:=iter) (R:=compPost (SB X.prog X.w) X.A X.xe t9 (EP X pins σ Q) (.ref s2.heap.objs.size) (s2.heap.push {cls:=.type "list",data:=.seq ([]:List KB).toArray}).objs.size) hc S hq he c1 c2 I1 T st f1 w0 step I4 (T.keep _ _ _ st (λb hb ob e=>kp b ob (Heap.get?_push_of_some _ e))) λH' s4 m IX hn l7 q=>
  #[m,hn,λh' hsb=>#[.ref s2.heap.objs.size,H',IX.turned (t':=s4.toks) (it:=(s2.heap.push {cls:=.type "list",data:=.seq ([]:List KB).toArray}).objs.size) (λb ob hb e=>(hsb.2 b hb).trans e) l7 Kj (.inr I3.sz) Kk La,rfl,q]]
 exact U7 q9 (T.self _ _ _ _ _ (T.keep _ _ _ st (λb hb ob e=>kp b ob (Heap.get?_push_of_some _ e))) q9)
def sG{y:F_}{py m5:Tw}{wi:TI}{ix:Nat}(hc:X.calm=true)(S:CompScope X scope x)(hi:PI X (.Name x px) iter wi)
  (hq:∀cl s₀ H₀ fp,PIf (cf X scope cl x s₀ H₀ fp) j7 tt) (he:∀cl s₀ H₀ fp,PE (cf X scope cl x s₀ H₀ fp) g_ i6) (hN:X.N.Nodup) (Ml:X.N[ix]?=be y) (hy:Loc X.env.scope y) (hf:zFN X y)
  (Ki:TJ (.ListComp g_ [#[.Name x px,iter,j7,0]] scope pos) (be (.Name y py)) m5.line X.env=pure true) (hs:autoParam (∀y,zFS X iter y) zA3):
  PS X (.Assign [.Name y py] (.ListComp g_ [#[.Name x px,iter,j7,0]] scope pos) m5) (tAsg (fT wi tt i6) (fE ix)):=by
 intro pins s σ H DE I h;have h:wi σ H λJ H1=>∀D,H1 D=t9->∃W:Nat->Nat->Hp->Prop,(∃m,W 0 m (upd H1 D (.lst [])))/\∀i m H,W i m H->
  (J.stop i H/\DE.nx (σ.set ix (be (.ref D))) H)\/(J.go i H/\∀x H',J.yld i H x H'->tt (σ++[be x]) H' λb H1=>if b=true then i6 (σ++[be x]) H1 λy H''=>∃vs,H'' D=be (.lst vs)/\vs.length<sizeLine/\∃m',m'<m/\W (i+1) m' (upd H'' D (.lst (vs++[y])))else ∃m',m'<m/\W (i+1) m' H1):=h
 obtain⟨cl,g9,c1,c2⟩:=closure_is (env:=X.env) (scope:=scope) (λn q=>I.ok.has n (.inl (S.free n q)));rw[exec_Assign_Name_used _ _ _ _ Ki];refine KM (T4 (KM ?_));show To _ X.A (do let _ <-comprehension (.ListComp g_ [#[.Name x px,iter,j7,0]] scope pos) scope X.env _ (newList []) false (Tv iter X.env) (be (Uj (.Name y py) X.env))) _ _ s;refine KM (TF (UW (use:=be (Uj (.Name y py) X.env)) (Q:=λ_ s'=>SP X pins DE .next s') rfl hs g9 S.kind S.names
  (thn (hi pins s σ H _ I h) λv s1 h1=>thn h1 λNb s2 h2=>?_)) (λ_ s' hq=>P3 (P3 hq)) λ_ _ e=>e)
 obtain⟨it,fp,tn,J,H1,e,I1,T,st,f1,hr⟩:=h2;subst e;have f9:∀b∈fp,b<s2.heap.objs.size:=λb hb=>by
  obtain⟨o,ho,_⟩:=T.obj _ _ st b hb;exact Heap.lt_size ho
 have hD:H1 s2.heap.objs.size=none:=I1.hok.fresh (GN _);obtain⟨W,⟨m0,w0⟩,step⟩:=hr _ hD;refine TC (Vb S.nocell (by intro y hy;simp at hy) (λh₁ hns₁ hsb₁=>?_) S.kind);have I3:Inv X pins σ (upd H1 s2.heap.objs.size (.lst [])) {s2 with heap:=s2.heap.push {cls:=.type "list",data:=.seq ([]:List KB).toArray},toks:=s2.toks}:=I1.lnew (its:=[]) (ys:=[]) .nil (Hb _);have j6:∀b∈fp,b<(s2.heap.push {cls:=.type "list",data:=.seq ([]:List KB).toArray}).objs.size:=λb hb=>by
  rw[Heap.size_push];exact IW (f9 b hb)
 have A_:∀b∈fp,FpOk X pins (upd H1 s2.heap.objs.size (.lst [])) b:=λb hb=>#[by rw[aq (GV (f9 b hb))];exact(f1 b hb).1,(f1 b hb).2];have kp:∀b o,(s2.heap.push {cls:=.type "list",data:=.seq ([]:List KB).toArray}).get? b=be o->h₁.get? b=be o:=λb o e=>
  (hsb₁.2 b (GV (Heap.lt_size e))).trans (Heap.get?_push_of_some _ e)
 have I4:=sE (x:=x) (fp:=fp) (t':=s2.toks+([]:List (F_×KB)).length) I3 S c1 c2 A_ j6 hns₁ kp;have Kj:(s2.heap.push {cls:=.type "list",data:=.seq ([]:List KB).toArray}).objs.size≠X.env.locals:=HD I3.lt;have Kk:∀z c,X.env.cells.lookup z=be c->c≠(s2.heap.push {cls:=.type "list",data:=.seq ([]:List KB).toArray}).objs.size:=λz c e=>by
  obtain⟨vv,oo,ho,_⟩:=I3.cell z c e;exact GV (Heap.lt_size ho)
 have La:∀p∈X.pn++pins,p.1≠(s2.heap.push {cls:=.type "list",data:=.seq ([]:List KB).toArray}).objs.size:=λp hp=>GV (Heap.lt_size (I3.pin p hp).1);have q9:=sF (pos:=pos) (iter:=iter) (R:=compPost (SB X.prog X.w) X.A X.xe (be (Uj (.Name y py) X.env)) (λ_ s'=>SP X pins DE .next s') (.ref s2.heap.objs.size) (s2.heap.push {cls:=.type "list",data:=.seq ([]:List KB).toArray}).objs.size) hc S hq he c1 c2 I1 T st f1 w0 step I4 (T.keep _ _ _ st (λb hb ob e=>kp b ob (Heap.get?_push_of_some _ e))) λH' s4 m IX hn l7 q=>by
  show To _ X.A (Uj (.Name y py) X.env (.ref s2.heap.objs.size)) _ _ s4;refine UG (qo IX hN Ml hy (v:=.ref s2.heap.objs.size) rfl (λs5 I7 ⟨a,hsb,ha⟩=>?_) hf);have N5:(s2.heap.push {cls:=.type "list",data:=.seq ([]:List KB).toArray}).objs.size≠a:=by
   rcases ha with e|e
   .rw[e];exact Kj
   .exact λz=>Kk y a e z.symm
  exact#[m,hn.sameBut hsb N5,λh' KJ=>#[_,H',I7.turned (t':=s5.toks) (it:=(s2.heap.push {cls:=.type "list",data:=.seq ([]:List KB).toArray}).objs.size) (λb ob hb e=>(KJ.2 b hb).trans e) l7 Kj (.inr I3.sz) Kk La,q]]
 exact U7 q9 (T.self _ _ _ _ _ (T.keep _ _ _ st (λb hb ob e=>kp b ob (Heap.get?_push_of_some _ e))) q9)
end
end L2
namespace My
def RepS.snoc{K:Ex}{B F H:Hp}{z:SD}{s:L2.St}{d:D}{v:V}(h:RepS K B F H z s)(r:Rep K F d v):RepS K B F H (z++[be d]) (s++[be v]):=by
 have no:=r.noown;have get:∀{j:Nat} {x:D},(z++[be d])[j]?=be (be x)->(j<z.length/\z[j]?=be (be x))\/(j=z.length/\x=d):=λ{j x} e=>by
  rcases H8 j z.length with q|q
  .rw[Ht q]at e;exact .inl #[q,e]
  .rw[HF q]at e;cases hz:j-z.length with
   |zero=>rw[hz]at e;simp at e;exact .inr #[KK,e.symm]
   |succ n=>rw[hz]at e;simp at e
 have lt:∀{j:Nat},j<z.length->(s++[be v])[j]?=s[j]?:=λ{j} q=>Ht (by rw[h.len];exact q);refine#[by rw[G2,G2,h.len];rfl,λj x e nx=>?_,λj ds e=>?_,λj k dj dk a e1 e2 e3 e4=>?_]
 .rcases get e with⟨q,e⟩|⟨q,rfl⟩
  .rw[lt q];exact h.val j x e nx
  .exact#[v,by rw[q,HF (by rw[h.len];exact GN _),h.len];simp,r]
 .rcases get e with⟨q,e⟩|⟨q,e⟩
  .rw[lt q];exact h.own j ds e
  .rw[<-e]at no;cases no
 .rcases get e1 with⟨q,e1⟩|⟨q,e1⟩
  .rcases get e2 with⟨q2,e2⟩|⟨q2,e2⟩
   .rw[lt q]at e3;rw[lt q2]at e4;exact h.apart j k dj dk a e1 e2 e3 e4
   .rw[<-e2]at no;cases no
  .rw[<-e1]at no;cases no
def okB:Bool->Bool->Prop->Prop->Prop
 |_,true,A,_=>A
 |false,false,_,B=>B
 |true,false,_,_=>False
def cmpG(nf:Bool)(tt:TDT)(te:TD)(z:SD)(R:D->Prop)(items:List D):Prop:=items.length<=100000/\∃W:Nat->List D->Prop,W 0 []/\(∀k x ys,items[k]?=be x->(nf=true->ys.length=k)->W k ys->tt (z++[be x]) λb=>okB nf b (te (z++[be x]) λy=>W (k+1) (ys++[y])) (W (k+1) ys))/\∀ys,(nf=true->ys.length=items.length)->W items.length ys->R (.lst ys)
def cmpP(te:TD)(z:SD)(R:D->Prop)(items:List D):Prop:=items.length<=100000/\∃W:Nat->List D->Prop,W 0 []/\(∀k x ys,items[k]?=be x->ys.length=k->W k ys->te (z++[be x]) λy=>W (k+1) (ys++[y]))/\∀ys,ys.length=items.length->W items.length ys->R (.lst ys)
def kE(ti:TDI)(te:TD):TD:=λz R=>ti z (cmpP te z R)
def dT1:TDT:=λ_ R=>R true
abbrev DIf(X:Cx)[Jx](j7:List Tn)(t:TDT):Prop:=PIf X j7 (lT X.K t)
variable{X:Cx}
def kF[Jx]:DIf X [] dT1:=pif_nil.anti λs H Q q=>by
 obtain⟨B,F,z,kf,rs,R,h1,h2⟩:=q;exact h2 true F H (Grow.refl kf.fh) h1
structure ItIs(K:Ex)(J:It)(F1 H1:Hp)(items:List D):Prop where
 go:∀k F' H',Grow F1 H1 F' H'->k<items.length->J.go k H'
 yld:∀k F' H' x H'',Grow F1 H1 F' H'->k<items.length->J.yld k H' x H''->H''=H'/\∃d,items[k]?=be d/\Rep K F' d x
 stop:∀F' H',Grow F1 H1 F' H'->J.stop items.length H'
def ItOk[Jx](K:Ex)(wi:TI)(ti:TDI):Prop:=∀{s:L2.St} {H B F:Hp} {z:SD} {P:List D->Prop} {Q:It->Hp->Prop},Kept B Jx.F0 F H->RepS K B F H z s->ti z P->(∀items J F1 H1,Grow F H F1 H1->P items->ItIs K J F1 H1 items->Q J H1)->wi s H Q
section
variable {X:Cx}
variable{K:Ex}{H:Hp}{s:L2.St}{R:My.D->Prop}{items:List My.D}
def sH[Jx]{B F F1 H1:Hp}{z:SD}{Q:VK}{nf:Bool}{tt:TDT}{te:TD}{J:It}(kf:Kept B Jx.F0 F H)(g1:Grow F H F1 H1)(rs:RepS K B F H z s)(h2:∀D ys us F' H',H D=t9->F' D=t9->Grow F H F' H'->H' D=be (.lst us)->Reps K F' ys us->R (.lst ys)->Q (.ref D) H')
    (it:ItIs K J F1 H1 items) (hd:cmpG nf tt te z R items):
    ∀D,H1 D=t9->∃W:Nat->Nat->Hp->Prop,(∃m,W 0 m (upd H1 D (.lst [])))/\∀i m H,W i m H->
      (J.stop i H/\Q (.ref D) H)\/(J.go i H/\∀x H',J.yld i H x H'->lT K tt (s++[be x]) H' λb H1=>if b=true then lE K te (s++[be x]) H1 λy H''=>∃vs,H'' D=be (.lst vs)/\vs.length<sizeLine/\∃m',m'<m/\W (i+1) m' (upd H'' D (.lst (vs++[y])))else ∃m',m'<m/\W (i+1) m' H1):=by
  intro D hD;obtain⟨hz,W,w0,c7,out⟩:=hd;have Rx:F1 D=none:=g1.fh.free hD;have hH:H D=none:=g1.hh.free hD;refine⟨λk m H'=>m=items.length-k/\k<=items.length/\∃F' ys us,Grow F1 H1 F' H'/\H' D=be (.lst us)/\F' D=t9/\Reps K F' ys us/\(ys.length<=k/\(nf=true->ys.length=k))/\W k ys,
    #[items.length,K',Hb _,F1,[],[],#[Same.refl F1,g1.fh.trans (aN hD _),aN hD _,λb h _=>h],az,Rx,reps_nil.mpr rfl,#[GN _,λ_=>rfl],w0],?_⟩
  rintro k m H'⟨rfl,hk,F',ys,us,G,hu,hF,ry,hl,w⟩;by_cases f9:k<items.length
  . refine .inr #[it.go k F' H' G f9,λx H'' hy=>?_];obtain⟨e,d,hd,rd⟩:=it.yld k F' H' x H'' G f9 hy;subst e;refine#[B,F',z++[be d],kf.grow (g1.trans G),(rs.grow (g1.trans G)).snoc rd,_,c7 k d ys hd hl.2 w,λb F3 H3 g3 hb=>?_];have N6:H3 D=be (.lst us):=g3.hh D _ hu;have Np:F3 D=none:=g3.out D hF (by rw[hu];exact λq=>nomatch q);cases b with
    |false=>
      cases nf with
      |true=>exact hb.elim
      |false=>exact#[items.length-(k+1),KK,rfl,KK,F3,ys,us,G.trans g3,N6,Np,ry.mono g3.ff,#[KK,λz=>nomatch z],hb]
    |true=>
    refine#[B,F3,z++[be d],(kf.grow (g1.trans G)).grow g3,((rs.grow (g1.trans G)).snoc rd).grow g3,_,(show te _ _ from by cases nf<;>exact hb),λy yv F2 H2 g2 hw rv=>?_];have Ry:H2 D=be (.lst us):=g2.hh D _ N6;have Kl:F2 D=none:=g2.out D Np (by rw[N6];exact λq=>nomatch q);have SR:us.length<=k:=by rw[ry.length];exact hl.1
    refine⟨us,Ry,by     have:(100000:Nat)<sizeLine:=by decide
                        lia,items.length-(k+1),KK,rfl,KK,F2,ys++[y],us++[yv],?_,az,Kl,((ry.mono g3.ff).mono g2.ff).append (eK rv),#[SN,λz=>by simp[hl.2 z]],hw⟩
    have GG:=(G.trans g3).trans g2;refine#[GG.ff,λb o e=>?_,λb o e=>?_,GG.out]
    . have ne:b≠D:=λq=>by rw[q,Kl]at e;cases e
      rw[aq ne];exact GG.fh b o e
    . have ne:b≠D:=λq=>by rw[q,hD]at e;cases e
      rw[aq ne];exact GG.hh b o e
  . have ek:k=items.length:=by lia
    subst ek;exact .inl #[it.stop F' H' G,h2 D ys us F' H' hH hF (g1.trans G) hu ry (out ys hl.2 w)]
def zy{F F' H':Hp}{D:KF}{us:List V}(GG:Grow F H F' H')(hu:H' D=be (.lst us))(hF:F' D=t9)(hH:H D=t9):Grow F H (upd F' D (.lst us)) H':=by
 refine#[GG.ff.trans (aN hF _),λb o e=>?_,GG.hh,λb h1 h3=>?_]
 .by_cases hb:b=D
  .subst hb;rw[az]at e;cases e;exact hu
  .rw[aq hb]at e;exact GG.fh b o e
 .have ne:b≠D:=λq=>h3 (q ▸ hH);rw[aq ne];exact GG.out b h1 h3
variable {g_ iter:Tn}{j7:List Tn}{x:F_}{px pos:Tw}{scope:T3}{ti te:TD}{tt:TDT}{wi:TI}{Km:TDI}
def sI[Jx]{nf:Bool}{G:SD->(D->Prop)->List D->Prop}(hG:∀z R items,G z R items->cmpG nf tt te z R items)(hI:ItOk K wi Km){Q:VK}(q:lE K (λz R=>Km z (G z R)) s H Q):fT wi (lT K tt) (lE K te) s H Q:=by
 obtain⟨B,F,z,kf,rs,R,h1,h2⟩:=q;exact hI kf rs h1 λitems J F1 H1 g1 hg it=>sH kf g1 rs (λD ys us F' H' hH hF GG hu ry hR=>h2 (.lst ys) (.ref D) _ H' (zy GG hu hF hH) hR (rep_lst.mpr #[D,us,rfl,az,ry.mono (aN hF _)])) it (hG _ _ _ hg)
def cmpP.g{z:SD}(h:cmpP te z R items):cmpG true dT1 te z R items:=
 let ⟨hz,W,w0,c7,out⟩:=h
 #[hz,W,w0,λk x ys e l w=>c7 k x ys e (l rfl) w,λys l w=>out ys (l rfl) w]
def itL[Jx]:ItOk K (qA K (lE K ti)) (dItL ti):=λ{s H B F z P Q} kf rs h1 h2=>by
 refine#[B,F,z,kf,rs,_,h1,λd v F1 H1 g1 hd rd=>?_];have key:∀(items:List D) (p:KF) (vs:List V),SqL K F1 p vs->Reps K F1 items vs->P items->∃a,V.ref p=.ref a/\(∃xs,SqL K H1 a xs)/\Q (Itl K a) H1:=λitems p vs hq rr hd=>by
  refine#[p,rfl,#[vs,g1.fh.seq hq],h2 items _ F1 H1 g1 hd #[λk F' H' G hk=>?_,λk F' H' x H'' G hk hy=>?_,λF' H' G=>?_]]
  .have o6:k<vs.length:=by rw[rr.length];exact hk
   exact#[vs,vs[k],G.hh.seq (g1.fh.seq hq),by simp[o6]]
  .obtain⟨e,hy⟩:=hy;obtain⟨d,e2,r2⟩:=rr.get' (hy vs (G.hh.seq (g1.fh.seq hq)));exact#[e,d,e2,r2.mono G.ff]
  .exact#[vs,G.hh.seq (g1.fh.seq hq),by rw[rr.length];exact GN _]
 split at hd
 .obtain⟨p,vs,rfl,hq,rr⟩:=rep_lst.mp rd;exact key _ p vs (SqL.of hq) rr hd
 .obtain⟨p,vs,rfl,hq,rr⟩:=rep_rol.mp rd;exact key _ p vs hq rr hd
 .exact hd.elim
def itR[Jx]:ItOk K (qD (qW (lE K ti) tNil)) (dItR ti):=λ{s H B F z P Q} kf rs h1 h2=>by
 refine#[B,F,z,kf,rs,_,h1,λd v F1 H1 g1 hd rd=>?_];split at hd
 .rename_i n;obtain⟨⟨b1,b2⟩,hd⟩:=hd;have hl:((GO n.toNat).map λk=>D.int ((k:Nat):Int)).length=n.toNat:=by simp
  refine#[n,by rw[rep_int.mp rd],KK,b2,h2 _ _ F1 H1 g1 hd #[λk F' H' G hk=>by rw[hl]at hk;exact hk,λk F' H' x H'' G hk hy=>?_,λF' H' G=>by show n.toNat<=_;rw[hl];exact GN _]];rw[hl]at hk;obtain⟨e,rfl⟩:=hy;exact#[e,.int (k:Int),by simp[hk],rep_int.mpr (by congr 1;lia)]
 .exact hd.elim
def fU[Jx]{p1 p2:Tw}(hc:X.calm=true)(S:CompScope X scope x)(hm:X.mg "range"=t9)(hi:WDE X iter ti)(he:∀cl s₀ H₀ fp,WDE (cf X scope cl x s₀ H₀ fp) g_ te)(hg:autoParam (Gl X "range") zA0)
  (hs:autoParam (∀y,zFS X (.Call (.Name "range" p1) [iter] [] p2) y) zA3) (q_:autoParam (zSE X iter []) zA0) (g7:autoParam (Tr [iter] X.env=[(false,Tv iter X.env)]) zA0):WDE X (.ListComp g_ [#[.Name x px,.Call (.Name "range" p1) [iter] [] p2,[],0]] scope pos) (kE (dItR ti) te):=#[have hi:=hi.out;have he:=λcl s₀ H₀ fp=>(he cl s₀ H₀ fp).out;(zx hc S (jN hg hm (bD hi pa_nil q_) g7) (λ_ _ _ _=>kF) he hs).anti λs H Q q=>sI (λ_ _ _=>cmpP.g) itR q]
def zz[Jx]{E:Ends}{ix:Nat}(hI:ItOk K wi Km)(q:lS K (dSet ix (kE Km te)) E s H):tAsg (fT wi (lT K dT1) (lE K te)) (fE ix) E s H:=by
 obtain⟨B,F0,F,z,k,rs,ED,⟨P,h,j⟩,e⟩:=q;exact sI (λ_ _ _=>cmpP.g) hI #[B,F,z,k.kf,rs,P,h,λd v F' H' g hd rd=>e.nx _ _ F' H' (k.grow g) (j d hd) ((rs.grow g).set rd)]
def zA[Jx](ix:Nat){y:F_}{py m5:Tw}(hc:X.calm=true)(S:CompScope X scope x)(hN:X.N.Nodup)(hi:WDE X iter ti)(he:∀cl s₀ H₀ fp,WDE (cf X scope cl x s₀ H₀ fp) g_ te)(Ml:autoParam (X.N[ix]?=be y) zA0)(hy:autoParam (Loc X.env.scope y) zA4)
  (hf:autoParam (zFN X y) zA2) (Ki:autoParam (TJ (.ListComp g_ [#[.Name x px,iter,[],0]] scope pos) (be (.Name y py)) m5.line X.env=pure true) zA0) (hs:autoParam (∀y,zFS X iter y) zA3):WDS X (.Assign [.Name y py] (.ListComp g_ [#[.Name x px,iter,[],0]] scope pos) m5) (dSet ix (kE (dItL ti) te)):=#[have hi:=hi.out;have he:=λcl s₀ H₀ fp=>(he cl s₀ H₀ fp).out;(sG hc S (qB hi) (λ_ _ _ _=>kF) he hN Ml hy hf Ki hs).anti λE s H q=>zz itL q]
end
def eN(scope fsc:T3):List (F_×Uh):=scope.names.map λ(n,k)=>if(k==NameKind.free&&fsc.kind== .function&&fsc.names.lookup n==be .cell)then(n,NameKind.cell)else(n,k)
def visB(l:List (F_×Uh))(n:F_):Bool:=l.lookup n==be .local||l.lookup n==be .cell||l.lookup n==be .free
def cP(scope fsc:T3)(N:List F_)(x:F_):Bool:=
 scope.kind== .function&&scope.names.all (λy=>!(y.2== .cell))&&scope.names.all (λy=>!(y.2== .local)||scope.names.lookup y.1==be .local)&&scope.names.lookup x==be .local &&
 scope.names.all (λy=>!(y.2== .free)||fsc.names.lookup y.1==be .cell)&&N.all (λn=>decide (n=x)||!visB (eN scope fsc) n||scope.names.any (λy=>decide (y=(n,NameKind.free))))&&!visB (eN scope fsc) "" &&
 scope.names.all (λy=>!(y.2== .free)||(eN scope fsc).lookup y.1==be .cell)&&decide (N.map (λn=>if n=x then("":F_)else n)++[x]).Nodup
def sJ{l:List (F_×Uh)}{n:F_}(h:l.lookup n=be .local\/l.lookup n=be .cell\/l.lookup n=be .free):visB l n=true:=by
 unfold visB;rcases h with h|h|h<;>rw[h]<;>rfl
def compScope{scope:T3}{x:F_}(h:cP scope X.env.scope X.N x=true):CompScope X scope x:=by
 unfold cP at h;simp only[Hf]at h;obtain⟨⟨⟨⟨⟨⟨⟨⟨h1,h2⟩,h3⟩,h4⟩,h5⟩,h6⟩,h7⟩,h8⟩,h9⟩:=h;have er:(Vs scope X.env).names=eN scope X.env.scope:=rfl;refine#[by simpa using h1,λy hy=>?_,λy hy e=>?_,by simpa using h4,λn hn=>?_,λn hn ne v=>?_,λv=>?_,λn hn=>?_,of_decide_eq_true h9]
 .have:=Hy.mp h2 y hy;simpa using this
 .have:=Hy.mp h3 y hy;rw[e]at this;simpa using this
 .have:=Hy.mp h5 _ hn;show X.env.scope.names.lookup n=be .cell;simpa using this
 .have:=Hy.mp h6 n hn;have v':visB (eN scope X.env.scope) n=true:=sJ v;rw[v']at this;simp[ne]at this;exact this
 .have v':visB (eN scope X.env.scope) ""=true:=sJ v;rw[v']at h7;cases h7
 .have:=Hy.mp h8 _ hn;rw[er];simpa using this
def putD(f:F_)(v:D):List (F_×D)->List (F_×D)
 |[]=>[(f,v)]
 |(g,x)::r=>if g=f then(g,v)::r else(g,x)::putD f v r
def RepF.put{K:Ex}{F:Hp}{f:F_}{d:D}{v:V}(r:Rep K F d v):∀{fs:List (F_×D)} {ws:List (F_×V)},RepF K F fs ws->RepF K F (putD f d fs) (putF f v ws)
 |[],ws,h=>by
  rw[repf_nil.mp h];exact repf_cons.mpr #[v,[],rfl,r,repf_nil.mpr rfl]
 |(g,x)::fs,ws,h=>by
  obtain⟨w,Lb,rfl,h1,h2⟩:=repf_cons.mp h;unfold putD putF;by_cases e:g=f
  .rw[if_pos e,if_pos e];exact repf_cons.mpr #[v,Lb,rfl,r,h2]
  .rw[if_neg e,if_neg e];exact repf_cons.mpr #[w,_,rfl,h1,RepF.put r h2]
def RepF.length{K:Ex}{F:Hp}:∀{fs:List (F_×D)} {ws:List (F_×V)},RepF K F fs ws->ws.length=fs.length
 |[],ws,h=>by rw[repf_nil.mp h];rfl
 |(g,x)::fs,ws,h=>by
  obtain⟨w,Lb,rfl,h1,h2⟩:=repf_cons.mp h;rw[GU,GU,RepF.length h2]
def ClsA(K:Ex)(x f:F_):Prop:=∃C,nsIn K Pi x=be (be (.ref C))/\Cls K C/\NoAttr K C f
section
variable {X:Cx}{a b c e:Tn}{ta tb tc te:TD}{pos:Tw}
def dFld(x f:F_)(te:TD):TD:=λz R=>te z λd=>match d with|.obj y fs=>y=x/\∃d,fs.lookup f=be d/\R d|_=>False
variable{x:F_}
def eO[Jx]{f:F_}(h:ClsA X.K x f)(he:WDE X e te)(hb:autoParam (Tt e f X.env (Tv e X.env)=Tv e X.env) zA0):WDE X (.Attribute e f pos) (dFld x f te):=⟨have he:=he.out;(qU he hb).anti λs H Q q=>by
 obtain⟨C,hn,hc,hf⟩:=h;obtain⟨B,F,z,kf,rs,R,h1,h2⟩:=q;have fh:=kf.fh;refine#[B,F,z,kf,rs,_,h1,λd u F1 H1 g1 hx rx=>?_];split at hx
 .obtain⟨rfl,d,hl,hR⟩:=hx;obtain⟨a,C',dx,vs,rfl,g8,q,r⟩:=rep_obj.mp rx;rw[hn]at g8;cases g8;obtain⟨v,l,rv⟩:=r.look hl;exact#[a,C,dx,vs,v,rfl,g1.fh _ _ q,hc,hf,l,h2 d v F1 H1 g1 hR rv]
 .exact hx.elim⟩
def sK[Jx]{d:D}{v:V}{u:KB}(hm:X.mg x=be u)(r:RelV v u)(rd:∀H,Rep X.K H d v)(hg:autoParam (Gl X x) zA0)(hd:autoParam (zND x) zA1):DE X (.Name x pos) (dC d):=de_c (wl hg hm r hd) rd
def eQ[Jx]{i:Int}(h:∃t,X.mg x=be (.int i t))(hg:autoParam (Gl X x) zA0)(hd:autoParam (zND x) zA1):WDE X (.Name x pos) (dC (.int i)):=⟨by
 obtain⟨t,h⟩:=h;exact sK (v:=.int i) h #[t,rfl] (λ_=>rep_int.mpr rfl) hg hd⟩
def eU[Jx]{y:F_}(h:∃t,X.mg x=be (.str y t))(hg:autoParam (Gl X x) zA0)(hd:autoParam (zND x) zA1):WDE X (.Name x pos) (dC (.str y)):=⟨by
 obtain⟨t,h⟩:=h;exact sK (v:=.str y) h #[t,rfl] (λ_=>rep_str.mpr rfl) hg hd⟩
structure ClsI(K:Ex)(mg:Str->Option KB)(x:Str)(C:KF):Prop where
 ns:nsIn K Pi x=be (be (.ref C))
 mg:mg x=be (.ref C)
 cl:Cls K C
 ha:GR K (.ref C) "__class__"=be (be (.builtin "object.__class__"))
 hn:specialIn K (.builtin "object.__class__") "__get__"=be (be (.builtin "getset_descriptor.__get__"))
 htk:takesIn K (.builtin "object.__class__")=be true
 hm:Hx K C (.type "object")=be true
 self:kitOne K (.ref C) (.ref C)=be true
end
abbrev SiD:=List D->(List (F_×D)->Prop)->Prop
def lSi(K:Ex)(C:KF)(S:SiD):Sp:=λvs H Q _=>∃a dx us H1 F ds,vs=.ref a::us/\H=upd (upd H1 dx (.own a)) a (.ins C dx [])/\H1 a=t9/\H1 dx=t9/\dx≠a/\Same F H1/\Reps K F ds us/\
 ∃R:List (F_×D)->Prop,S ds R/\∀fs ws Kn F' H',Grow F H1 F' H'->R fs->H' a=be (.ins C Kn ws)->F' a=t9->RepF K F' fs ws->Q .non H'
def CalM(P:SZ)(w:Tp)(K:Ex)(mg:F_->Option KB)(base:Heap)(n:Nat)(x:F_)(ps:List F_)(S:SiD):Prop:=
 ∃C f fd,nsIn K Pi x=be (be (.ref C))/\mg x=be (.ref C)/\Mk K C f/\FnOk P w K mg base (Exc.CX1 P w) n f fd ps (lSi K C S)/\Binds K fd ps []
def zB(x:F_)(S:SiD)(t:TDA):TD:=λz R=>t z λds=>S ds λfs=>R (.obj x fs)
def kG[Jx]{pos:Tw}{n m:Nat}{ps:List F_}{S:SiD}{x:F_}{p:Tw}{e:Tn}{es:List Tn}{t:TDA}(M:CalM X.prog X.w X.K X.mg X.base n x ps S)(hr:Room m X.A)(ha:WDA X (e::es) t)(hg:autoParam (Gl X x) zA0)(hn:autoParam (n+1<=m) zA1)(d5:autoParam (zND x) zA1)
  (he:autoParam (zSE X e es) zA0) (c5:autoParam (zPL X pos es) zA0):WDE X (.Call (.Name x p) (e::es) [] pos) (zB x S t):=⟨by
 have ha:=ha.out;obtain⟨C,f,fd,hns,j9,mk,F,hb⟩:=M;refine(gL mk F (hr.mono hn) hg j9 hb .nil eB ha d5 he c5).anti λs H Q q=>?_;obtain⟨B,F,z,kf,rs,R,h1,h2⟩:=q;have fh:=kf.fh;refine#[B,F,z,kf,rs,_,h1,λds vs F1 H1 g1 hx rx=>?_];intro a dx ha o7 j8;refine#[a,dx,vs,H1,F1,ds,by rw[Hl],rfl,ha,o7,j8,g1.fh,rx,_,hx,λfs ws Kn F' H' g hR e8 i8 rf=>#[rfl,?_]];have s1:Same F' (upd F' a (.ins C Kn ws)):=aN i8 _;refine h2 (.obj x fs) (.ref a) (upd F' a (.ins C Kn ws)) H' #[(g1.ff.trans g.ff).trans s1,λb o q=>?_,g1.hh.trans g.hh,λb q1 q2=>?_] hR (rep_obj.mpr #[a,C,Kn,ws,rfl,hns,az,RepF.mono s1 fs ws rf])
 .by_cases hb:b=a
  .subst hb;rw[az]at q;cases q;exact e8
  .rw[aq hb]at q;exact g.fh b o q
 .by_cases hb:b=a
  .subst hb;exact absurd (g1.hh.free ha) q2
  .rw[aq hb];exact(g1.trans g).out b q1 q2⟩
abbrev TID:=SD->List (F_×D)->(List (F_×D)->Prop)->Prop
def lI(K:Ex)[J:Jx](x:F_)(t:TID):TS:=λE σ H=>∃C a dx ws F z fs,nsIn K Pi x=be (be (.ref C))/\σ[0]?=be (be (.ref a))/\H a=be (.ins C dx ws)/\J.B a=t9/\F a=t9/\Kept J.B J.F0 F H/\RepS K J.B F H z σ/\RepF K F fs ws/\
 ∃R:List (F_×D)->Prop,t z fs R/\∀l6 Lb F' H',Kept J.B J.F0 F' H'->R l6->H' a=be (.ins C dx Lb)->F' a=t9->RepF K F' l6 Lb->E.nx σ H'
abbrev DI(X:Cx)[Jx](x:F_)(st:List SL)(t:TID):Prop:=PSs X st (lI X.K x t)
structure WDI(X:Cx)[Jx](x:Str)(st:List SL)(t:TID):Prop where
 out:DI X x st t
section
variable {X:Cx}{x f:F_}{e:Tn}{te:TD}{pos b_ p:Tw}{rest:List SL}{tr:TID}
def sL:TID:=λ_ fs R=>R fs
def zC(f:F_)(te:TD)(tr:TID):TID:=λz fs R=>te z λd=>fs.length<1000/\tr z (putD f d fs) R
def dJ[Jx]:WDI X x [] sL:=⟨pss_nil.anti λE s H q=>by
 obtain⟨C,a,dx,ws,F,z,fs,hn,h0,e8,m6,i8,g,rs,rf,R,hR,k⟩:=q;exact k fs ws F H g hR e8 i8 rf⟩
def RepS.other{K:Ex}{B F H:Hp}{z:SD}{σ:L2.St}{a:KF}{o o':HO}(rs:RepS K B F H z σ)(h:H a=be o)(hl:∀vs,o≠.lst vs):RepS K B F (upd H a o') z σ:=
 ⟨rs.len,rs.val,λi ds e=>by
  obtain⟨b,vs,q1,q2,q⟩:=rs.own i ds e;have ne:b≠a:=by
   rintro rfl;rw[h]at q2;cases q2;exact hl vs rfl
  exact#[b,vs,q1,by rw[aq ne];exact q2,q],rs.apart⟩
def bO[J:Jx]{ps:Tw}{sx:F_}(hA:ClsA X.K x f)(he:WDE X e te)(hr:WDI X x rest tr)(hN:autoParam (X.N[0]?=be sx) zA0)(hv:autoParam (Vis X.env.scope sx) zA5)(hd:autoParam (zND sx) zA1)
  (gV:autoParam (zNC sx) zA1) (hs:autoParam (TJ e (be (.Attribute (.Name sx ps) f b_)) pos.line X.env=pure false) zA0):WDI X x (.Assign [.Attribute (.Name sx ps) f b_] e pos::rest) (zC f te tr):=⟨have he:=he.out;have hr:=hr.out;(dW (qV (cK (i:=0) hN hv hd gV) he hs) hr).anti λE s H q=>by
 obtain⟨C,a,dx,ws,F,z,fs,hn,h0,e8,m6,i8,g,rs,rf,R,hR,k⟩:=q;obtain⟨C',g8,hc,hf⟩:=hA;rw[hn]at g8;cases g8;refine#[_,F,z,g,rs,_,hR,λd v F2 H2 g2 hx rv=>?_];have k2:=g.grow g2;have Qm:=g2.hh a _ e8;have Kl:F2 a=none:=g2.out a i8 (by rw[e8];exact λz=>nomatch z);refine#[.ref a,h0,a,C,dx,ws,rfl,Qm,hc,hf,by rw[rf.length];exact hx.1,?_];have Rz:Same F2 (upd H2 a (.ins C dx (putF f v ws))):=λb o q=>by
  have ne:b≠a:=by rintro rfl;rw[Kl]at q;cases q
  rw[aq ne];exact g2.fh b o q
 have B_:Same J.B (upd H2 a (.ins C dx (putF f v ws))):=λb o q=>by
  have ne:b≠a:=by rintro rfl;rw[m6]at q;cases q
  rw[aq ne];exact k2.bh b o q
 exact#[C,a,dx,putF f v ws,F2,z,putD f d fs,hn,h0,az,m6,Kl,#[B_,Rz,k2.f0,k2.out,k2.eb,k2.jf,k2.jo],(rs.grow g2).other Qm (λ_ z=>nomatch z),RepF.put rv (RepF.mono g2.ff fs ws rf),R,hx.2,k]⟩
end
section
variable {P:SZ}{w:Tp}{K:Ex}{mg:F_->Option KB}{base:Heap}
def sM{K:Ex}{B F H:Hp}{z:SD}{σ:L2.St}{v:V}(rs:RepS K B F H z σ):RepS K B F H (t9::z) (be v::σ):=
  ⟨by rw[GU,GU,rs.len],λi d e no=>by
    cases i with
    |zero=>cases e
    |succ i=>exact rs.val i d e no,λi ds e=>by
    cases i with
    |zero=>cases e
    |succ i=>exact rs.own i ds e,λi j di dj a e1 e2 e3 e4=>by
    cases i with
    |zero=>cases e1
    |succ i=>
      cases j with
      |zero=>cases e2
      |succ j=>rw[rs.apart i j di dj a e1 e2 e3 e4]⟩
def Cls.okI{x qual:F_}{st:SL}{f C:KF}{fd:Tu}{N:List F_}{p0:F_}{ps:List F_}{k:Nat}{S:SiD}(T:Fun K "__init__" qual st f fd)(hb:Binds K fd (p0::ps) [])(F:FnScope (p0::N) (p0::ps) (ag st))(len:∀ds R,S ds R->ds.length=ps.length)
  (hns:nsIn K Pi x=be (be (.ref C))) (j9:mg x=be (.ref C)) (mk:Mk K C f)
  (a8:∀(cdv:KB) (A:Tq) (outer:List Um) (s:Os) (H:Hp) (E:XK) (J:Jx),Room k (A.deeper (TB qual (ag st) s.heap.objs.size f cdv))->
   ∃t,DI (cxOf (Exc.CX1 P w) P w K mg base (p0::N) qual (ag st) f cdv A outer s H E).nox x (aL st) t/\∀ds R,S ds R->t (t9::startD N ds) [] R):CalM P w K mg base (k+1) x (p0::ps) S:=by
 refine#[C,f,fd,hns,j9,mk,Fun.okC T F (λvs H Q E h=>?_) (λcdv A outer s H vs Q E hr h=>?_),hb]
 .obtain⟨a,dx,us,H1,F,ds,rfl,_,_,_,_,_,rs,R,h,_⟩:=h;rw[GU,GU,rs.length,len ds R h]
 .obtain⟨a,dx,us,H1,F1,ds,rfl,rfl,ha,o7,j8,fh,rs,R,h,q⟩:=h
  letI:Jx:=#[H1,F1,λ_ _ _=>False]
  obtain⟨t,ht,hq⟩:=a8 cdv A outer s _ E inferInstance hr;have Fa:F1 a=none:=fh.free ha;have hl:L2.start (p0::N) (.ref a::us)=be (.ref a)::L2.start N us:=by
   unfold L2.start;rw[G7,GU,GU,JG];rfl
  have s1:Same H1 (upd (upd H1 dx (.own a)) a (.ins C dx [])):=(aN o7 _).trans (aN (by rw[aq (Ne.symm j8)];exact ha) _);refine#[_,ht.nox,C,a,dx,[],F1,t9::startD N ds,[],hns,by rw[hl];rfl,az,ha,Fa,#[s1,fh.trans s1,Same.refl F1,λ_ h _=>h,rfl,Same.refl F1,λ_ h _=>h],?_,repf_nil.mpr rfl,R,hq ds R h,λl6 Lb F' H' g hR e8 i8 rf=>q l6 Lb dx F' H' #[g.f0,g.fh,g.bh,g.out] hR e8 i8 rf];rw[hl];exact sM (dF rs)
end
section
variable {X:Cx}{a b c e:Tn}{ta tb tc te:TD}{pos:Tw}
def zD(t u:TD):TDI:=λz R=>t z λx=>u z λy=>match x,y with|.int i,.int j=>(-(2^62)<=i/\i<2^62/\-(2^62)<=j/\j<2^62)/\R ((GO (j-i).toNat).map λk=>D.int (i+((k:Nat):Int)))|_,_=>False
def zE[Jx](i:Nat){x:F_}{p p1 p2:Tw}{body:List SL}{Qn:TSD}(hp:TX (SB X.prog X.w) X.A X.env X.xe)(hc:X.calm=true)(hN:X.N.Nodup)(hm:X.mg "range"=t9)(ha:WDE X a ta)(g5:WDE X b tb)(hb:WDSs X body Qn)(hg:autoParam (Gl X "range") zA0)(hi:autoParam (X.N[i]?=be x) zA0)(hx:autoParam (Loc X.env.scope x) zA4)
  (hf:autoParam (zFN X x) zA2) (hs:autoParam (∀y,zFS X (.Call (.Name "range" p1) [a,b] [] p2) y) zA3) (q_:autoParam (zSE X a [b]) zA0) (N7:autoParam (zSE X b []) zA0) (g7:autoParam (Tr [a,b] X.env=[(false,Tv a X.env),(false,Tv b X.env)]) zA0) (N8:autoParam (Tr [b] X.env=[(false,Tv b X.env)]) zA0):WDS X (.For (.Name x p) (.Call (.Name "range" p1) [a,b] [] p2) body [] pos) (dFor i (zD ta tb) Qn):=⟨have ha:=ha.out;have g5:=g5.out;have hb:=hb.out;(cV hp hc (wQ hg hm (bD ha (bD g5 pa_nil N7) q_) g7 N8) (dX hN hi hx hf) hb hs).anti λE s H q=>by
 obtain⟨B,F0,F,z,kp,rs,ED,h,e⟩:=q;refine#[B,F,z,kp.kf,rs,_,h,λd1 v1 F1 H1 g1 h1 r1=>?_];refine#[B,F1,z,kp.kf.grow g1,rs.grow g1,_,h1,λd2 v2 F2 H2 g2 h2 r2=>?_];split at h2
 .rename_i lo i_;obtain⟨bd,W,w0,c7,out⟩:=h2;have hl:((GO (i_-lo).toNat).map λk=>D.int (lo+((k:Nat):Int))).length=(i_-lo).toNat:=by simp
  refine#[lo,i_,by rw[rep_int.mp r1,rep_int.mp r2],bd,jO (lo:=lo) (n:=(i_-lo).toNat) (λk s' H'=>∃F' z',Kept B F0 F' H'/\RepS X.K B F' H' z' s'/\W k z') #[F2,z,(kp.grow g1).grow g2,(rs.grow g1).grow g2,w0] ?_ ?_]
  .rintro k s' H' hk⟨F',z',k',r',w'⟩;exact#[B,F0,F',_,k',r'.set (d:=.int (lo+(k:Int))) (rep_int.mpr rfl),_,c7 k (.int (lo+(k:Int))) z' (by simp[hk]) w',#[λz3 s3 F3 H3 k3 h3 r3=>#[F3,z3,k3,r3,h3],e.rt,e.nx,λz3 s3 F3 H3 k3 h3 r3=>#[F3,z3,k3,r3,h3]]]
  .rintro s' H'⟨F',z',k',r',w'⟩;exact e.nx z' s' F' H' k' (out z' (by rw[hl];exact w')) r'
 .exact h2.elim⟩
def RepS.change[Jx]{K:Ex}{B F0 F H:Hp}{z:SD}{s:L2.St}{i:Nat}{ds N9:List D}{a:KF}{m8:List V}(rs:RepS K B F H z s)(k:Kept B F0 F H)(ez:z[i]?=be (be (.own ds)))(q1:s[i]?=be (be (.ref a)))(hB:B a=t9)(hF:F a=t9)(r:Reps K F N9 m8):
  Kept B F0 F (upd H a (.lst m8))/\RepS K B F (upd H a (.lst m8)) (z.set i (be (.own N9))) s:=by
 have same:∀{G:Hp},G a=t9->Same G H->Same G (upd H a (.lst m8)):=λ{G} ga gs b o eb=>by
  have ne:b≠a:=λz=>by rw[z,ga]at eb;cases eb
  rw[aq ne];exact gs b o eb
 have r2:=rs.setOwn (i:=i) (a:=a) (vs:=m8) (ds:=N9) hB hF r (λj dj hj e1 e2=>hj (rs.apart j i dj ds a e1 ez e2 q1));have es:s.set i (be (.ref a))=s:=by
  apply HZ;intro n;by_cases hn:i=n
  .subst hn;rw[Hr (GZ.mp q1).1,q1]
  .rw[G0 hn]
 rw[es]at r2;exact#[#[same hB k.bh,same hF k.fh,k.f0,k.out,k.eb,k.jf,k.jo],r2]
def Reps.put{K:Ex}{F:Hp}{d:D}{v:V}(r:Rep K F d v):∀{ds:List D} {vs:List V} (j:Nat),Reps K F ds vs->Reps K F (ds.set j d) (vs.set j v)
 |[],vs,j,h=>by rw[reps_nil.mp h];exact reps_nil.mpr rfl
 |x::ds,vs,0,h=>by
  obtain⟨u,us,rfl,h1,h2⟩:=reps_cons.mp h;exact reps_cons.mpr #[v,us,rfl,r,h2]
 |x::ds,vs,j+1,h=>by
  obtain⟨u,us,rfl,h1,h2⟩:=reps_cons.mp h;exact reps_cons.mpr #[u,_,rfl,h1,Reps.put r j h2]
def sN(i:Nat)(te ti:TD):TSD:=λE z=>match z[i]? with
 |some (be (.own ds))=>te z λd=>ti z λy=>match y with|.int k=>∃j,ixN ds.length k=be j/\E.nx (z.set i (be (.own (ds.set j d))))|_=>False
 |_=>False
def sO[Jx](i:Nat){x:F_}{p1 p2:Tw}(he:WDE X e te)(hb:WDE X b tb)(hN:autoParam (X.N[i]?=be x) zA0)(hv:autoParam (Vis X.env.scope x) zA5)(hd:autoParam (zND x) zA1)
  (gV:autoParam (zNC x) zA1)
  (ha:∀v,Uj (.Subscript (.Name x p1) b p2) X.env v=(do
   let ov <-T1 [v] (Tv (.Name x p1) X.env)
   let iv <-T1 [v,ov] (Tv b X.env)
   Ul p2
   T1 [v,ov,iv] (U3 ov iv v)
   Vr [v,ov,iv] []):=by intro _;rfl)
  (hs:autoParam (Ub [.Subscript (.Name x p1) b p2] e pos.line X.env=pure false) zA0) (hw:autoParam (Uc [.Subscript (.Name x p1) b p2] e X.env=pure none) zA0)
  (h1:autoParam ((Ts [.Subscript (.Name x p1) b p2] X.env).map (·.2)=[Uj (.Subscript (.Name x p1) b p2) X.env]) zA0):WDS X (.Assign [.Subscript (.Name x p1) b p2] e pos) (sN i te tb):=⟨have he:=he.out;have hb:=hb.out;(jL he (wG (cK hN hv hd gV) hb rq ha) hs hw h1).anti λE s H q=>by
 obtain⟨B,F0,F,z,k,rs,ED,h,e⟩:=q;unfold sN at h;split at h
 .rename_i ds ez;refine#[B,F,z,k.kf,rs,_,h,λd v F1 H1 g1 hx rv=>?_];obtain⟨a,vs,q1,q2,q3,q4,q5⟩:=(rs.grow g1).own i ds ez;refine#[.ref a,q1,B,F1,z,k.kf.grow g1,rs.grow g1,_,hx,λy w F2 H2 g2 hy ry=>?_];split at hy
  .obtain⟨j,ej,hn⟩:=hy;have r2:=(rs.grow g1).grow g2;have k2:=(k.grow g1).grow g2;have Kl:F2 a=none:=g2.out a q4 (by rw[q2];exact λz=>nomatch z);refine#[a,vs,_,j,rfl,rep_int.mp ry,g2.hh _ _ q2,by rw[q5.length];exact ej,?_];obtain⟨k3,r3⟩:=r2.change k2 ez q1 q3 Kl (Reps.put (rv.mono g2.ff) j (q5.mono g2.ff));exact e.nx _ s F2 _ k3 hn r3
  .exact hy.elim
 .exact h.elim⟩
end
end My
namespace My
open Exc
abbrev XD:=F_->List (F_×D)->Prop
def ErrD(K:Ex)(F:Hp)(x:F_)(fs:List (F_×D))(C:KF)(od:Option KF):Prop:=
 nsIn K Pi x=be (be (.ref C))/\∃vs,RepF K F fs vs/\((od=t9/\vs=[])\/∃b,od=be b/\F b=be (.xd vs))
abbrev SpX:=List D->(D->Prop)->XD->Prop
def lSpX(K:Ex)(S:SpX):Sp:=λvs H Q E=>∃F ds,Same F H/\Reps K F ds vs/\∃(R:D->Prop) (RX:XD),S ds R RX/\(∀d v F' H',Grow F H F' H'->R d->Rep K F' d v->Q v H')/\
 ∀x fs C od F' H',Grow F H F' H'->RX x fs->ErrD K F' x fs C od->E (.ref C) od H'
def Exd(X:Cx)(H:Hp)(s:Os)(e C:KF)(od:Option KF):Prop:=
  H e=t9/\X.s₀.heap.get? e=t9/\(∀p∈X.pn,p.1≠e)/\
  ((∃sl vs,s.heap.get? e=be #[.ref C,od,.fields vs,sl]/\vs[1]?=be .none)\/
    ∃T,ExAt s.heap e C od T .none/\X.s₀.heap.get? T=t9/\H T=t9/\∀p∈X.pn,p.1≠T)
def XOk(X:Cx)[J:Jx]:Prop:=∀(σ:L2.St) (z:SD) (F H:Hp) (s:Os) (e C:KF) (od:Option KF) (x:F_) (fs:List (F_×D)),Inv X [] σ H s->Kept J.B J.F0 F H->RepS X.K J.B F H z σ->J.RX z x fs->ErrD X.K F x fs C od->Exd X H s e C od->X.xe (.ref e) s
variable{X:Cx}{pins:List (KF×TL)}{σ:L2.St}{H:Hp}{s:Os}
def Inv.nopins(I:Inv X pins σ H s):Inv X [] σ H s:=I.pins_of λp hp=>by cases hp
section
variable {X:Cx}{k:Nat}{f:KF}{fd:Tu}{ps:List F_}{sp:Sp}{E:XK}
def hZ{pins:List (KF×TL)}{σ:L2.St}{H:Hp}{s:Os}{Q:VK}{us:List KB}{vs:List V}(F:FnOk X.prog X.w X.K X.mg X.base (CX1 X.prog X.w) k f fd ps sp)(hr:Room k X.A)(hb:Binds X.K fd ps [])
  (hx:∀e s',CX1 X.prog X.w X.stack H s E e s'->X.xe e s') (I:Inv X pins σ H s) (r:Vals vs us) (h:sp vs H Q E):To (SB X.prog X.w) X.A (call (.ref f) us) (EP X pins σ Q) X.xe s:=by
 have hl:us.length=ps.length:=by rw[<-L2.Vals.length r];exact F.len _ _ _ _ h
 have g5:=hb s us I.kIn (by rw[Hl];exact hl);rw[Hl]at g5;refine T_ (T8 (F.run X.A X.stack s H #[us,[]] us vs Q E hr I.env0 g5 r h) λr s' hq=>?_);cases r with
 |error e=>exact hx e s' hq
 |ok fl=>
  cases fl with
  |ret u=>exact I.after hq
  |next=>exact False.elim hq
  |brk=>exact False.elim hq
  |cont=>exact False.elim hq
end
variable{b:KF}
def cF(I:Inv X pins σ H s)(d9:X.ex=[])(q:s.heap.get? b=t9):X.s₀.heap.get? b=none:=by
 cases z:X.s₀.heap.get? b with
 |none=>rfl
 |some o=>
  obtain⟨o',z'⟩:=I.base.there b o z (by rw[d9];simp);rw[q]at z';cases z'
def pn_free(I:Inv X pins σ H s)(q:s.heap.get? b=t9):∀p∈X.pn,p.1≠b:=λp hp z=>by
 have:=(I.pin p (HV _ hp)).1;rw[z,q]at this;cases this
def XOk.out[J:Jx](hx:XOk X)(d9:X.ex=[]){z:SD}{s':Os}{ev:KB}(I:Inv X pins σ H s)
  (h:CX1 X.prog X.w X.stack H s (λCv od H'=>∃x fs C F',Cv=.ref C/\Kept J.B J.F0 F' H'/\RepS X.K J.B F' H' z σ/\J.RX z x fs/\ErrD X.K F' x fs C od) ev s'):X.xe ev s':=by
 obtain⟨e,C,od,T,H',rfl,G_,hb,un,hok,N_,ne,nT,He,HT,x,fs,C',F',hC,kk,rr,hR,er⟩:=h;cases hC;have I':Inv X pins σ H' s':=I.call' G_ un hok hb (λb z=>absurd z K');exact hx σ z F' H' s' e C od x fs (Inv.nopins I') kk rr hR er #[He,cF I d9 ne,pn_free I ne,.inr #[T,N_,cF I d9 nT,HT,pn_free I nT]]
abbrev CalX(P:SZ)(w:Tp)(K:Ex)(mg:F_->Option KB)(base:Heap)(n:Nat)(x:F_)(ps:List F_)(S:SpX):Prop:=Cal P w K mg base n x ps (lSpX K S)
def zF[J:Jx](S:SpX)(t:TDA):TD:=λz R=>t z λds=>S ds R (J.RX z)
variable{ps:List F_}{x:F_}
def sP[J:Jx]{pos:Tw}{n m:Nat}{S:SpX}{p:Tw}{e:Tn}{es:List Tn}{t:TDA}(C:CalX X.prog X.w X.K X.mg X.base n x ps S)(hx:XOk X)(hr:Room m X.A)(ha:WDA X (e::es) t)(d9:autoParam (X.ex=[]) zA0)(hg:autoParam (Gl X x) zA0)(hn:autoParam (n<=m) zA1)(d5:autoParam (zND x) zA1)
  (he:autoParam (zSE X e es) zA0) (c5:autoParam (zPL X pos es) zA0):WDE X (.Call (.Name x p) (e::es) [] pos) (zF S t):=⟨by
 have ha:=ha.out;obtain⟨f,fd,F,hb,hk,hm⟩:=C;intro pins s σ H Q I h;obtain⟨B,Fr,z,kf,rs,R,h1,h2⟩:=h;obtain rfl:B=J.B:=kf.eb;refine Tz (cv I hg hm ?_ d5);refine callWith_K (h₀:=X.base) I.ok.mod.kin hk (thn (ha pos pins s σ H (λvs H1=>lSpX X.K S vs H1 Q (λCv od H'=>∃x fs C F',Cv=.ref C/\Kept J.B J.F0 F' H'/\RepS X.K J.B F' H' z σ/\J.RX z x fs/\ErrD X.K F' x fs C od)) I #[_,Fr,z,kf,rs,_,h1,λds vs F1 H1 g1 hx rx=>?_]) λus s1 ⟨vs,H1,I1,r,q⟩=>#[I1.kIn,?_]) he c5
 .exact#[F1,ds,g1.fh,rx,R,J.RX z,hx,λd v F' H' g=>h2 d v F' H' (g1.trans g),λx fs C od F' H' g hR er=>#[x,fs,C,F',rfl,(kf.grow g1).grow g,(rs.grow g1).grow g,hR,er]]
 .exact hZ F (hr.mono hn) hb (λe s' hq=>hx.out d9 I1 hq) I1 r q⟩
section
variable {P:SZ}{w:Tp}{K:Ex}{mg:F_->Option KB}{base:Heap}
variable{N:List F_}
def sQ{qual:F_}{scope:T3}{f:KF}{cd:KB}{A:Tq}{outer:List Um}{s:Os}{H:Hp}{E':XK}{pins:List (KF×TL)}{σ:L2.St}{H':Hp}{s':Os}{e C T:KF}{od:Option KF}
  (I':Inv (cxOf (CX1 P w) P w K mg base N qual scope f cd A outer s H E') pins σ H' s') (hx:ExAt s'.heap e C od T .none) (ne:s.heap.get? e=t9) (nT:s.heap.get? T=t9) (He:H' e=t9) (HT:H' T=t9) (hE:E' (.ref C) od H'):
  (cxOf (CX1 P w) P w K mg base N qual scope f cd A outer s H E').xe (.ref e) s':=by
 show To _ _ (U5 _ _) _ _ _;unfold U5;refine KM (rK I'.ok.frames I'.stack rfl hx λh2 T2 n5 x8 q8=>flight_none (s:={s' with heap:=h2}) n5 λh3 Mg A'=>?_);have J_:s'.heap.get? T2=none:=Heap.get?_none_of_le x8;have f1:∀b,s'.heap.get? b=t9->s.heap.get? b=none:=λb q=>cF I' rfl q;have hok:HOk P w H' s'.heap:=I'.hok;have KI:H' T2=none:=hok.fresh x8;have RA:∀b∈[T,e],s.heap.get? b=none:=λb hb=>by
  rcases GP.mp hb with z|z
  .rw[z];exact nT
  .rw[GM.mp z];exact ne
 have u2:Un (frs outer) [] H H' s.heap h2:=gQ (show Un (frs outer) [] H H' s.heap s'.heap from I'.base) q8 RA λb hb=>rL hb;have u3:Un (frs outer) [] H H' s.heap h3:=gQ u2 A' (λb hb=>by rw[GM.mp hb];exact f1 T2 J_) λb hb=>by cases hb
 have k2:=fH hok q8 (λb hb=>I'.stkFree b hb) (λb hb=>by
  rcases GP.mp hb with z|z
  .rw[z];exact HT
  .rw[GM.mp z];exact He)
 have k3:=fH k2 A' (λb hb=>by cases hb) (λb hb=>by rw[GM.mp hb];exact KI);exact#[e,C,od,T2,H',rfl,I'.os,I'.bare,u3,k3,Mg,ne,f1 T2 J_,He,KI,hE]
variable{ps:List F_}
def _root_.L2.Fun.okX{x:F_}{st:SL}{f:KF}{fd:Tu}{k:Nat}{S:SpX}(T:Fun K x x st f fd)(F:FnScope N ps (ag st))(len:∀ds R RX,S ds R RX->ds.length=ps.length)
  (a8:∀(cdv:KB) (A:Tq) (outer:List Um) (s:Os) (H:Hp) (E:XK) (J:Jx),Room k (A.deeper (TB x (ag st) s.heap.objs.size f cdv))->XOk (cxOf (CX1 P w) P w K mg base N x (ag st) f cdv A outer s H E)->
   ∃t,DSs (cxOf (CX1 P w) P w K mg base N x (ag st) f cdv A outer s H E) (aL st) t/\∀ds R RX,(∀z,J.RX z=RX)->S ds R RX->t {nx:=λ_=>R .non,rt:=R} (startD N ds)):FnOk P w K mg base (CX1 P w) (k+1) f fd ps (lSpX K S):=by
 refine Fun.okC T F (λvs H Q E h=>?_) (λcdv A outer s H vs Q E hr h=>?_)
 .obtain⟨F,ds,fh,rs,R,RX,h,_⟩:=h;rw[rs.length];exact len ds R RX h
 .obtain⟨F,ds,fh,rs,R,RX,h,q,qx⟩:=h
  letI:Jx:=#[H,F,λ_=>RX]
  have hx:XOk (cxOf (CX1 P w) P w K mg base N x (ag st) f cdv A outer s H E):=by
   intro σ z F' H' s' e C od y fs I kk rr hR er ⟨He,ne,_,hx⟩;have hE:E (.ref C) od H':=qx y fs C od F' H' #[kk.f0,kk.fh,kk.bh,kk.out] hR er;rcases hx with⟨sl,vs,h1,h2⟩|⟨T,h1,h2,h3,_⟩
   .exact rM I h1 h2 He ne hE
   .exact sQ I h1 ne h2 He h3 hE
  obtain⟨t,ht,hq⟩:=a8 cdv A outer s H E inferInstance hr hx;refine#[_,ht,H,F,F,startD N ds,#[Same.refl H,fh,Same.refl F,λ_ h _=>h,rfl,Same.refl F,λ_ h _=>h],dF rs,_,hq ds R RX (λ_=>rfl) h,#[λz' s' F' H' k hn _=>q _ _ F' H' #[k.f0,k.fh,k.bh,k.out] hn (rep_non.mpr rfl),λd v F' H' k hd rd=>q d v F' H' #[k.f0,k.fh,k.bh,k.out] hd rd,λ_ _ _ _ _ h _=>h.elim,λ_ _ _ _ _ h _=>h.elim]]
def Tx.okX{x:F_}{st:SL}{k:Nat}{S:SpX}(T:Tx K mg x st ps)(F:FnScope N ps (ag st))(len:∀ds R RX,S ds R RX->ds.length=ps.length)
  (a8:∀(f:KF) (cdv:KB) (A:Tq) (outer:List Um) (s:Os) (H:Hp) (E:XK) (J:Jx),Room k (A.deeper (TB x (ag st) s.heap.objs.size f cdv))->XOk (cxOf (CX1 P w) P w K mg base N x (ag st) f cdv A outer s H E)->
   ∃t,DSs (cxOf (CX1 P w) P w K mg base N x (ag st) f cdv A outer s H E) (aL st) t/\∀ds R RX,(∀z,J.RX z=RX)->S ds R RX->t {nx:=λ_=>R .non,rt:=R} (startD N ds)):CalX P w K mg base (k+1) x ps S:=by
 obtain⟨f,fd,T,hb,hm⟩:=T;exact#[f,fd,T.okX F len λcdv A outer s H E J hr hx=>a8 f cdv A outer s H E J hr hx,hb,T.kp,hm]
end
variable{P:SZ}{w:Tp}{h:Heap}
def ObjOk.there{a:KF}{o:HO}(x:ObjOk P w H h a o):∃u,h.get? a=be u:=by
 cases o with
 |lst xs=>obtain⟨_,_,_,_,e⟩:=x;exact#[_,e]
 |tup xs=>obtain⟨_,_,_,o,e,_⟩:=x;exact#[_,e]
 |dK a9=>obtain⟨_,_,_,_,o,_,_,e,_⟩:=x;exact#[_,e]
 |dT a9=>obtain⟨_,_,_,_,o,_,_,e,_⟩:=x;exact#[_,e]
 |set S n=>obtain⟨o,_,_,_,e,_⟩:=x;exact#[_,e]
 |ins C dx fs=>obtain⟨_,_,_,e,_⟩:=x;exact#[_,e]
 |own y=>exact x
 |xd fs=>obtain⟨_,⟨_,_,_,e,_⟩,_⟩:=x;exact#[_,e]
 |rng lo hi=>obtain⟨_,_,_,e⟩:=x;exact#[_,e]
 |frz ob u=>obtain⟨e,_⟩:=x;exact#[_,e]
 |tbl ps=>exact#[_,(show h.get? a=be _ from x)]
 |met f y=>exact#[_,(show h.get? a=be _ from x)]
 |ext φ=>obtain⟨_,e,_⟩:=x;exact e
def fV{a:KF}(x:HOk P w H h)(e:h.get? a=t9):H a=none:=by
 cases q:H a with
 |none=>rfl
 |some o=>
  obtain⟨u,hu⟩:=ObjOk.there (x a o q);rw[e]at hu;cases hu
def del(H:Hp)(a:KF):Hp:=λb=>if b=a then t9 else H b
def fW{a:KF}:del H a a=none:=by unfold del;rw[if_pos rfl]
def cn{a:KF}(h:b≠a):del H a b=H b:=by unfold del;rw[if_neg h]
section
variable {X:Cx}{pins:List (KF×TL)}{σ:L2.St}{H:Hp}{s:Os}{e:KF}
variable{φ:Heap->Prop}
def Inv.drop(I:Inv X pins σ H s)(h:H e=be (.ext φ))(ne:X.s₀.heap.get? e=t9):Inv X pins σ (del H e) s:=by
 have nx:∀b o,H b=be o->(∀φ,o≠.ext φ)->b≠e:=λb o q n z=>by rw[z,h]at q;cases q;exact n φ rfl
 refine#[I.ok,I.os,I.bare,#[I.base.keep,I.base.slot,λb o q n hx=>?_,I.base.there,λb xs q=>?_,λb o u q=>?_,λb ps q=>?_],I.loc,I.cell,?_,λx c q=>?_,λp hp=>?_,λa o q=>?_,I.len]
 .have:b≠e:=λz=>by rw[z,ne]at q;cases q
  rw[cn this];exact I.base.free b o q n hx
 .have:=I.base.tups b xs q;rw[cn (nx b _ this λφ z=>nomatch z)];exact this
 .have:=I.base.frzs b o u q;rw[cn (nx b _ this λφ z=>nomatch z)];exact this
 .obtain⟨m,this⟩:=I.base.tbls b ps q;exact#[m,by rw[cn (nx b _ this λφ z=>nomatch z)];exact this]
 .by_cases z:X.env.locals=e
  .rw[z];exact fW
  .rw[cn z];exact I.free
 .by_cases z:c=e
  .rw[z];exact fW
  .rw[cn z];exact I.freeC x c q
 .obtain⟨h1,h2,h3⟩:=I.pin p hp;refine#[h1,?_,h3];by_cases z:p.1=e
  .rw[z];exact fW
  .rw[cn z];exact h2
 .by_cases z:a=e
  .rw[z,fW]at q;cases q
  .rw[cn z]at q;exact(I.hok a o q).stay (λb u _ r=>r) (λb r=>by rw[cn (nx b _ r λφ z=>nomatch z)];exact r) λb xs r=>by rw[cn (nx b _ r λφ z=>nomatch z)];exact r
def Inv.adopt(I:Inv X pins σ H s)(He:H e=t9)(ok:ObjOk X.prog X.w H s.heap e (.ext φ))(ne:X.s₀.heap.get? e=t9)(hl:e≠X.env.locals)(hc:∀x c,X.env.cells.lookup x=be c->c≠e)(hp:∀p∈X.pn++pins,p.1≠e):Inv X pins σ (upd H e (.ext φ)) s:=by
 refine#[I.ok,I.os,I.bare,#[I.base.keep,I.base.slot,λb o q n hx=>?_,I.base.there,λb xs q=>?_,λb o u q=>?_,λb ps q=>?_],I.loc,I.cell,?_,λx c q=>?_,λp Ly=>?_,λa o q=>?_,I.len]
 .have:b≠e:=λz=>by rw[z,ne]at q;cases q
  rw[aq this];exact I.base.free b o q n hx
 .have:=I.base.tups b xs q;rw[aq (bG this He)];exact this
 .have:=I.base.frzs b o u q;rw[aq (bG this He)];exact this
 .obtain⟨m,this⟩:=I.base.tbls b ps q;exact#[m,by rw[aq (bG this He)];exact this]
 .rw[aq (Ne.symm hl)];exact I.free
 .rw[aq (hc x c q)];exact I.freeC x c q
 .obtain⟨h1,h2,h3⟩:=I.pin p Ly;refine#[h1,?_,h3];rw[aq (hp p Ly)];exact h2
 .by_cases z:a=e
  .rw[z,az]at q;cases q;rw[z];exact ok
  .rw[aq z]at q;exact(I.hok a o q).stay (λb u _ r=>r) (λb r=>by rw[aq (bG r He)];exact r) λb xs r=>by rw[aq (bG r He)];exact r
end
structure ErrK(K:Ex)(mg:Str->Option KB)(x:Str)(C N:KF)(bm:List KB):Prop where
 ns:nsIn K Pi x=be (be (.ref C))
 mg:mg x=be (.ref C)
 kp:keepIn K (.ref C)=true
 obj:∃nm q bs sn sub ab col dd k0 k1 k2 k3 k5,K.lookup C=be (TQ nm q C N bs bm true sn sub ab col dd k0 k1 k2 k3 k5 "ValueError.__new__")
 tail:tailIn K veLine bm=true
structure ErrN(K:Ex)(N:KF):Prop where
 ok:nsOkIn K N=true
 no:nsIn K N "__init__"=be t9
def kH{K:Ex}:∀{l:List KB},tailIn K veLine l=true->aM l=true
 |[],e=>by simp[tailIn,veLine]at e
 |v::r,e=>by
  unfold tailIn at e;rcases Bool.or_eq_true_iff.mp e with q|q
  .rw[beq_iff_eq.mp q];decide+kernel
  .split at q
   .split at q
    .simp only[Hf,beq_iff_eq]at q;unfold aM;exact kH q.2
    .cases q
   .cases q
variable{K:Ex}{mg:F_->Option KB}{C N:KF}{bm:List KB}
def ErrK.base(k:ErrK K mg x C N bm):bm.contains (.type "BaseException")=true:=eA K7 (kH k.tail)
section
variable {X:Cx}[J:Jx]{x:F_}{C N:KF}{bm:List KB}{e:Tn}{es:List Tn}{t:TDA}{p cpos pos:Tw}
def zG(x:F_)(t:TDA):TSD:=λ_ z=>t z λds=>ds.length<=1000/\J.RX z x []
def zH(h:∃C N bm,ErrK X.K X.mg x C N bm/\ErrN X.K N)(hx:XOk X)(hc:X.calm=true)(ha:WDA X (e::es) t)(d9:autoParam (X.ex=[]) zA0)(hg:autoParam (Gl X x) zA0)(d5:autoParam (zND x) zA1)
  (he:autoParam (zSE X e es) zA0) (c5:autoParam (zPL X cpos es) zA0):WDS X (.Raise (be (.Call (.Name x p) (e::es) [] cpos)) t9 pos) (zG x t):=⟨by
 have ha:=ha.out;obtain⟨C,N,bm,k,kn⟩:=h;intro pins s σ H D I h;obtain⟨B,F0,F,z,kf,rs,ED,h,ee⟩:=h;obtain rfl:B=J.B:=kf.eb;obtain⟨nm,q,bs,sn,sub,ab,col,dd,k0,k1,k2,k3,k5,lk⟩:=k.obj;refine kj (nm:=nm) (q:=q) (C:=C) (N:=N) (bs:=bs) (bm:=bm) (hdct:=true) (sn:=sn) (sub:=sub) (ab:=ab) (col:=col) (dd:=dd) (k0:=k0) (k1:=k1) (k2:=k2) (k3:=k3) (k5:=k5) (newId:="ValueError.__new__") k.base (I.ok.hd hc) ?_;refine Tz (cv I hg k.mg ?_ d5);refine callWith_K (h₀:=X.base) I.ok.mod.kin k.kp (thn (ha cpos pins s σ H (λvs H1=>∃F1,vs.length<=1000/\Grow F H F1 H1/\J.RX z x []) I #[_,F,z,kf.kf,rs,_,h,λds vs F1 H1 g1 hx rx=>#[F1,by rw[rx.length];exact hx.1,g1,hx.2]]) λus s1 hh=>#[hh.elim λ_ h=>h.elim λ_ h=>h.1.kIn,?_]) he c5;obtain⟨vs,H1,I1,r,F1,hl,g1,hR⟩:=hh;have hC:=I1.kIn _ _ lk;obtain⟨hp,gg,dr,tk,os⟩:=s1;refine Vi PySem.F.excBase_ValueError (tail_of_in I1.kIn k.tail) hC (.of_isNs (isNs_of_in I1.kIn kn.ok)) (nsMap_none_of_in I1.kIn kn.ok kn.no) (λh' ea hm=>?_) (by show us.length<=_;rw[<-L2.Vals.length r];exact sz hl);obtain⟨ta,h1,h2,h3⟩:=hm.there;have I2:Inv X pins σ H1 #[h',gg,dr,tk,os]:=I1.kept (t':=tk) hm.keeps;refine#[ea,ta,t9,[].toArray,rfl,hm.keeps _ _ hC,h1,?_];exact hx σ z F1 H1 _ ea C t9 x [] (Inv.nopins I2) (kf.kf.grow g1) (rs.grow g1) hR #[k.ns,[],repf_nil.mpr rfl,.inl #[rfl,rfl]] #[fV I1.hok hm.new,cF I1 d9 hm.new,pn_free I1 hm.new,.inl #[[].toArray,_,h1,rfl]]⟩
end
def XN(e C:KF)(od:Option KF):HO:=.ext λh=>∃t sl,h.get? e=be #[.ref C,od,.fields [.ref t,.none,.none,.none,.bool false,.none].toArray,sl]
variable{e:KF}{od:Option KF}{sl:Array (Option KB)}
def XN.ok{t:KF}(q:h.get? e=be #[.ref C,od,.fields [.ref t,.none,.none,.none,.bool false,.none].toArray,sl]):ObjOk P w H h e (XN e C od):=
 #[#[t,sl,q],#[_,q],λh1 h2 ⟨t,sl,q⟩ k=>#[t,sl,k _ q]]
def XN.get(x:HOk P w H h)(q:H e=be (XN e C od)):∃t sl,h.get? e=be #[.ref C,od,.fields [.ref t,.none,.none,.none,.bool false,.none].toArray,sl]:=(x e _ q).1
def ErrF(K:Ex)(F:Hp)(fs:List (F_×D))(od:Option KF):Prop:=∃vs,RepF K F fs vs/\((od=t9/\vs=[])\/∃b,od=be b/\F b=be (.xd vs))
def lEi(K:Ex)(C:KF)(S:SiD):Sp:=λvs H Q _=>∃e us H1 F ds,vs=.ref e::us/\H=upd H1 e (XN e C t9)/\H1 e=t9/\Same F H1/\Reps K F ds us/\
 ∃R:List (F_×D)->Prop,S ds R/\∀fs od F' H',Grow F H1 F' H'->R fs->H' e=be (XN e C od)->F' e=t9->ErrF K F' fs od->Q .non H'
def CalE(P:SZ)(w:Tp)(K:Ex)(mg:F_->Option KB)(base:Heap)(n:Nat)(x:F_)(ps:List F_)(S:SiD):Prop:=
 ∃C N bm f fd,ErrK K mg x C N bm/\GR K (.ref C) "__init__"=be (be (.ref f))/\isFn K (.ref f)=true/\FnOk P w K mg base (CX1 P w) n f fd ps (lEi K C S)/\Binds K fd ps []
section
variable {X:Cx}{pins:List (KF×TL)}{σ:L2.St}{H:Hp}{s:Os}{e:KF}
def Inv.newx{C:KF}{h':Heap}{us:List KB}(I:Inv X pins σ H s)(d9:X.ex=[])(hm:Heap.MadeExcOf s.heap h' e (.ref C) us):Inv X pins σ (upd H e (XN e C t9)) {s with heap:=h'}:=by
 obtain⟨ta,h1,h2,h3⟩:=hm.there;have I2:Inv X pins σ H {s with heap:=h'}:=I.kept (t':=s.toks) hm.keeps;refine Inv.adopt I2 (fV I.hok hm.new) (XN.ok h1) (cF I d9 hm.new) (λz=>?_) (λx c q z=>?_) λp hp z=>?_
 .obtain⟨m,⟨o,_,_,ho,_⟩,_⟩:=I.loc;rw[<-z,hm.new]at ho;cases ho
 .obtain⟨v,o,ho,_⟩:=I.cell x c q;rw[z,hm.new]at ho;cases ho
 .have:=(I.pin p hp).1;rw[z,hm.new]at this;cases this
end
structure BaseK(K:Ex)(mg:Str->Option KB)(y:Str)(M:KF):Prop where
 mg:mg y=be (.ref M)
 rd:readsIn K M (.type "type")=true
 fc:findCls K (.ref M) (.type "type") "__init__"=be (.val (.builtin "ValueError.__init__"))
 sp:specialIn K (.ref M) "__getattribute__"=be (be (.builtin "type.__getattribute__"))
structure ErrA(K:Ex)(x:Str)(C:KF)(cd:U0):Prop where
 ns:nsIn K Pi x=be (be (.ref C))
 cl:IY K C=be cd
 mro:aM cd.mro=true
 hd:cd.hasDict=true
 sa:GR K (.ref C) "__setattr__"=be (be (.builtin "object.__setattr__"))
def ErrK.a(k:ErrK K mg x C N bm)(sa:GR K (.ref C) "__setattr__"=be (be (.builtin "object.__setattr__"))):∃cd,ErrA K x C cd:=by
 obtain⟨nm,q,bs,sn,sub,ab,col,dd,k0,k1,k2,k3,k5,lk⟩:=k.obj;exact⟨_,k.ns,by unfold IY;rw[lk],by
  show aM (.ref C::bm)=true;unfold aM;exact kH k.tail,rfl,sa⟩
def lX(K:Ex)[J:Jx](x:F_)(t:TID):TS:=λE σ H=>∃C e od ws F z fs,nsIn K Pi x=be (be (.ref C))/\σ[0]?=be (be (.ref e))/\H e=be (XN e C od)/\J.B e=t9/\F e=t9/\Kept J.B J.F0 F H/\RepS K J.B F H z σ/\RepF K F fs ws/\
 ((od=t9/\ws=[])\/∃b,od=be b/\H b=be (.xd ws)/\J.B b=t9/\F b=t9/\b≠e/\ws≠[])/\
 ∃R:List (F_×D)->Prop,t z fs R/\∀l6 Nq F' H',Kept J.B J.F0 F' H'->R l6->H' e=be (XN e C Nq)->F' e=t9->ErrF K F' l6 Nq->E.nx σ H'
abbrev DX(X:Cx)[Jx](x:F_)(st:List SL)(t:TID):Prop:=PSs X st (lX X.K x t)
structure WDX(X:Cx)[Jx](x:Str)(st:List SL)(t:TID):Prop where
 out:DX X x st t
def sR{a:KF}{o:HO}(h:H a=be o):upd H a o=H:=by
 funext b;unfold upd;by_cases q:b=a
 .rw[if_pos q,q,h]
 .rw[if_neg q]
section
variable {X:Cx}[J:Jx]{x f:F_}{e:Tn}{te:TD}{ta:TDA}{pos b_ p:Tw}{rest:List SL}{tr:TID}
def zI:WDX X x [] sL:=⟨pss_nil.anti λE s H q=>by
 obtain⟨C,a,od,ws,F,z,fs,hn,h0,e8,hB,i8,k,rs,rf,hd,R,hR,kk⟩:=q;rcases hd with⟨rfl,rfl⟩|⟨b,rfl,hb,Nr,Ld,ne,_⟩
 .exact kk fs t9 F H k hR e8 i8 #[[],rf,.inl #[rfl,rfl]]
 .have s1:Same F (upd F b (.xd ws)):=aN Ld _;refine kk fs (be b) (upd F b (.xd ws)) H #[k.bh,λc o q=>?_,k.f0.trans s1,λc h1 h2=>?_,k.eb,k.jf,k.jo] hR e8 (by rw[aq (Ne.symm ne)];exact i8) #[ws,RepF.mono s1 fs ws rf,.inr #[b,rfl,az]]
  .by_cases hc:c=b
   .subst hc;rw[az]at q;cases q;exact hb
   .rw[aq hc]at q;exact k.fh c o q
  .have:c≠b:=λz=>h2 (z ▸ Nr);rw[aq this];exact k.out c h1 h2⟩
def zJ(ta:TDA)(tr:TID):TID:=λz fs R=>ta z λds=>ds.length<=1000/\tr z fs R
def zK{y sx:F_}{ps py apos cpos:Tw}{es:List Tn}{pl:U9 Bool}(hb:∃M,BaseK X.K X.mg y M)(hA:∃C cd,ErrA X.K x C cd)(ha:WDA X es ta)(hr:WDX X x rest tr)(hg:autoParam (Gl X y) zA0)(hN:autoParam (X.N[0]?=be sx) zA0)(hv:autoParam (Vis X.env.scope sx) zA5)(hd:autoParam (zND sx) zA1)
  (gV:autoParam (zNC sx) zA1) (RB:autoParam (zND y) zA1)
  (he:autoParam (Tr (.Name sx ps::es) X.env=(false,Tv (.Name sx ps) X.env)::Tr es X.env) zA0) (c5:autoParam (zPL X cpos es) zA0)
  (ht:Tv (.Call (.Attribute (.Name y py) "__init__" apos) (.Name sx ps::es) [] cpos) X.env=(do
   let ov <-Tv (.Name y py) X.env
   Ul apos.atName
   let (f,first) <-T1 [ov] (UB ov "__init__" pl)
   Vd cpos f first (Ua cpos (Tr (.Name sx ps::es) X.env)) (Uv cpos (T7 [] X.env))):=by rfl)
  (hs:autoParam (TJ (.Call (.Attribute (.Name y py) "__init__" apos) (.Name sx ps::es) [] cpos) t9 pos.line X.env=pure false) zA0):WDX X x (.Expr (.Call (.Attribute (.Name y py) "__init__" apos) (.Name sx ps::es) [] cpos) pos::rest) (zJ ta tr):=⟨by
 have ha:=ha.out;have hr:=hr.out;obtain⟨M,bk⟩:=hb;obtain⟨C,cd,er⟩:=hA;have step:PS X (.Expr (.Call (.Attribute (.Name y py) "__init__" apos) (.Name sx ps::es) [] cpos) pos) (λE σ H=>∃C' e od,nsIn X.K Pi x=be (be (.ref C'))/\σ[0]?=be (be (.ref e))/\
   lA X.K ta σ H (λvs H1=>H1 e=be (XN e C' od)/\vs.length<=1000/\E.nx σ H1)):=by
  intro pins s σ H D I h;obtain⟨C',ea,od,hn,h0,h⟩:=h;rw[er.ns]at hn;cases hn;refine wpAny_Expr_any (methodCall_KW (pl:=pl) (cv I hg bk.mg ?_ RB) ht) I.quiet hs;refine method_cls I.kIn bk.sp (cls_value I.kIn bk.rd bk.fc K7 ?_);have I0:Inv X pins σ H {s with toks:=s.toks+1}:=I.tok _;obtain⟨B,F,z,kf,rs,R,h1,h2⟩:=h;refine PyProof.Rows.callWith_builtin1 (thn (bD (cK (i:=0) hN hv hd gV) ha he cpos pins _ σ H (λvs H1=>∃us,vs=.ref ea::us/\H1 ea=be (XN ea C od)/\us.length<=1000/\D.nx σ H1) I0 #[.ref ea,h0,#[B,F,z,kf,rs,R,h1,λds vs F' H' g hx rx=>#[vs,rfl,h2 ds vs F' H' g hx rx]]]) λus s1 hh=>?_) he c5;obtain⟨vs,H1,I1,r,SS,ev,r_,hl,Le⟩:=hh;subst ev;cases r with
  |cons r1 r2=>
   rename_i u0 SU;obtain rfl:u0=Value.ref ea:=r1;obtain⟨t0,sl,j3⟩:=XN.get I1.hok r_;refine ym (K:=X.K) (C:=C) (cd:=cd) I1.kIn j3 rfl rfl er.cl er.mro (by rw[<-L2.Vals.length r2];exact sz hl) λh' g1 g2=>?_;refine#[σ,H1,?_,Le];have w:=I1.write (x:=ea) (e:=ea) (o:=XN ea C od) (h':=h') (t':=s1.toks) (by rw[r_];exact True.intro) (.inl rfl) (λb u hb q=>g2 b u hb q) #[_,g1] (XN.ok g1);rw[sR r_]at w;exact w
 refine(dW step hr).anti λE s H q=>?_;obtain⟨C',a,od,ws,F,z,fs,hn,h0,e8,hB,i8,k,rs,rf,e_,R,hR,kk⟩:=q;refine#[C',a,od,hn,h0,_,F,z,k,rs,_,hR,λds vs F1 H1 g hx rx=>#[g.hh a _ e8,by rw[rx.length];exact hx.1,?_]];refine#[C',a,od,ws,F1,z,fs,hn,h0,g.hh a _ e8,hB,g.out a i8 (by rw[e8];exact λz=>nomatch z),k.grow g,rs.grow g,RepF.mono g.ff fs ws rf,?_,R,hx.2,kk];rcases e_ with e_|⟨b,h1,h2,h3,h4,h5⟩
 .exact .inl e_
 .exact .inr #[b,h1,g.hh b _ h2,h3,g.out b h4 (by rw[h2];exact λz=>nomatch z),h5]⟩
def zL(f:F_)(te:TD)(tr:TID):TID:=λz fs R=>fs=[]/\te z λd=>tr z [(f,d)] R
def zM{sx:F_}{ps:Tw}(hA:∃C cd,ErrA X.K x C cd)(hf:∀C,nsIn X.K Pi x=be (be (.ref C))->GR X.K (.ref C) f=be t9)(he:WDE X e te)(hr:WDX X x rest tr)(hN:autoParam (X.N[0]?=be sx) zA0)(hv:autoParam (Vis X.env.scope sx) zA5)(hd:autoParam (zND sx) zA1)
  (gV:autoParam (zNC sx) zA1) (hs:autoParam (TJ e (be (.Attribute (.Name sx ps) f b_)) pos.line X.env=pure false) zA0):WDX X x (.Assign [.Attribute (.Name sx ps) f b_] e pos::rest) (zL f te tr):=⟨by
 have he:=he.out;have hr:=hr.out;obtain⟨C,cd,er⟩:=hA;have Lf:=hf C er.ns;have step:PS X (.Assign [.Attribute (.Name sx ps) f b_] e pos) (λE σ H=>∃e,σ[0]?=be (be (.ref e))/\
   lE X.K te σ H (λv H1=>H1 e=be (XN e C t9)/\∀b,H1 b=t9->b≠e->E.nx σ (upd (upd H1 b (.xd [(f,v)])) e (XN e C (be b))))):=by
  intro pins s σ H D I h;obtain⟨ea,h0,h⟩:=h;refine T9 (thn (he pins s σ H _ I h) λu s1 ⟨y,H1,I1,ry,r_,Le⟩=>thn (cK (i:=0) hN hv hd gV pins s1 σ H1 (λv H'=>v=.ref ea/\H'=H1) I1 #[.ref ea,h0,rfl,rfl]) λov s2 hh=>?_) hs;obtain⟨v0,H2,I2,r0,e1,e2⟩:=hh;subst e1 e2;obtain rfl:ov=Value.ref ea:=r0;obtain⟨t0,sl,j3⟩:=XN.get I2.hok r_;refine yk (K:=X.K) (C:=C) (cd:=cd) I2.kIn j3 rfl rfl rfl er.cl er.mro er.hd er.sa Lf λh' g1 g2 g3 tk=>?_;have l7:H2 s2.heap.objs.size=none:=I2.hok.fresh (GN _);have j8:s2.heap.objs.size≠ea:=HD (Heap.lt_size j3);have Oa:∀b o,s2.heap.get? b=be o->b≠s2.heap.objs.size:=λb o q=>GV (Heap.lt_size q);have Ob:∀b,H2 b=t9->b≠ea:=λb q z=>by rw[z,r_]at q;cases q
  refine#[σ,_,?_,Le _ l7 j8];have x9:∀b o,H2 b=be o->(∀φ,o≠.ext φ)->upd (upd H2 s2.heap.objs.size (.xd [(f,y)])) ea (XN ea C (be s2.heap.objs.size)) b=be o:=λb o q n=>by
   have n1:b≠ea:=λz=>by rw[z,r_]at q;cases q;exact n _ rfl
   rw[aq n1,aq (bG q l7)];exact q
  refine I2.un (h':=h') (t':=tk) #[λb o q n _ _=>g3 b o (Ob b n) q,λb o q n _ _=>#[o.slots,g3 b o (Ob b n) q],λb o q n _=>?_,λb o q _=>?_,λb xs q=>x9 b _ q (λφ z=>nomatch z),λb o u q=>x9 b _ q (λφ z=>nomatch z),λb ps q=>#[[].toArray,by rw[x9 b _ q (λφ z=>nomatch z)];simp]] λa o q=>?_
  .rw[aq (Ob b n),aq (Oa b o q)];exact n
  .by_cases hb:b=ea
   .rw[hb];exact#[_,g1]
   .exact#[o,g3 b o hb q]
  .by_cases ha:a=ea
   .subst ha;rw[az]at q;cases q;exact XN.ok g1
   .rw[aq ha]at q;by_cases hb:a=s2.heap.objs.size
    .subst hb;rw[az]at q;cases q;refine#[_,g2,λg=>?_];rw[G3];by_cases hg:g=f
     .subst hg;simp;exact ry
     .have:(g==f)=false:=by simpa using hg
      rw[this,if_neg hg];exact True.intro
    .rw[aq hb]at q;refine(I2.hok a o q).stay (λb u g5 r=>?_) (λb r=>x9 b _ r (λφ z=>nomatch z)) λb xs r=>x9 b _ r (λφ z=>nomatch z);refine g3 b u (λz=>?_) r;rcases g5 with e1|e1
     .exact ha (e1 ▸ z)
     .rw[z,r_]at e1;cases e1
 refine(dW step hr).anti λE s H q=>?_;obtain⟨C',a,od,ws,F,z,fs,hn,h0,e8,hB,i8,k,rs,rf,e_,R,⟨rfl,hR⟩,kk⟩:=q;rw[er.ns]at hn;cases hn;have RC:ws=[]:=repf_nil.mp rf;subst RC;refine#[a,h0,_,F,z,k,rs,_,hR,λd v F1 H1 g hx rv=>?_];have Ko:F1 a=none:=g.out a i8 (by rw[e8];exact λz=>nomatch z);have k1:=k.grow g;rcases e_ with⟨rfl,_⟩|⟨b,rfl,h1,h2,h3,h4⟩
 .refine#[g.hh a _ e8,λb hb j8=>?_];have Nr:J.B b=none:=k1.bh.free hb;have Ld:F1 b=none:=k1.fh.free hb;have same:∀{G:Hp},G a=t9->G b=t9->Same G H1->Same G (upd (upd H1 b (.xd [(f,v)])) a (XN a C (be b))):=λ{G} ga gb gs c o q=>by
   have n1:c≠a:=λz=>by rw[z,ga]at q;cases q
   have n2:c≠b:=λz=>by rw[z,gb]at q;cases q
   rw[aq n1,aq n2];exact gs c o q
  have m9:=rs.grow g;refine#[C,a,be b,[(f,v)],F1,z,[(f,d)],er.ns,h0,az,hB,Ko,#[same hB Nr k1.bh,same Ko Ld k1.fh,k1.f0,k1.out,k1.eb,k1.jf,k1.jo],?_,repf_cons.mpr #[v,[],rfl,rv,repf_nil.mpr rfl],.inr #[b,rfl,by rw[aq j8];exact az,Nr,Ld,j8,λz=>nomatch z],R,hx,kk];refine#[m9.len,m9.val,λi ds e'=>?_,m9.apart];obtain⟨c,vs,q1,q2,q⟩:=m9.own i ds e';have n1:c≠a:=λz=>by rw[z,g.hh a _ e8]at q2;cases q2
  have n2:c≠b:=λz=>by rw[z,hb]at q2;cases q2
  exact#[c,vs,q1,by rw[aq n1,aq n2];exact q2,q]
 .exact absurd rfl h4.2⟩
end
section
variable {P:SZ}{w:Tp}{K:Ex}{mg:F_->Option KB}{base:Heap}
def Cls.okE{x qual:F_}{st:SL}{f C N0:KF}{bm:List KB}{fd:Tu}{N:List F_}{p0:F_}{ps:List F_}{k:Nat}{S:SiD}(T:Fun K "__init__" qual st f fd)(hb:Binds K fd (p0::ps) [])(F:FnScope (p0::N) (p0::ps) (ag st))(len:∀ds R,S ds R->ds.length=ps.length)
  (ek:ErrK K mg x C N0 bm) (hi:GR K (.ref C) "__init__"=be (be (.ref f))) (hf:isFn K (.ref f)=true)
  (a8:∀(cdv:KB) (A:Tq) (outer:List Um) (s:Os) (H:Hp) (E:XK) (J:Jx),Room k (A.deeper (TB qual (ag st) s.heap.objs.size f cdv))->
   ∃t,DX (cxOf (CX1 P w) P w K mg base (p0::N) qual (ag st) f cdv A outer s H E).nox x (aL st) t/\∀ds R,S ds R->t (t9::startD N ds) [] R):CalE P w K mg base (k+1) x (p0::ps) S:=by
 refine#[C,N0,bm,f,fd,ek,hi,hf,Fun.okC T F (λvs H Q E h=>?_) (λcdv A outer s H vs Q E hr h=>?_),hb]
 .obtain⟨a,us,H1,F,ds,rfl,_,_,_,rs,R,h,_⟩:=h;rw[GU,GU,rs.length,len ds R h]
 .obtain⟨a,us,H1,F1,ds,rfl,rfl,ha,fh,rs,R,h,q⟩:=h
  letI:Jx:=#[H1,F1,λ_ _ _=>False]
  obtain⟨t,ht,hq⟩:=a8 cdv A outer s _ E inferInstance hr;have Fa:F1 a=none:=fh.free ha;have hl:L2.start (p0::N) (.ref a::us)=be (.ref a)::L2.start N us:=by
   unfold L2.start;rw[G7,GU,GU,JG];rfl
  have s1:Same H1 (upd H1 a (XN a C t9)):=aN ha _;refine#[_,ht.nox,C,a,t9,[],F1,t9::startD N ds,[],ek.ns,by rw[hl];rfl,az,ha,Fa,#[s1,fh.trans s1,Same.refl F1,λ_ h _=>h,rfl,Same.refl F1,λ_ h _=>h],?_,repf_nil.mpr rfl,.inl #[rfl,rfl],R,hq ds R h,λl6 Nq F' H' g hR e8 i8 er=>q l6 Nq F' H' #[g.f0,g.fh,g.bh,g.out] hR e8 i8 er];rw[hl];exact sM (dF rs)
end
section
variable {M:Ve}{A:Tq}{E:KB->Os->Prop}{h:Heap}{g:Array Vf}{d:Drawn}{t:Nat}{os:OsState}
variable {nm q:F_}{C N:KF}{bs bm:List KB}{hdct:Bool}{sn:List F_}{sub:List KB}{ab:Bool}{col:Option Bool}{dd:Option KF}{k0 k1 k2 k3 k5:Option KB}{newId:String}
variable {Oc q':F_}{C' N':KF}{Od Mm:List KB}{Mn:Bool}{Oe:List F_}{Lg:List KB}{Of:Bool}{Lh:Option Bool}{Mo:Option KF}{Og Oh Oi Oj Ol:Option KB}{Li:String}
def sS{e:KF}{oe:TL}{b:Bool}{Q:Bool->Os->Prop}(hC:h.get? C=be (TQ nm q C N bs bm hdct sn sub ab col dd k0 k1 k2 k3 k5 newId))(hD:h.get? C'=be (TQ Oc q' C' N' Od Mm Mn Oe Lg Of Lh Mo Og Oh Oi Oj Ol Li))
  (he:h.get? e=be oe) (v8:oe.cls=.ref C) (b8:Mm.contains (.type "BaseException")=true) (hb:(Value.ref C::bm).contains (.ref C')=b) (hq:Q b #[h,g,d,t,os]):To M A (excMatches (.ref e) (.ref C')) Q E #[h,g,d,t,os]:=by
 have NW:(Value.ref C'::Mm).contains (.type "BaseException")=true:=by rw[IU,b8,ID]
 have f:=tc_notTuple;unfold excMatches
 repeat(first|(with_reducible refine TM he ?_;rw[v8])|with_reducible refine TM hD ?_|(with_reducible refine Uk hD ?_;rw[NW])|(with_reducible refine Uk hC ?_;rw[hb])|wp_step)
 cases b with
 |true=>wp_walk;exact hq
 |false=>wp_walk;exact hq
end
abbrev _root_.L2.Cx.held(X:Cx)(e:KF):Cx:={X with A:=X.A.mark (be (.ref e)),calm:=false,xe:=λ_ _=>False}
section
variable {X:Cx}{pins:List (KF×TL)}{σ:L2.St}{H:Hp}{s:Os}{e:KF}
def Cx.Ok.held(ok:X.Ok):(X.held e).Ok:=
 #[ok.mod,ok.kind,ok.glob,ok.blt,ok.above,ok.inj,ok.has,ok.cab,(λz=>nomatch z),ok.frames,ok.stk,ok.exf,ok.bs,ok.bsz,ok.noex,ok.exfs,ok.funs,ok.frf]
def Inv.held(I:Inv X pins σ H s):Inv (X.held e) pins σ H s:=#[Cx.Ok.held I.ok,I.os,I.bare,I.base,I.loc,I.cell,I.free,I.freeC,I.pin,I.hok,I.len]
def Inv.unheld(ok:X.Ok)(I:Inv (X.held e) pins σ H s):Inv X pins σ H s:=#[ok,I.os,I.bare,I.base,I.loc,I.cell,I.free,I.freeC,I.pin,I.hok,I.len]
def SP.unheld{D:Ends}{f:Flow}{s':Os}(ok:X.Ok)(h:SP (X.held e) pins D f s'):SP X pins D f s':=by
 cases f with
 |next=>obtain⟨σ',H',I,q⟩:=h;exact#[σ',H',Inv.unheld ok I,q]
 |brk=>obtain⟨σ',H',I,q⟩:=h;exact#[σ',H',Inv.unheld ok I,q]
 |cont=>obtain⟨σ',H',I,q⟩:=h;exact#[σ',H',Inv.unheld ok I,q]
 |ret u=>obtain⟨v,σ',H',I,r,q⟩:=h;exact#[v,σ',H',Inv.unheld ok I,r,q]
def ia{M:Ve}{A:Tq}{E:KB->Os->Prop}{i:Nat}{x:F_}{pos:Tw}{Q:Unit->Os->Prop}(I:Inv X pins σ H s)(hN:X.N.Nodup)(hi:X.N[i]?=be x)(hk:X.env.scope.names.lookup x=be .local)
  (h:∀s',Inv X pins (σ.set i t9) H s'->Q () s'):To M A (do UU X.env x .none;unbindBehindTheSuite X.env x pos) Q E s:=by
 obtain⟨m,hn,hl⟩:=id I.loc;have v8:(X.env.scope.kind== .class||(X.env.scope.kind== .module&&X.env.locals !=X.env.globals))=false:=by rw[I.ok.kind];rfl
 have hiσ:i<σ.length:=by rw[I.len];exact(GZ.mp hi).1
 have cne:=I.cne;refine wpAny_nameGoes_keeps hk hn v8 λh' v g8 hs=>?_;obtain⟨oL,_,_,P1,_⟩:=id hn;have gt:HOk X.prog X.w H h':=λb ob e=>by
  refine(I.hok b ob e).stay (λc w' hc q=>(hs.2 c ?_).trans q) (λ_ q=>q) λ_ _ q=>q;rintro rfl;rcases hc with rfl|hc
  .rw[I.free]at e;cases e
  .rw[I.free]at hc;cases hc
 refine h _ #[I.ok,I.os,I.bare,#[λb o e n hb hx=>?_,λb o e n hb hx=>?_,I.base.free,λb o e hx=>?_,I.base.tups,I.base.frzs,I.base.tbls],#[_,g8,λj y v' e1 e2 e3=>?_],λy c e=>?_,I.free,I.freeC,λp hp=>?_,gt,by simpa using I.len]
 .exact(hs.2 b (GV (G9 (Heap.lt_size e) I.ok.above))).trans (I.base.keep b o e n hb hx)
 .obtain⟨sl,e1⟩:=I.base.slot b o e n hb hx;exact#[sl,(hs.2 b (GV (G9 (Heap.lt_size e) I.ok.above))).trans e1]
 .obtain⟨o',e1⟩:=I.base.there b o e hx;exact#[o',(hs.2 b (GV (G9 (Heap.lt_size e) I.ok.above))).trans e1]
 .by_cases hj:j=i
  .subst hj;rw[Hr hiσ]at e2;cases e2
  .rw[G0 (Ne.symm hj)]at e2;obtain⟨u',r',q⟩:=hl j y v' e1 e2 e3;refine#[u',r',?_];rcases q with⟨k,e⟩|⟨k,c,e,z⟩
   .refine .inl #[k,?_];have:y≠x:=λe=>hj (jJ hN e1 (e ▸ hi));simp[this,e]
   .exact .inr #[k,c,e,z.sameBut hs (cne y c e)]
 .obtain⟨w',z⟩:=I.cell y c e;exact#[w',z.sameBut hs (cne y c e)]
 .obtain⟨e,n,ne,nf,d⟩:=I.pin p hp;exact#[(hs.2 p.1 ne).trans e,n,ne,nf,d]
def Inv.stay{h':Heap}{l6 ex:List KF}(I:Inv X pins σ H s)(st:Stay l6 ex s.heap h')(Nl:∀b∈l6,b∈frs X.stack)(hH:∀b∈ex,H b=t9)(h0:∀b∈ex,X.s₀.heap.get? b=t9)(hL:∀b∈ex,b≠X.env.locals)(hc:∀b∈ex,∀x c,X.env.cells.lookup x=be c->c≠b)
  (hp:∀b∈ex,∀p∈X.pn++pins,p.1≠b):Inv X pins σ H {s with heap:=h'}:=by
 have hok:HOk X.prog X.w H h':=fH I.hok st (λb hb=>I.stkFree b (Nl b hb)) hH;have sub:∀b∈l6,b=X.env.locals\/b∈X.fs:=λb hb=>GP.mp (I.stkSub b (Nl b hb));have nL:∀b o,X.s₀.heap.get? b=be o->b≠X.env.locals:=λb o q=>GV (G9 (Heap.lt_size q) I.ok.above);have Qo:∀b o,X.s₀.heap.get? b=be o->b∉ex:=λb o q z=>by rw[h0 b z]at q;cases q
 have l9:∀x c v,X.env.cells.lookup x=be c->s.heap.IsCell c v->h'.IsCell c v:=λx c v e ⟨o,ho,hd⟩=>by
  obtain⟨sl,z⟩:=st.slot c o ho (λz=>hc c z x c e rfl);exact#[_,z,hd]
 refine#[I.ok,I.os,I.bare,#[λb o e n hb hx=>?_,λb o e n hb hx=>?_,I.base.free,λb o e hx=>?_,I.base.tups,I.base.frzs,I.base.tbls],?_,λy c e=>?_,I.free,I.freeC,λp Ly=>?_,hok,I.len]
 .exact st.keep b o (I.base.keep b o e n hb hx) (Qo b o e) (λz=>(sub b z).elim (nL b o e) hb)
 .obtain⟨sl,e1⟩:=I.base.slot b o e n hb hx;obtain⟨t7,e2⟩:=st.slot b _ e1 (Qo b o e);exact#[t7,e2]
 .obtain⟨o',e1⟩:=I.base.there b o e hx;exact st.there b o' e1
 .obtain⟨m,⟨o,es,ep,ho,r⟩,hl⟩:=I.loc;obtain⟨sl,z⟩:=st.slot _ o ho (λz=>hL _ z rfl);refine#[m,#[_,es,ep,z,r],λj y v' e1 e2 e3=>?_];obtain⟨u',r',q⟩:=hl j y v' e1 e2 e3;refine#[u',r',?_];rcases q with q|⟨k,c,e,z⟩
  .exact .inl q
  .exact .inr #[k,c,e,l9 y c _ e z]
 .obtain⟨w',z⟩:=I.cell y c e;exact#[w',l9 y c _ e z]
 .obtain⟨e,n,ne,nf,d⟩:=I.pin p Ly;exact#[st.keep _ _ e (λz=>hp _ z p Ly rfl) (λz=>(sub _ z).elim ne nf),n,ne,nf,d]
end
def subE(x c:F_):Bool:=x==c||c=="MotifError"
structure ErrsK(K:Ex)(mg:Str->Option KB)(es:List Str):Prop where
 cls:∀x∈es,∃C N bm,ErrK K mg x C N bm
 sub:∀x∈es,∀y∈es,∀C C',nsIn K Pi x=be (be (.ref C))->nsIn K Pi y=be (be (.ref C'))->Hx K C (.ref C')=be (subE x y)
def ErrsK.has{es:List F_}(k:ErrsK K mg es){y:F_}{C' N':KF}{Mm:List KB}(hx:x∈es)(hy:y∈es)(a:ErrK K mg x C N bm)(b:ErrK K mg y C' N' Mm):(Value.ref C::bm).contains (.ref C')=subE x y:=by
 have h:=k.sub x hx y hy C C' a.ns b.ns;obtain⟨nm,q,bs,sn,sub,ab,col,dd,k0,k1,k2,k3,k5,lk⟩:=a.obj;unfold Hx IY at h;rw[lk]at h;simp only[Ip,List.isEmpty_cons,Bool.false_eq_true,if_false,Option.some.injEq]at h;exact h
structure Held(X:Cx)(pins:List (KF×TL))(H:Hp)(s:Os)(e C:KF)(od:Option KF)(T:KF):Prop where
 ex:ExAt s.heap e C od T .none
 He:H e=t9
 HT:H T=t9
 e0:X.s₀.heap.get? e=t9
 T0:X.s₀.heap.get? T=t9
 eP:∀p∈X.pn++pins,p.1≠e
 TP:∀p∈X.pn++pins,p.1≠T
section
variable {X:Cx}{pins:List (KF×TL)}{σ:L2.St}{H:Hp}{s:Os}
variable{vs:Array KB}
def ib{b:KF}{o:TL}(I:Inv X pins σ H s)(h:s.heap.get? b=be o)(hd:o.data=.fields vs):b≠X.env.locals:=λz=>by
 obtain⟨m,⟨o',es,ep,ho,e_,_⟩,_⟩:=I.loc;rw[<-z,h]at ho;cases ho;rw[hd]at e_;cases e_
def fld_cell{b:KF}{o:TL}(I:Inv X pins σ H s)(h:s.heap.get? b=be o)(hd:o.data=.fields vs):∀x c,X.env.cells.lookup x=be c->c≠b:=λx c q z=>by
 obtain⟨v,o',ho,e_⟩:=I.cell x c q;rw[z,h]at ho;cases ho;rw[hd]at e_;cases e_
variable{od:Option KF}
def Held.flight{e C T:KF}{h':Heap}(I:Inv X pins σ H s)(k:Held X pins H s e C od T)(hx:ExAt h' e C od T .none)(st:Stay [] [T] s.heap h'):Inv X pins σ H {s with heap:=h'}/\Held X pins H {s with heap:=h'} e C od T:=by
 obtain⟨sl,vs,oT,ts,he,h1,u5,hT,k9,h3⟩:=k.ex;refine#[Inv.stay I st (λb hb=>by cases hb) (λb hb=>?_) (λb hb=>?_) (λb hb=>?_) (λb hb=>?_) (λb hb=>?_),#[hx,k.He,k.HT,k.e0,k.T0,k.eP,k.TP]]<;>rw[GM.mp hb]
 .exact k.HT
 .exact k.T0
 .exact ib I hT k9
 .exact fld_cell I hT k9
 .exact k.TP
def XO.ok{P:SZ}{w:Tp}{h:Heap}{e C:KF}{sl:Array (Option KB)}(q:h.get? e=be #[.ref C,od,.fields vs,sl]):ObjOk P w H h e (XO e C od):=
 #[#[vs,sl,q],#[_,q],λh1 h2 ⟨vs,sl,q⟩ k=>#[vs,sl,k _ q]]
end
def RepS.unset{B F:Hp}{z:SD}{s:L2.St}{i:Nat}(h:RepS K B F H z s):RepS K B F H (z.set i t9) (s.set i t9):=by
 have get:∀{j:Nat} {x:D},(z.set i t9)[j]?=be (be x)->j≠i/\z[j]?=be (be x):=λ{j x} e=>by
  by_cases hj:i=j
  .subst hj;rw[HM]at e;simp at e
  .rw[G0 hj]at e;exact#[λz=>hj z.symm,e]
 refine#[by rw[Hv,Hv];exact h.len,λj x e nx=>?_,λj ds e=>?_,λj k dj dk a e1 e2 e3 e4=>?_]
 .obtain⟨hj,e⟩:=get e;rw[G0 (λz=>hj z.symm)];exact h.val j x e nx
 .obtain⟨hj,e⟩:=get e;rw[G0 (λz=>hj z.symm)];exact h.own j ds e
 .obtain⟨hj,e1⟩:=get e1;obtain⟨hk,e2⟩:=get e2;rw[G0 (λz=>hj z.symm)]at e3;rw[G0 (λz=>hk z.symm)]at e4;exact h.apart j k dj dk a e1 e2 e3 e4
abbrev TH:=F_->List (F_×D)->TSD
def DH(X:Cx)[J:Jx](hs:List T5)(th:TH):Prop:=
 ∀(pins:List (KF×TL)) (s:Os) (σ:L2.St) (H:Hp) (D:Ends) (e C:KF) (od:Option KF) (T:KF) (x:F_) (fs:List (F_×My.D)) (B F0 F:Hp) (z:SD) (ED:EndsD),Inv X pins σ H s->Held X pins H s e C od T->Kept B F0 F H->RepS X.K B F H z σ->ErrD X.K F x fs C od->
  th x fs ED z->EndsOk X.K B F0 ED D->To (SB X.prog X.w) X.A (US (.ref e) X.env hs) (SP X pins D) X.xe s
structure WDH(X:Cx)[Jx](hs:List T5)(th:TH):Prop where
 out:DH X hs th
section
variable {X:Cx}[J:Jx]{es:List F_}{c:F_}{b₀:SL}{p9:List SL}{pos pc:Tw}{rest:List T5}{t:TSD}{r:TH}
def zN:TH:=λ_ _ _ _=>False
def zO(es:List F_)(c:F_)(t:TSD)(r:TH):TH:=λx fs E z=>(x∈es/\c∈es)/\if subE x c=true then t E z else r x fs E z
def dHas(es:List F_)(c:F_)(i:Nat)(t:TSD)(r:TH):TH:=λx fs E z=>(x∈es/\c∈es)/\if subE x c=true then t {nx:=λz'=>E.nx (z'.set i t9),rt:=E.rt,bk:=λz'=>E.bk (z'.set i t9),ct:=λz'=>E.ct (z'.set i t9)} (z.set i (be (.exc x fs)))else r x fs E z
def sT:WDH X [] zN:=#[λ_ _ _ _ _ _ _ _ _ _ _ _ _ _ _ _ _ _ _ _ _ h _=>h.elim]
def zP(hE:ErrsK X.K X.mg es)(hs:∀e,WDSs (X.held e) (b₀::p9) t)(hr:WDH X rest r)(hg:autoParam (Gl X c) zA0)(d5:autoParam (zND c) zA1):WDH X (.ExceptHandler (be (.Name c pc)) t9 (b₀::p9) pos::rest) (zO es c t r):=⟨by
 have hs:=λe=>(hs e).out;have hr:=hr.out;intro pins s σ H D e C od T x fs B F0 F z ED I hd k rs er ht ee;obtain⟨⟨Mp,Mq⟩,ht⟩:=ht;obtain⟨Cc,Nc,RD,kc⟩:=hE.cls c Mq;obtain⟨Kp,Nx,RE,kx⟩:=hE.cls x Mp;obtain rfl:Kp=C:=by have h1:=kx.ns;rw[er.1]at h1;cases h1;rfl
 have hb:=hE.has Mp Mq kx kc;obtain⟨nm,q,bs,sn,sub,ab,col,dd,k0,k1,k2,k3,k5,lk⟩:=kx.obj;obtain⟨Oc,q',Od,Oe,Lg,Of,Lh,Mo,Og,Oh,Oi,Oj,Ol,Om⟩:=kc.obj;refine Vh (U_ (cv (X:=X.held e) (Inv.held I) hg kc.mg ?_ d5)) (by intro q;cases q);obtain⟨sl,vs,oT,ts,he,h1,u5,hT,k9,h3⟩:=id hd.ex;refine sS (g:=s.gens) (d:=s.drawn) (t:=s.toks) (os:=s.os) (I.kIn _ _ lk) (I.kIn _ _ Om) he rfl kc.base hb ?_;cases x_:subE x c with
 |true=>
  rw[x_,if_pos rfl]at ht;refine codeAny_handlers_suite (flight_none hd.ex λh' f8 t8=>?_);obtain⟨I',_⟩:=Held.flight I hd f8 t8;exact TF (hs e pins _ σ H D (Inv.held I') #[B,F0,F,z,k,rs,ED,ht,ee]) (λf s1 q=>SP.unheld I.ok q) λ_ _ z=>False.elim z
 |false=>
  rw[x_,if_neg G1]at ht;exact hr pins s σ H D e Kp od T x fs B F0 F z ED I hd k rs er ht ee⟩
def zQ(i:Nat){n:F_}(hE:ErrsK X.K X.mg es)(hN:X.N.Nodup)(hs:∀e,WDSs (X.held e) (b₀::p9) t)(hr:WDH X rest r)(hg:autoParam (Gl X c) zA0)(hi:autoParam (X.N[i]?=be n) zA0)(hk:autoParam (X.env.scope.names.lookup n=be .local) zA0)(d5:autoParam (zND c) zA1):WDH X (.ExceptHandler (be (.Name c pc)) (be n) (b₀::p9) pos::rest) (dHas es c i t r):=⟨by
 have hs:=λe=>(hs e).out;have hr:=hr.out;intro pins s σ H D e C od T x fs B F0 F z ED I hd k rs er ht ee;obtain⟨⟨Mp,Mq⟩,ht⟩:=ht;obtain⟨Cc,Nc,RD,kc⟩:=hE.cls c Mq;obtain⟨Kp,Nx,RE,kx⟩:=hE.cls x Mp;obtain rfl:Kp=C:=by have h1:=kx.ns;rw[er.1]at h1;cases h1;rfl
 have hb:=hE.has Mp Mq kx kc;obtain⟨nm,q,bs,sn,sub,ab,col,dd,k0,k1,k2,k3,k5,lk⟩:=kx.obj;obtain⟨Oc,q',Od,Oe,Lg,Of,Lh,Mo,Og,Oh,Oi,Oj,Ol,Om⟩:=kc.obj;refine Vh (U_ (cv (X:=X.held e) (Inv.held I) hg kc.mg ?_ d5)) (by intro q;cases q);obtain⟨sl,vs,oT,ts,he,h1,u5,hT,k9,h3⟩:=id hd.ex;refine sS (g:=s.gens) (d:=s.drawn) (t:=s.toks) (os:=s.os) (I.kIn _ _ lk) (I.kIn _ _ Om) he rfl kc.base hb ?_;cases x_:subE x c with
 |true=>
  rw[x_,if_pos rfl]at ht;refine codeAny_handlers_suite_as (flight_none hd.ex λh' f8 t8=>?_);obtain⟨I',e_⟩:=Held.flight I hd f8 t8;obtain⟨t7,m8,_,_,On,_⟩:=id f8;have I2:Inv X pins σ (upd H e (XO e Kp od)) {s with heap:=h'}:=Inv.adopt I' hd.He (XO.ok On) hd.e0 (ib I' On rfl) (fld_cell I' On rfl) hd.eP;refine dU (X:=X.held e) (v:=.ref e) (Inv.held I2) hN hi (.inl hk) rfl (λs2 I3=>?_) (.inr hk);have g:=Grow.new k.fh hd.He (XO e Kp od);obtain⟨ns,ws,rf,Oo⟩:=er;have RF:Rep X.K (upd F e (XO e Kp od)) (.exc x fs) (.ref e):=rep_exc.mpr #[e,Kp,od,ws,rfl,ns,az,RepF.mono g.ff fs ws rf,Oo.imp id λ⟨b,q1,q2⟩=>#[b,q1,g.ff _ _ q2]];have RG:EndsOk X.K B F0 {nx:=λz'=>ED.nx (z'.set i t9),rt:=ED.rt,bk:=λz'=>ED.bk (z'.set i t9),ct:=λz'=>ED.ct (z'.set i t9)} {nx:=λσ' H'=>D.nx (σ'.set i t9) H',rt:=D.rt,bk:=λσ' H'=>D.bk (σ'.set i t9) H',ct:=λσ' H'=>D.ct (σ'.set i t9) H'}:=
   #[λz' s' F' H' k hz r=>ee.nx _ _ F' H' k hz (RepS.unset r),ee.rt,λz' s' F' H' k hz r=>ee.bk _ _ F' H' k hz (RepS.unset r),λz' s' F' H' k hz r=>ee.ct _ _ F' H' k hz (RepS.unset r)]
  refine TF (hs e pins s2 _ _ _ I3 #[B,F0,_,_,k.grow g,(rs.grow g).set RF,_,ht,RG]) (λf s3 q=>?_) λ_ _ z=>False.elim z;have q':=SP.unheld I.ok q;cases f with
  |next=>obtain⟨σ',H',I4,q4⟩:=q';exact ia I4 hN hi hk λs5 I5=>#[_,H',I5,q4]
  |brk=>obtain⟨σ',H',I4,q4⟩:=q';exact ia I4 hN hi hk λs5 I5=>#[_,H',I5,q4]
  |cont=>obtain⟨σ',H',I4,q4⟩:=q';exact ia I4 hN hi hk λs5 I5=>#[_,H',I5,q4]
  |ret u=>obtain⟨v,σ',H',I4,rv,q4⟩:=q';exact ia I4 hN hi hk λs5 I5=>#[v,_,H',I5,rv,q4]
 |false=>
  rw[x_,if_neg G1]at ht;exact hr pins s σ H D e Kp od T x fs B F0 F z ED I hd k rs er ht ee⟩
end
abbrev _root_.L2.Cx.tried(X:Cx)(pn:List (KF×TL))(xe:KB->Os->Prop):Cx:={X with pn:=pn,xe:=xe}
section
variable {X:Cx}{pn pins:List (KF×TL)}{xe:KB->Os->Prop}{σ:L2.St}{H:Hp}{s:Os}
def Cx.Ok.tried(ok:X.Ok):(X.tried pn xe).Ok:=#[ok.mod,ok.kind,ok.glob,ok.blt,ok.above,ok.inj,ok.has,ok.cab,ok.hd,ok.frames,ok.stk,ok.exf,ok.bs,ok.bsz,ok.noex,ok.exfs,ok.funs,ok.frf]
def Inv.tried(I:Inv X pins σ H s):Inv (X.tried (X.pn++pins) xe) [] σ H s:=#[Cx.Ok.tried I.ok,I.os,I.bare,I.base,I.loc,I.cell,I.free,I.freeC,λp hp=>I.pin p (by simpa using hp),I.hok,I.len]
def Inv.untried(ok:X.Ok)(I:Inv (X.tried (X.pn++pins) xe) [] σ H s):Inv X pins σ H s:=#[ok,I.os,I.bare,I.base,I.loc,I.cell,I.free,I.freeC,λp hp=>I.pin p (by simpa using hp),I.hok,I.len]
def SP.untried{D:Ends}{f:Flow}{s':Os}(ok:X.Ok)(h:SP (X.tried (X.pn++pins) xe) [] D f s'):SP X pins D f s':=by
 cases f with
 |next=>obtain⟨σ',H',I,q⟩:=h;exact#[σ',H',Inv.untried ok I,q]
 |brk=>obtain⟨σ',H',I,q⟩:=h;exact#[σ',H',Inv.untried ok I,q]
 |cont=>obtain⟨σ',H',I,q⟩:=h;exact#[σ',H',Inv.untried ok I,q]
 |ret u=>obtain⟨v,σ',H',I,r,q⟩:=h;exact#[v,σ',H',Inv.untried ok I,r,q]
end
def zR{h₀:T5}{hs:List T5}{σ':L2.St}{H':Hp}{s':Os}{D:Ends}{xe:KB->Os->Prop}(I2:Inv X pins σ' H' s')
  (hd:Exd (X.tried (X.pn++pins) xe) H' s' e C od) (d9:X.ex=[]) (y7:X.stack=X.env::X.outer) (l7:X.env.frame=be X.env.locals)
  (hh:∀s4 T2,Inv X pins σ' H' s4->Held X pins H' s4 e C od T2->To (SB X.prog X.w) X.A (US (.ref e) X.env (h₀::hs)) (SP X pins D) X.xe s4):
  To (SB X.prog X.w) X.A (Uu (.ref e) X.env) (λ_ s₂=>To (SB X.prog X.w) X.A (UJ (.ref e) t9) (λ_ s₃=>To (SB X.prog X.w) X.A (US (.ref e) X.env (h₀::hs)) (SP X pins D) X.xe s₃) X.xe s₂) X.xe s':=by
 obtain⟨He,e0,eP,hd⟩:=hd;have stk:s'.heap.FunFrames X.base (X.env::X.outer):=by rw[<-y7];exact I2.stack
 have Qp:X.A.frames=be (X.env::X.outer):=by rw[<-y7];exact I2.ok.frames
 have d_:∀(s9:Heap) (T2:KF) (ex:List KF),(∀b∈ex,H' b=t9/\X.s₀.heap.get? b=t9/\(∃o vs,s'.heap.get? b=be o/\o.data=.fields vs)/\∀p∈X.pn++pins,p.1≠b)->ExAt s9 e C od T2 (Uw X.env.locals)->s'.heap.objs.size<=T2->Stay (frs (X.env::X.outer)) ex s'.heap s9->
   To (SB X.prog X.w) X.A (UJ (.ref e) t9) (λ_ s₃=>To (SB X.prog X.w) X.A (US (.ref e) X.env (h₀::hs)) (SP X pins D) X.xe s₃) X.xe {s' with heap:=s9}:=by
  intro s9 T2 ex y8 n5 x8 q8;have J_:s'.heap.get? T2=none:=Heap.get?_none_of_le x8;have I3:Inv X pins σ' H' {s' with heap:=s9}:=Inv.stay I2 q8 (λb hb=>by rw[y7];exact hb) (λb hb=>(y8 b hb).1) (λb hb=>(y8 b hb).2.1) (λb hb=>let ⟨_,_,q1,q2⟩:=(y8 b hb).2.2.1;ib I2 q1 q2) (λb hb=>let ⟨_,_,q1,q2⟩:=(y8 b hb).2.2.1;fld_cell I2 q1 q2) (λb hb=>(y8 b hb).2.2.2);obtain⟨sl,vs,oT,ts,he,g1,u5,hT,k9,g3⟩:=id n5;have KI:H' T2=none:=fV I2.hok J_;have T0:X.s₀.heap.get? T2=none:=cF I2 d9 J_;have TP:∀p∈X.pn++pins,p.1≠T2:=λp hp z=>by
   have:=(I2.pin p hp).1;rw[z,J_]at this;cases this
  refine flight_none (s:={s' with heap:=s9}) n5 λh3 Mg A'=>?_;have I4:Inv X pins σ' H' {s' with heap:=h3}:=Inv.stay (s:={s' with heap:=s9}) I3 A' (λb hb=>by cases hb) (λb hb=>by rw[GM.mp hb];exact KI) (λb hb=>by rw[GM.mp hb];exact T0) (λb hb=>by rw[GM.mp hb];exact ib I3 hT k9) (λb hb=>by rw[GM.mp hb];exact fld_cell I3 hT k9) (λb hb=>by rw[GM.mp hb];exact TP);exact hh _ T2 I4 #[Mg,He,KI,e0,T0,eP,TP]
 rcases hd with⟨sl,vs,he,hv⟩|⟨T,KH,T0,HT,TP⟩
 .refine rJ Qp stk l7 he hv λs9 T2 n5 x8 q8=>d_ s9 T2 [e] (λb hb=>?_) n5 x8 q8;rw[GM.mp hb];exact#[He,e0,#[_,_,he,rfl],eP]
 .obtain⟨sl,vs,oT,ts,he,g1,u5,hT,k9,g3⟩:=id KH;refine rK Qp stk l7 KH λs9 T2 n5 x8 q8=>d_ s9 T2 [T,e] (λb hb=>?_) n5 x8 q8;rcases GP.mp hb with z|z
  .rw[z];exact#[HT,T0,#[_,_,hT,k9],TP]
  .rw[GM.mp z];exact#[He,e0,#[_,_,he,rfl],eP]
def ErrG(K:Ex)(f y:F_):Prop:=∃C cd,ErrA K y C cd/\GR K (.ref C) "__getattribute__"=be (be (.builtin "BaseException.__getattribute__"))/\GR K (.ref C) "__getattr__"=be t9/\GR K (.ref C) f=be t9
def zS(ys:List F_)(f:F_)(te:TD):TD:=λz R=>te z λd=>match d with|.exc y fs=>y∈ys/\∃d,fs.lookup f=be d/\R d|_=>False
def sU[J:Jx]{e:Tn}{te:TD}{pos:Tw}{ys:List F_}{f:F_}(hG:∀y∈ys,ErrG X.K f y)(he:WDE X e te)(hb:autoParam (Tt e f X.env (Tv e X.env)=Tv e X.env) zA0):WDE X (.Attribute e f pos) (zS ys f te):=⟨by
 have he:=he.out;intro pins s σ H Q I h;obtain⟨B,F,z,kf,rs,R,h1,h2⟩:=h;refine attr_of hb (thn (he pins s σ H (λv H1=>∃F1 x fs,Grow F H F1 H1/\Rep X.K F1 (.exc x fs) v/\x∈ys/\∃d,fs.lookup f=be d/\R d) I #[B,F,z,kf,rs,_,h1,λd v F1 H1 g1 hx rx=>?_]) λu s1 ⟨v,H1,I1,rv,F1,x,fs,g1,rx,hy,d,hl,hR⟩=>?_)
 .split at hx
  .obtain⟨hy,d,hl,hR⟩:=hx;exact#[F1,_,_,g1,rx,hy,d,hl,hR]
  .exact hx.elim
 .obtain⟨a,C,od,vs,rfl,hn,RH,rf,Oo⟩:=rep_exc.mp rx;obtain rfl:u=Value.ref a:=rv;obtain⟨C',cd,ea,ga,gb,hf⟩:=hG x hy;have g8:=ea.ns;rw[hn]at g8;cases g8;obtain⟨m8,sl,j3⟩:=(I1.hok a _ (g1.fh _ _ RH)).1;obtain⟨w',hw,h_⟩:=rf.look hl;rcases Oo with⟨_,e2⟩|⟨b,rfl,g5⟩
  .rw[e2]at hw;cases hw
  .obtain⟨mA,hns,t_⟩:=(show ObjOk X.prog X.w H1 s1.heap b (.xd vs)from I1.hok b _ (g1.fh _ _ g5));obtain⟨uv,hu,ru⟩:=RelO.some_of (v:=w') (o:=mA f) (by rw[<-hw];exact t_ f);obtain⟨RI,ho,look⟩:=qQ hns;have Op:hasDictIn X.K C=true:=by unfold hasDictIn;rw[ea.cl];exact ea.hd
   exact yl (K:=X.K) (ox:=#[.ref C,be b,.fields m8,sl]) (od:=RI) I1.kIn #[j3,rfl,rfl,ho] ea.cl ea.mro ga gb (findObj_own Op hf rfl (by rw[look,hu])) (qT ru) λtk=>#[w',H1,I1.tok tk,ru,h2 d w' F1 H1 g1 hR h_]⟩
def sV:tailIn K veLine veLine=true:=by
 unfold tailIn;rfl
def sW{c:KB}{d:Option KF}{es:Array DictEntry}{ep:Nat}(l:K.lookup N=be #[c,d,.dict es ep,sl])(h:es.toList.all (λe=>match e.key with|.str _ _=>true|_=>false)=true):nsOkIn K N=true:=by
 unfold nsOkIn;rw[l];dsimp only;rw[<-IZ];exact h
def zT{M:KF}{c0:KB}{dd:Option KF}{cd:U0}(l:K.lookup M=be #[c0,dd,.cls cd,sl])(hn:cd.ns=N)(h1:nsOkIn K N=true)(h2:nsIn K N "__init__"=be t9):tailIn K veLine (.ref M::veLine)=true:=by
 unfold tailIn;subst hn;dsimp only;rw[l];dsimp only;rw[h1,h2,sV];simp
def ic(S:SpX):SpD:=λds R=>S ds R λ_ _=>False
def CalX.no{base:Heap}{n:Nat}{S:SpX}(C:CalX P w K mg base n x ps S):CalD P w K mg base n x ps (ic S):=by
 obtain⟨f,fd,F,hb,hk,hm⟩:=C;refine#[f,fd,F.imp λvs H Q E h=>?_,hb,hk,hm];obtain⟨F,ds,fh,rs,R,h,q⟩:=h;exact#[F,ds,fh,rs,R,_,h,q,λ_ _ _ _ _ _ _ z=>z.elim]
end My
namespace My
def repS(x:F_)(n:Nat):Str:=#[(Hs n x.cps.toList).flatten.toArray]
def sX{α:Type}(l:List α):∀m:Nat,(GO m).filterMap (λk=>l[k]?)=l.take m
 |0=>by simp
 |m+1=>by
  rw[H9,List.filterMap_append,sX l m,JH];cases h:l[m]?<;>simp[h]
def zU(lo hi:Option Int)(n:Nat):Builtin.Str.strSliceIndices lo hi 1 n=(GO (HT.sIx n n hi-HT.sIx n 0 lo)).map λk=>HT.sIx n 0 lo+k:=by
 have Kq:∀(i:Int) (d:Nat),max 0 (min (if i<0 then i+(n:Int)else i) (n:Int))=((HT.sIx n d (be i):Nat):Int):=by
  intro i d;show max 0 (min (if i<0 then i+(n:Int)else i) (n:Int))=(((if i<0 then(i+(n:Int)).toNat else min i.toNat n):Nat):Int);by_cases h:i<0
  .rw[if_pos h,if_pos h];lia
  .rw[if_neg h,if_neg h];lia
 have h1:Builtin.Str.strSliceIndices lo hi 1 n=sliceRange ((HT.sIx n 0 lo:Nat):Int) ((HT.sIx n n hi:Nat):Int) 1:=by
  unfold Builtin.Str.strSliceIndices;simp only[show(1:Int)>0 by decide,if_true];cases lo with
  |none=>cases hi with
   |none=>rfl
   |some j=>rw[<-Kq j n];rfl
  |some i=>cases hi with
   |none=>rw[<-Kq i 0];rfl
   |some j=>rw[<-Kq i 0,<-Kq j n]
 rw[h1];unfold sliceRange;simp only[show(1:Int)>0 by decide,if_true];have e3:(if((HT.sIx n 0 lo:Nat):Int)<((HT.sIx n n hi:Nat):Int)then(((HT.sIx n n hi:Nat):Int)-((HT.sIx n 0 lo:Nat):Int)+1-1)/1 else 0).toNat=HT.sIx n n hi-HT.sIx n 0 lo:=by
  split<;>lia
 rw[e3];apply Ia;intro k _;lia
def slice_cps(y:F_)(lo hi:Option Int):Txt.slice y lo hi=#[((y.cps.toList.drop (HT.sIx y.length 0 lo)).take (HT.sIx y.length y.length hi-HT.sIx y.length 0 lo)).toArray]:=by
 have la:HT.sIx y.length 0 lo<=y.length:=HT.sIx_le _ _ (Hb _) lo;have lb:HT.sIx y.length y.length hi<=y.length:=HT.sIx_le _ _ (GN _) hi;unfold Txt.slice;rw[zU];split
 .rename_i h;have hl:HT.sIx y.length y.length hi-HT.sIx y.length 0 lo=y.length:=by simpa using h
  have ha:HT.sIx y.length 0 lo=0\/y.length=0:=KK
  rw[hl];obtain⟨cp⟩:=y;have e:(HN (HT.sIx (Str.mk cp).length 0 lo) cp.toList)=cp.toList:=by
   rcases ha with ha|ha
   .rw[ha];rfl
   .have:cp=[].toArray:=Array.eq_empty_of_size_eq_zero ha;subst this;simp
  show(#[cp]:F_)=#[((HN (HT.sIx (Str.mk cp).length 0 lo) cp.toList).take cp.size).toArray];rw[e,HP K']
 .congr 2;rw[Jw];have:=sX (y.cps.toList.drop (HT.sIx y.length 0 lo)) (HT.sIx y.length y.length hi-HT.sIx y.length 0 lo);rw[<-this];congr 1;funext k;simp
section
variable {X:Cx}[J:Jx]{a b c e:Tn}{ta tb tc te:TD}{pos:Tw}
def GH:RD2:=λx y R=>match x,y with
 |.int i,.int j=>CMul i j/\R (.int (i*j))
 |.str i,.int n=>(-(2^62)<=n/\n<=1000000/\i.length*n.toNat<=1000000)/\R (.str (repS i n.toNat))
 |.lst xs,.int n=>(-(2^62)<=n/\n<=1000000/\xs.length*n.toNat<=1000000)/\R (.lst (Hs n.toNat xs).flatten)
 |_,_=>False
def sY:SlR X (λx lo hi H Q=>∃y,x=.str y/\y.length<=sizeLine/\Q (.str (Txt.slice y lo hi)) H):=by
 intro pins s σ H x v vl vu lo hi sl Q I rx hs pl pu h;obtain⟨y,rfl,hz,q⟩:=h;obtain⟨t,rfl⟩:=rx;have d_:∀t' k,EP X pins σ Q (.str (Txt.slice y lo hi) t') {s with toks:=k}:=λt' k=>#[.str _,H,I.tok k,#[_,rfl],q];have le:=GW (Txt.slice_le y lo hi) hz;refine#["str",_,PySem.F.slot_str_getitem.lookup,Vm _ _ _,?_];cases pl with
 |none=>cases pu with
  |none=>exact T6 (l:=t9) (u:=t9) (st:=t9) hs rfl (Uy #[le,d_])
  |int j tj=>exact T6 (l:=t9) (u:=be (j,tj)) (st:=t9) hs rfl (Uy #[le,d_])
 |int i ti=>cases pu with
  |none=>exact T6 (l:=be (i,ti)) (u:=t9) (st:=t9) hs rfl (Uy #[le,d_])
  |int j tj=>exact T6 (l:=be (i,ti)) (u:=be (j,tj)) (st:=t9) hs rfl (Uy #[le,d_])
abbrev TDO:=SD->(Option Int->Prop)->Prop
def zV:TDO:=λ_ R=>R t9
def zW(te:TD):TDO:=λz R=>te z λx=>match x with|.int i=>R (be i)|_=>False
def lO(K:Ex)[J:Jx](t:TDO):TO:=λs H Q=>∃B F z,Kept B J.F0 F H/\RepS K B F H z s/\∃R:Option Int->Prop,t z R/\∀o F' H',Grow F H F' H'->R o->Q o H'
abbrev DPO(X:Cx)[Jx](e:Option Tn)(t:TDO):Prop:=PO X e (lO X.K t)
structure WDPO(X:Cx)[Jx](e:Option Tn)(t:TDO):Prop where
 out:DPO X e t
def PO.anti{X:Cx}{e:Option Tn}{t t':TO}(h:PO X e t)(a:∀s H Q,t' s H Q->t s H Q):PO X e t':=λpins s σ H Q I q=>h pins s σ H Q I (a _ _ _ q)
def cx:WDPO X t9 zV:=⟨PO.anti jX λs H Q q=>by
 obtain⟨B,F,z,kf,rs,R,h1,h2⟩:=q;exact h2 t9 F H (Grow.refl kf.fh) h1⟩
def cy(he:WDE X e te):WDPO X (be e) (zW te):=⟨have he:=he.out;PO.anti (jY he) λs H Q q=>by
 obtain⟨B,F,z,kf,rs,R,h1,h2⟩:=q;refine#[B,F,z,kf,rs,_,h1,λx u F1 H1 g1 hx rx=>?_];split at hx
 .exact#[_,rep_int.mp rx,h2 _ F1 H1 g1 hx]
 .exact hx.elim⟩
def rdSl:D->Option Int->Option Int->(D->Prop)->Prop:=λx lo hi R=>match x with
 |.str y=>y.length<=1000000/\R (.str (Txt.slice y lo hi))
 |.lst xs=>R (.lst (cutD xs lo hi))
 |.rol xs=>R (.lst (cutD xs lo hi))
 |.tup xs=>¬(HT.sIx xs.length 0 lo=0/\HT.sIx xs.length xs.length hi=xs.length)/\R (.tup (cutD xs lo hi))
 |_=>False
def dSl(ta:TD)(tl th:TDO):TD:=λz R=>ta z λx=>tl z λlo=>th z λhi=>rdSl x lo hi R
def cz{lo hi:Option Tn}{tl th:TDO}{p2:Tw}(ha:WDE X a ta)(hl:WDPO X lo tl)(hu:WDPO X hi th):WDE X (.Subscript a (.Slice lo hi t9 p2) pos) (dSl ta tl th):=⟨have ha:=ha.out;have hl:=hl.out;have hu:=hu.out;(gN (SlR.or sY (SlR.or gO rj)) ha hl hu).anti λs H Q q=>by
 obtain⟨B,F,z,kf,rs,R,h1,h2⟩:=q;refine#[B,F,z,kf,rs,_,h1,λx u F1 H1 g1 hx rx=>?_];refine#[B,F1,z,kf.grow g1,rs.grow g1,_,hx,λlo F2 H2 g2 hy=>?_];refine#[B,F2,z,(kf.grow g1).grow g2,(rs.grow g1).grow g2,_,hy,λhi F3 H3 g3 hw=>?_];have g:=g1.trans (g2.trans g3);have Kr:=(rx.mono g2.ff).mono g3.ff;unfold rdSl at hw;split at hw
 .exact .inl #[_,rep_str.mp Kr,GW hw.1 K3,h2 _ _ F3 H3 g hw.2 (rep_str.mpr rfl)]
 .obtain⟨l,vs,rfl,hq,rr⟩:=rep_lst.mp Kr;refine .inr (.inl #[l,vs,rfl,SqL.of (g3.fh _ _ hq),λp hp=>?_]);exact h2 _ _ _ _ (g.trans (Grow.new g3.fh hp _)) hw (rep_lst.mpr #[p,_,rfl,az,(rr.cut _ _).mono (aN (g3.fh.free hp) _)])
 .obtain⟨l,vs,rfl,hq,rr⟩:=rep_rol.mp Kr;refine .inr (.inl #[l,vs,rfl,g3.fh.seq hq,λp hp=>?_]);exact h2 _ _ _ _ (g.trans (Grow.new g3.fh hp _)) hw (rep_lst.mpr #[p,_,rfl,az,(rr.cut _ _).mono (aN (g3.fh.free hp) _)])
 .obtain⟨l,vs,rfl,hq,rr⟩:=rep_tup_mp Kr;refine .inr (.inr #[l,vs,rfl,g3.fh.tup hq,by rw[rr.length];exact hw.1,λp hp=>?_]);exact h2 _ _ _ _ (g.trans (Grow.new g3.fh hp _)) hw.2 (rep_tupS.mpr #[p,_,rfl,az,(rr.cut _ _).mono (aN (g3.fh.free hp) _)])
 .exact hw.elim⟩
def rdIn(neg:Bool):RD2:=λx y R=>match x,y with
 |.str i,.str j=>R (.bl (if neg then !(!(Builtin.Str.occurrences j i 0 j.length 1).isEmpty)else !(Builtin.Str.occurrences j i 0 j.length 1).isEmpty))
 |x,.lst ys=>(bI x=true/\ys.all bI=true)/\R (.bl (if neg then !(ys.any λy=>eqF y x)else ys.any λy=>eqF y x))
 |x,.rol ys=>(bI x=true/\ys.all bI=true)/\R (.bl (if neg then !(ys.any λy=>eqF y x)else ys.any λy=>eqF y x))
 |x,.tup ys=>(bI x=true/\ys.all bI=true)/\R (.bl (if neg then !(ys.any λy=>eqF y x)else ys.any λy=>eqF y x))
 |_,_=>False
def ie{K:Ex}{H:Hp}{x:D}{u:V}(rx:Rep K H x u)(fx:bI x=true):∀{ys:List D} {vs:List V},Reps K H ys vs->ys.all bI=true->inV u vs=ys.any λy=>eqF y x
 |[],vs,r,_=>by rw[reps_nil.mp r];rfl
 |y::ys,vs,r,f=>by
  obtain⟨v,vr,rfl,r1,r2⟩:=reps_cons.mp r;rw[HW,Hf]at f;have ih:=ie rx fx r2 f.2;unfold inV at ih ⊢;rw[IB,IB,ih,so r1 rx f.1 fx]
def rInV(K:Ex)(neg:Bool):R2:=λx y H Q=>(∃i j,x=.str i/\y=.str j/\Q (.bl (if neg then !(!(Builtin.Str.occurrences j i 0 j.length 1).isEmpty)else !(Builtin.Str.occurrences j i 0 j.length 1).isEmpty)) H)\/rIn K neg x y H Q
def zX{K:Ex}{neg:Bool}:bb K (rInV K neg) (rdIn neg):=by
 intro x y u v F H R Q fh h rx ry q;unfold rdIn at h;split at h
 .exact .inl #[_,_,rep_str.mp rx,rep_str.mp ry,q _ _ F H (Grow.refl fh) h (rep_bl.mpr rfl)]
 .obtain⟨⟨f1,f2⟩,h⟩:=h;obtain⟨l,vs,rfl,hq,rr⟩:=rep_lst.mp ry;exact .inr #[l,vs,rfl,.inl (fh.seq (SqL.of hq)),gY rx f1,eJ rr f2,q _ _ F H (Grow.refl fh) h (rep_bl.mpr (by rw[ie rx f1 rr f2]))]
 .obtain⟨⟨f1,f2⟩,h⟩:=h;obtain⟨l,vs,rfl,hq,rr⟩:=rep_rol.mp ry;exact .inr #[l,vs,rfl,.inl (fh.seq hq),gY rx f1,eJ rr f2,q _ _ F H (Grow.refl fh) h (rep_bl.mpr (by rw[ie rx f1 rr f2]))]
 .obtain⟨⟨f1,f2⟩,h⟩:=h;obtain⟨l,vs,rfl,hq,rr⟩:=rep_tup_mp ry;exact .inr #[l,vs,rfl,.inr (fh.tup hq),gY rx f1,eJ rr f2,q _ _ F H (Grow.refl fh) h (rep_bl.mpr (by rw[ie rx f1 rr f2]))]
 .exact h.elim
def zY:OpR X (TK .NotIn) (rInV X.K true):=OpR.or xU xT
end
end My
namespace L2
def Its(x:F_):It:=#[λi _=>i<x.length,λi H v H'=>H'=H/\∃c,x.cps[i]?=be c/\v=.str #[[c].toArray],λi _=>x.length<=i]
def zZ{P:SZ}{w:Tp}{K:Ex}{tg:Tn}(x:F_)(t:Vv)(it:KF):Turn P w K tg (Its x) [it] it (λi h=>h.IsStrIter it "str_ascii_iterator" x t i) where
 mem:=K'
 obj:=λi h st b hb=>by
  have e:b=it:=by simpa using hb
  subst e;obtain⟨o,e,c,d⟩:=st;exact#[o,e,λv z=>by rw[d]at z;cases z]
 keep:=λi h h' st k=>by
  obtain⟨o,e,r⟩:=st;exact#[o,k it K' o e,r]
 item:=by
  intro X hP hw hK hc i pins s σ H E I hf st hg;subst hP hw hK;have hi:i<x.cps.size:=hg;obtain⟨f0,f1,f2,f3,f4,f5⟩:=hf it K';refine wpAny_pyNext_ascii_item st (c:=x.cps[i]) (JI hi) λh' t8 sb=>?_;have I1:Inv X pins σ H {s with heap:=h',toks:=s.toks+1}:=I.turned (t':=s.toks+1) (λb o hb e=>(sb.2 b hb).trans e) f0 f1 f3 f4 f5;obtain⟨o,e,c,d⟩:=id t8;exact#[_,rfl,jM (s:={s with heap:=h',toks:=s.toks+1}) e c d K3 #[.str #[[x.cps[i]].toArray],H,I1,#[_,rfl],#[rfl,_,JI hi,rfl],t8,λb hb=>(hf b hb).1]]
 done:=by
  intro X hP hw hK hc i pins s σ H E I hf st hg;subst hP hw hK;have hi:x.cps.size<=i:=hg;obtain⟨f0,f1,f2,f3,f4,f5⟩:=hf it K';exact wpAny_pyNext_ascii_end (I.ok.hd hc) st (Array.getElem?_eq_none hi) λh' eb=>#[rfl,I.turned (t':=s.toks) (λb o hb e=>eb b o hb e) f0 f1 f3 f4 f5]
 self:=λA i s Q E st hQ=>wpAny_pyIter_striter_ascii st hQ
def iStr(tl:TE):TI:=λσ H R=>tl σ H λv H1=>∃x,v=.str x/\x.cps.all (·<128)=true/\R (Its x) H1
def sZ{X:Cx}{tg l:Tn}{tl:TE}(hl:PE X l tl):PI X tg l (iStr tl):=by
 intro pins s σ H R I h;refine thn (hl pins s σ H _ I h) λv s1 b9=>?_;obtain⟨v1,H1,I1,r1,q1⟩:=b9;obtain⟨x,rfl,ha,q⟩:=q1;obtain⟨t,rfl⟩:=r1;refine wpAny_pyIter_ascii ha ?_;refine#[s1.heap.objs.size,[s1.heap.objs.size],_,_,H1,rfl,I1.kept (t':=s1.toks) λb o e=>Heap.get?_push_of_some _ e,zZ x t _,#[_,Heap.get?_push_size _ rfl,rfl,rfl],λb hb=>?_,q];have e:b=s1.heap.objs.size:=by simpa using hb
 subst e;exact I1.fpOk (GN _) (I1.hok.fresh (GN _))
def Aa{x:F_}{g:TG}{tb:TS}{D:Ends}{σ:St}{H:Hp}(Pv:Nat->St->Hp->Prop)(h0:Pv 0 σ H)
  (hs:∀i c σ H,x.cps[i]?=be c->Pv i σ H->g (.str #[[c].toArray]) σ H λσ2 H2=>tb {D with nx:=Pv (i+1),ct:=Pv (i+1),bk:=D.nx} σ2 H2) (hd:∀σ H,Pv x.length σ H->D.nx σ H):
  ∃W:Nat->Nat->St->Hp->Prop,(∃m,W 0 m σ H)/\∀i m σ H,W i m σ H->
   ((Its x).stop i H/\D.nx σ H)\/((Its x).go i H/\∃N:St->Hp->Prop,(∀σ' H',N σ' H'->∃m',m'<m/\W (i+1) m' σ' H')/\∀v H',(Its x).yld i H v H'->g v σ H' λσ2 H2=>tb {D with nx:=N,ct:=N,bk:=D.nx} σ2 H2):=by
 refine#[λi m σ H=>m=x.length-i/\i<=x.length/\Pv i σ H,#[x.length,K',Hb _,h0],?_];rintro i m σ H ⟨rfl,hi,p⟩;by_cases f9:i<x.length
 .refine .inr #[f9,Pv (i+1),λσ' H' p'=>#[x.length-(i+1),KK,rfl,f9,p'],λv H' y=>?_];obtain⟨e,c,hc,rfl⟩:=y;subst e;exact hs i c σ _ hc p
 .have e:i=x.length:=by lia
  subst e;exact .inl #[GN _,hd σ H p]
end L2
namespace My
section
variable {X:Cx}[J:Jx]{a b c e:Tn}{ta tb tc te:TD}{pos:Tw}
def bP(x:F_):List D:=x.cps.toList.map λc=>D.str #[[c].toArray]
def dItS(t:TD):TDI:=λz R=>t z λy=>match y with|.str x=>x.cps.all (·<128)=true/\R (bP x)|_=>False
def ig{x:F_}{k c:Nat}(h:x.cps[k]?=be c):(bP x)[k]?=be (.str #[[c].toArray]):=by
 unfold bP;rw[GY,Array.getElem?_toList,h];rfl
def eV(x:F_):(bP x).length=x.length:=by unfold bP;rw[GT];simp[Str.length]
def Ab(i:Nat){x:F_}{p:Tw}{body:List SL}{tb:TSD}(hp:TX (SB X.prog X.w) X.A X.env X.xe)(hc:X.calm=true)(hN:X.N.Nodup)(he:WDE X e te)(hb:WDSs X body tb)(hi:autoParam (X.N[i]?=be x) zA0)(hx:autoParam (Loc X.env.scope x) zA4)
  (hf:autoParam (zFN X x) zA2) (hs:autoParam (∀y,zFS X e y) zA3):WDS X (.For (.Name x p) e body [] pos) (dFor i (dItS te) tb):=⟨have he:=he.out;have hb:=hb.out;(cV hp hc (sZ he) (dX hN hi hx hf) hb hs).anti λE s H q=>by
 obtain⟨B,F0,F,z,kp,rs,ED,h,e⟩:=q;refine#[B,F,z,kp.kf,rs,_,h,λd v F1 H1 g1 hd rd=>?_];split at hd
 .rename_i y;obtain⟨ha,W,w0,c7,out⟩:=hd;refine#[y,rep_str.mp rd,ha,Aa (λk s' H'=>∃F' z',Kept B F0 F' H'/\RepS X.K B F' H' z' s'/\W k z') #[F1,z,kp.grow g1,rs.grow g1,w0] ?_ ?_]
  .rintro k c s' H' hk⟨F',z',k',r',w'⟩;exact#[B,F0,F',_,k',r'.set (d:=.str #[[c].toArray]) (rep_str.mpr rfl),_,c7 k (.str #[[c].toArray]) z' (ig hk) w',#[λz3 s3 F3 H3 k3 h3 r3=>#[F3,z3,k3,r3,h3],e.rt,e.nx,λz3 s3 F3 H3 k3 h3 r3=>#[F3,z3,k3,r3,h3]]]
  .rintro s' H'⟨F',z',k',r',w'⟩;exact e.nx z' s' F' H' k' (out z' (by rw[eV];exact w')) r'
 .exact hd.elim⟩
variable {g_ iter:Tn}{x:F_}{px:Tw}{scope:T3}{ti:TD}
def itS{K:Ex}:ItOk K (iStr (lE K ti)) (dItS ti):=λ{s H B F z P Q} kf rs h1 h2=>by
 refine#[B,F,z,kf,rs,_,h1,λd v F1 H1 g1 hd rd=>?_];split at hd
 .rename_i y;obtain⟨ha,hd⟩:=hd;have hl:=eV y;refine#[y,rep_str.mp rd,ha,h2 _ _ F1 H1 g1 hd #[λk F' H' G hk=>by rw[hl]at hk;exact hk,λk F' H' v H'' G hk hy=>?_,λF' H' G=>by show y.length<=_;rw[hl];exact GN _]];obtain⟨e,c,hc,rfl⟩:=hy;exact#[e,.str #[[c].toArray],ig hc,rep_str.mpr rfl]
 .exact hd.elim
end
section
variable {X:Cx}[J:Jx]{a b c e o:Tn}{es:List Tn}{ta tb tc te to:TD}{t:TDA}{pos:Tw}
abbrev RTx:=F_->List D->(D->Prop)->Prop
def dTx(r:RTx)(to:TD)(t:TDA):TD:=λz R=>to z λx=>match x with|.str y=>t z λds=>r y ds R|_=>False
def MtS(X:Cx)(id:String)(r:RTx):Prop:=∃rv:V->List V->Hp->VK->Prop,MtR X id rv/\∀(y:F_) (ds:List D) (vs:List V) (F H:Hp) (R:D->Prop) (Q:VK),Reps X.K F ds vs->r y ds R->(∀d v,(∀G,Rep X.K G d v)->R d->Q v H)->rv (.str y) vs H Q
variable{apos cpos:Tw}
def kI{name:F_}{id:String}{r:RTx}(slot:Slot "str" name id)(NP:typeOf (.builtin id)=pure (.type "method_descriptor"))(hm:MtS X id r)(ho:DE X o to)(ha:DA X (e::es) t)
  (b8:autoParam (Tt o name X.env (Tv o X.env)=Tv o X.env) zA0)
  (d8:autoParam (zHF X cpos (e::es)) zA0)
  (c8:autoParam ((apos.endLine==cpos.line)=true) zA0) (hs:autoParam (zSE X e es) zA0) (n9:autoParam (zPL X cpos es) zA0):
  DE X (.Call (.Attribute o name apos) (e::es) [] cpos) (dTx r to t):=by
 obtain⟨rv,hm,L⟩:=hm;refine(eg PySem.F.plainAttrs_str slot NP hm ho ha b8 d8 c8 hs n9).anti λs H Q q=>?_;obtain⟨B,F,z,kf,rs,R,h1,h2⟩:=q;refine#[B,F,z,kf,rs,_,h1,λx u F1 H1 g1 hx rx=>?_];split at hx
 .rename_i y;rw[rep_str.mp rx];refine#[rfl,B,F1,z,kf.grow g1,rs.grow g1,_,hx,λds vs F2 H2 g2 hy ry=>?_];exact L y ds vs F2 H2 R Q ry hy λd v rd hR=>h2 d v F2 H2 (g1.trans g2) hR (rd F2)
 .exact hx.elim
def GI:RTx:=λy ds R=>match ds with|[.str p]=>R (.bl (Txt.startswith y p))|_=>False
def rEnds:RTx:=λy ds R=>match ds with|[.str p]=>R (.bl (Txt.endswith y p))|_=>False
def ms_ends:MtS X "str.endswith" rEnds:=by
 refine#[λx vs H Q=>∃y p,x=.str y/\vs=[.str p]/\Q (.bl (Txt.endswith y p)) H,?_,?_]
 .intro pins s σ H x vs v us Q I rx rv h;obtain⟨y,p,rfl,rfl,q⟩:=h;obtain⟨t,rfl⟩:=rx;obtain⟨u,rfl,t',rfl⟩:=cb rv;exact SC.endswith #[.bl _,H,I,rfl,q]
 .intro y ds vs F H R Q r h q;unfold rEnds at h;split at h
  .obtain⟨v,vr,rfl,h1,h2⟩:=reps_cons.mp r;rw[reps_nil.mp h2,rep_str.mp h1];exact#[_,_,rfl,rfl,q _ _ (λ_=>rep_bl.mpr rfl) h]
  .exact h.elim
def Ac(ho:WDE X o to)(ha:WDA X [e] t)(b8:autoParam (Tt o "endswith" X.env (Tv o X.env)=Tv o X.env) zA0)
  (d8:autoParam (zHF X cpos [e]) zA0)
  (c8:autoParam ((apos.endLine==cpos.line)=true) zA0) (hs:autoParam (zSE X e []) zA0):WDE X (.Call (.Attribute o "endswith" apos) [e] [] cpos) (dTx rEnds to t):=#[have ho:=ho.out;have ha:=ha.out;kI PySem.F.slot_str_endswith PySem.F.type_str_endswith ms_ends ho ha b8 d8 c8 hs]
def rSIndex:RTx:=λy ds R=>match ds with|[.str p]=>∃i rest,Builtin.Str.occurrences y p 0 y.length 1=i::rest/\R (.int (i:Nat))|_=>False
def Ad:MtS X "str.index" rSIndex:=by
 refine#[λx vs H Q=>∃y p i rest,x=.str y/\vs=[.str p]/\Builtin.Str.occurrences y p 0 y.length 1=i::rest/\Q (.int (i:Nat)) H,?_,?_]
 .intro pins s σ H x vs v us Q I rx rv h;obtain⟨y,p,i,rest,rfl,rfl,ho,q⟩:=h;obtain⟨t,rfl⟩:=rx;obtain⟨u,rfl,t',rfl⟩:=cb rv;exact SC.index ho #[.int _,H,I.tok _,#[_,rfl],q]
 .intro y ds vs F H R Q r h q;unfold rSIndex at h;split at h
  .obtain⟨i,rest,ho,h⟩:=h;obtain⟨v,vr,rfl,h1,h2⟩:=reps_cons.mp r;rw[reps_nil.mp h2,rep_str.mp h1];exact#[_,_,i,rest,rfl,rfl,ho,q _ _ (λ_=>rep_int.mpr rfl) h]
  .exact h.elim
def kJ(ho:WDE X o to)(ha:WDA X [e] t)(b8:autoParam (Tt o "index" X.env (Tv o X.env)=Tv o X.env) zA0)
  (d8:autoParam (zHF X cpos [e]) zA0)
  (c8:autoParam ((apos.endLine==cpos.line)=true) zA0) (hs:autoParam (zSE X e []) zA0):WDE X (.Call (.Attribute o "index" apos) [e] [] cpos) (dTx rSIndex to t):=#[have ho:=ho.out;have ha:=ha.out;kI PySem.F.slot_str_index PySem.F.type_str_index Ad ho ha b8 d8 c8 hs]
def Reps.init{K:Ex}{F:Hp}:∀{ds:List D} {vs:List V},Reps K F ds vs->Reps K F ds.dropLast vs.dropLast
 |[],vs,r=>by rw[reps_nil.mp r];exact reps_nil.mpr rfl
 |[d],vs,r=>by
  obtain⟨v,vr,rfl,_,h2⟩:=reps_cons.mp r;rw[reps_nil.mp h2];exact reps_nil.mpr rfl
 |d::d2::ds,vs,r=>by
  obtain⟨v,vr,rfl,h1,h2⟩:=reps_cons.mp r;obtain⟨v2,SV,rfl,h3,h4⟩:=reps_cons.mp h2;rw[JJ,JJ];exact reps_cons.mpr #[v,_,rfl,h1,Reps.init h2]
end
end My
namespace My
open Exc
section
variable {X:Cx}{a b c e:Tn}{ta tb tc te:TD}{pos:Tw}{st:SL}{rest:List SL}{t u:TSD}
def bg[Jx]{c:Tn}{l r:List SL}{tc:TDT}(hc:WDT X c tc)(ha:WDSs X l t)(hb:WDSs X r u):WDS X (.If c l r pos) (dIfS tc t u):=#[ss (c:=c) (l:=l) (r:=r) (tc:=tc) (hc:=hc.out) (ha:=ha.out) (hb:=hb.out)]
end
section
variable {P:SZ}{w:Tp}{K:Ex}{mg:F_->Option KB}{base:Heap}
variable{x qual:F_}{st:SL}{f:KF}{fd:Tu}{N ps:List F_}{k:Nat}
def _root_.L2.Fun.okDW{S:SpD}(T:Fun K x qual st f fd)(F:FnScope N ps (ag st))(len:∀ds R,S ds R->ds.length=ps.length)
  (a8:∀(cdv:KB) (A:Tq) (outer:List Um) (s:Os) (H:Hp) (E:XK) (J:Jx),Room k (A.deeper (TB qual (ag st) s.heap.objs.size f cdv))->
   ∃t,WDSs (cxOf (Exc.CX1 P w) P w K mg base N qual (ag st) f cdv A outer s H E).nox (aL st) t/\∀ds R,S ds R->t {nx:=λ_=>R .non,rt:=R} (startD N ds)):FnOk P w K mg base (Exc.CX1 P w) (k+1) f fd ps (lSp K S):=
 T.okD F len λcdv A outer s H E J hr=>let ⟨t,h,q⟩:=a8 cdv A outer s H E J hr;#[t,h.out,q]
def Tx.okDW{S:SpD}(T:Tx K mg x st ps)(F:FnScope N ps (ag st))(len:∀ds R,S ds R->ds.length=ps.length)
  (a8:∀(f:KF) (cdv:KB) (A:Tq) (outer:List Um) (s:Os) (H:Hp) (E:XK) (J:Jx),Room k (A.deeper (TB x (ag st) s.heap.objs.size f cdv))->
   ∃t,WDSs (cxOf (Exc.CX1 P w) P w K mg base N x (ag st) f cdv A outer s H E).nox (aL st) t/\∀ds R,S ds R->t {nx:=λ_=>R .non,rt:=R} (startD N ds)):CalD P w K mg base (k+1) x ps S:=
 Tx.okD T F len λf cdv A outer s H E J hr=>let ⟨t,h,q⟩:=a8 f cdv A outer s H E J hr;#[t,h.out,q]
def Tx.okXW{S:SpX}(T:Tx K mg x st ps)(F:FnScope N ps (ag st))(len:∀ds R RX,S ds R RX->ds.length=ps.length)
  (a8:∀(f:KF) (cdv:KB) (A:Tq) (outer:List Um) (s:Os) (H:Hp) (E:XK) (J:Jx),Room k (A.deeper (TB x (ag st) s.heap.objs.size f cdv))->XOk (cxOf (CX1 P w) P w K mg base N x (ag st) f cdv A outer s H E)->
   ∃t,WDSs (cxOf (CX1 P w) P w K mg base N x (ag st) f cdv A outer s H E) (aL st) t/\∀ds R RX,(∀z,J.RX z=RX)->S ds R RX->t {nx:=λ_=>R .non,rt:=R} (startD N ds)):CalX P w K mg base (k+1) x ps S:=
 Tx.okX T F len λf cdv A outer s H E J hr hx=>let ⟨t,h,q⟩:=a8 f cdv A outer s H E J hr hx;#[t,h.out,q]
def Cls.okIW{C:KF}{p0:F_}{S:SiD}(T:Fun K "__init__" qual st f fd)(hb:Binds K fd (p0::ps) [])(F:FnScope (p0::N) (p0::ps) (ag st))(len:∀ds R,S ds R->ds.length=ps.length)
  (hns:nsIn K Pi x=be (be (.ref C))) (j9:mg x=be (.ref C)) (mk:Mk K C f)
  (a8:∀(cdv:KB) (A:Tq) (outer:List Um) (s:Os) (H:Hp) (E:XK) (J:Jx),Room k (A.deeper (TB qual (ag st) s.heap.objs.size f cdv))->
   ∃t,WDI (cxOf (Exc.CX1 P w) P w K mg base (p0::N) qual (ag st) f cdv A outer s H E).nox x (aL st) t/\∀ds R,S ds R->t (t9::startD N ds) [] R):CalM P w K mg base (k+1) x (p0::ps) S:=
 Cls.okI T hb F len hns j9 mk λcdv A outer s H E J hr=>let ⟨t,h,q⟩:=a8 cdv A outer s H E J hr;#[t,h.out,q]
def Cls.okEW{C N0:KF}{bm:List KB}{p0:F_}{S:SiD}(T:Fun K "__init__" qual st f fd)(hb:Binds K fd (p0::ps) [])(F:FnScope (p0::N) (p0::ps) (ag st))(len:∀ds R,S ds R->ds.length=ps.length)
  (ek:ErrK K mg x C N0 bm) (hi:GR K (.ref C) "__init__"=be (be (.ref f))) (hf:isFn K (.ref f)=true)
  (a8:∀(cdv:KB) (A:Tq) (outer:List Um) (s:Os) (H:Hp) (E:XK) (J:Jx),Room k (A.deeper (TB qual (ag st) s.heap.objs.size f cdv))->
   ∃t,WDX (cxOf (CX1 P w) P w K mg base (p0::N) qual (ag st) f cdv A outer s H E).nox x (aL st) t/\∀ds R,S ds R->t (t9::startD N ds) [] R):CalE P w K mg base (k+1) x (p0::ps) S:=
 Cls.okE T hb F len ek hi hf λcdv A outer s H E J hr=>let ⟨t,h,q⟩:=a8 cdv A outer s H E J hr;#[t,h.out,q]
end
inductive MO where
 |ins (x:Str) (fs:List (Str×D))|lst (ds:List D)|dti (a9:List ((Int×Int)×Int))
abbrev MS:=List (KF×MO)
def MRep(K:Ex)(F H:Hp)(a:KF):MO->Prop
 |.ins x fs=>∃C dx ws,nsIn K Pi x=be (be (.ref C))/\H a=be (.ins C dx ws)/\RepF K F fs ws
 |.lst ds=>∃vs,H a=be (.lst vs)/\Reps K F ds vs
 |.dti a9=>H a=be (.dT (dtiV a9))
def au(M:MS):List KF:=M.map (·.1)
def mget:MS->KF->Option MO
 |[],_=>t9
 |(b,o)::r,a=>if b=a then be o else mget r a
def mput:MS->KF->MO->MS
 |[],_,_=>[]
 |(b,p)::r,a,o=>if b=a then(b,o)::r else(b,p)::mput r a o
def mdel:MS->KF->MS
 |[],_=>[]
 |(b,p)::r,a=>if b=a then r else(b,p)::mdel r a
def bw:∀{M:MS} {a:KF} {o:MO},mget M a=be o->(a,o)∈M
 |[],_,_,h=>by cases h
 |(b,p)::r,a,o,h=>by
  unfold mget at h;split at h
  .rename_i e;subst e;cases h;exact GS
  .exact GQ _ (bw h)
variable{M:MS}{a:KF}{o:MO}
def bW(h:(a,o)∈M):a∈au M:=Hc.mpr #[_,h,rfl]
def ii:∀(M:MS) (a:KF) (o:MO),au (mput M a o)=au M
 |[],_,_=>rfl
 |(b,p)::r,a,o=>by
  unfold mput;split
  .rfl
  .show b::au (mput r a o)=b::au r;rw[ii r a o]
def mem_put:∀{M:MS} {a b:KF} {o q:MO},(au M).Nodup->(b,q)∈mput M a o->(b=a/\q=o/\a∈au M)\/(b≠a/\(b,q)∈M)
 |[],_,_,_,_,_,h=>by cases h
 |(c,p)::r,a,b,o,q,nd,h=>by
  have Mr:c∉au r/\(au r).Nodup:=HE.mp nd;unfold mput at h;split at h
  .rename_i e;subst e;rcases GP.mp h with z|z
   .cases z;exact .inl #[rfl,rfl,GS]
   .have:b∈au r:=bW z;exact .inr #[λe=>Mr.1 (e ▸ this),GQ _ z]
  .rename_i ne;rcases GP.mp h with z|z
   .cases z;exact .inr #[ne,GS]
   .rcases mem_put Mr.2 z with⟨e1,e2,e3⟩|⟨e1,e2⟩
    .exact .inl #[e1,e2,GQ _ e3]
    .exact .inr #[e1,GQ _ e2]
def kK:∀{M:MS} {a b:KF} {q:MO},(au M).Nodup->(b,q)∈mdel M a->b≠a/\(b,q)∈M
 |[],_,_,_,_,h=>by cases h
 |(c,p)::r,a,b,q,nd,h=>by
  have Mr:c∉au r/\(au r).Nodup:=HE.mp nd;unfold mdel at h;split at h
  .rename_i e;subst e;exact#[λe=>Mr.1 (e ▸ bW h),GQ _ h]
  .rename_i ne;rcases GP.mp h with z|z
   .cases z;exact#[ne,GS]
   .obtain⟨e1,e2⟩:=kK Mr.2 z;exact#[e1,GQ _ e2]
def del_sub:∀{M:MS} {a:KF},(au (mdel M a)).Sublist (au M)
 |[],_=>.slnil
 |(c,p)::r,a=>by
  unfold mdel;split
  .exact List.sublist_cons_self _ _
  .exact List.Sublist.cons_cons _ del_sub
variable{K:Ex}{F H F' H':Hp}
def MRep.mono(ff:Same F F')(hh:∀o,H a=be o->H' a=be o):∀{o:MO},MRep K F H a o->MRep K F' H' a o
 |.ins x fs,⟨C,dx,ws,n,h,r⟩=>#[C,dx,ws,n,hh _ h,RepF.mono ff fs ws r]
 |.lst ds,⟨vs,h,r⟩=>#[vs,hh _ h,Reps.mono ff ds vs r]
 |.dti a9,h=>hh _ h
def MRep.there:∀{o:MO},MRep K F H a o->H a≠t9
 |.ins x fs,⟨C,dx,ws,n,h,r⟩=>by rw[h];exact λz=>nomatch z
 |.lst ds,⟨vs,h,r⟩=>by rw[h];exact λz=>nomatch z
 |.dti a9,h=>by rw[show H a=_ from h];exact λz=>nomatch z
structure RepM(K:Ex)(F H:Hp)(M:MS):Prop where
 nd:(au M).Nodup
 ok:∀a o,(a,o)∈M->MRep K F H a o
 fr:∀a,a∈au M->F a=t9
def RepM.nil:RepM K F H []:=#[JD,(λ_ _ h=>nomatch h),(λ_ h=>nomatch h)]
def RepM.here(r:RepM K F H M)(h:a∈au M):H a≠none:=by
 obtain⟨⟨b,o⟩,h1,rfl⟩:=Hc.mp h;exact(r.ok _ _ h1).there
structure GrowM(M M':MS)(F H F' H':Hp):Prop where
 ff:Same F F'
 fh:Same F' H'
 hh:∀b o,b∉au M->H b=be o->H' b=be o
 out:∀b,b∉au M->F b=t9->H b≠t9->F' b=t9
 ks:∀b,b∈au M'->b∈au M\/H b=t9
def Grow.toM(g:Grow F H F' H'):GrowM M M F H F' H':=#[g.ff,g.fh,λb o _ h=>g.hh b o h,λb _ h1 h2=>g.out b h1 h2,λb h=>.inl h]
def GrowM.refl(h:Same F H):GrowM M M F H F H:=(Grow.refl h).toM
def GrowM.trans{M1 M2:MS}{F1 H1 F2 H2:Hp}(g:GrowM M M1 F H F1 H1)(k:GrowM M1 M2 F1 H1 F2 H2):GrowM M M2 F H F2 H2 where
  ff:=g.ff.trans k.ff
  fh:=k.fh
  hh:=λb o nb h=>k.hh b o (λz=>by rcases g.ks b z with q|q;exact nb q;rw[q]at h;cases h) (g.hh b o nb h)
  out:=λb nb h1 h2=>k.out b (λz=>by rcases g.ks b z with q|q;exact nb q;exact h2 q) (g.out b nb h1 h2) (by
    cases e:H b with
    |none=>exact absurd e h2
    |some o=>rw[g.hh b o nb e];exact λz=>nomatch z)
  ks :=λb h=>by
    rcases k.ks b h with q|q
    . exact g.ks b q
    . by_cases nb:b∈au M
      . exact .inl nb
      . right;cases e:H b with
        |none=>rfl
        |some o=>rw[g.hh b o nb e]at q;cases q
def RepM.grow(r:RepM K F H M)(g:Grow F H F' H'):RepM K F' H' M:=
 #[r.nd,λa o h=>(r.ok a o h).mono g.ff λo e=>g.hh a o e,λa h=>g.out a (r.fr a h) (r.here h)]
variable{ho:HO}
def RepM.put{o':MO}(r:RepM K F H M)(e:mget M a=be o)(h:MRep K F (upd H a ho) a o'):RepM K F (upd H a ho) (mput M a o'):=
 ⟨by rw[ii];exact r.nd,λb q hb=>by
  rcases mem_put r.nd hb with⟨rfl,rfl,_⟩|⟨ne,hb⟩
  .exact h
  .exact(r.ok b q hb).mono (Same.refl F) λu z=>by rw[aq ne];exact z,λb hb=>r.fr b (by rw[ii]at hb;exact hb)⟩
def GrowM.put{o':MO}(fh:Same F H)(fa:F a=t9)(e:mget M a=be o):GrowM M (mput M a o') F H F (upd H a ho) where
 ff:=Same.refl F
 fh:=λb u z=>by
  have ne:b≠a:=by rintro rfl;rw[fa]at z;cases z
  rw[aq ne];exact fh b u z
 hh:=λb u nb z=>by
  have ne:b≠a:=by rintro rfl;exact nb (bW (bw e))
  rw[aq ne];exact z
 out:=λb _ h _=>h
 ks:=λb h=>.inl (by rw[ii]at h;exact h)
def RepM.new{p:KF}(r:RepM K F H M)(fh:Same F H)(hp:H p=t9)(h:MRep K F (upd H p ho) p o):RepM K F (upd H p ho) ((p,o)::M):=by
 have np:p∉au M:=λz=>r.here z hp;refine#[HE.mpr #[np,r.nd],λb q hb=>?_,λb hb=>?_]
 .rcases GP.mp hb with z|z
  .cases z;exact h
  .exact(r.ok b q z).mono (Same.refl F) λu z'=>by rw[aq (λe:b=p=>np (e ▸ bW z))];exact z'
 .rcases GP.mp hb with z|z
  .rw[z];exact fh.free hp
  .exact r.fr b z
def GrowM.new{p:KF}(fh:Same F H)(hp:H p=t9):GrowM M ((p,o)::M) F H F (upd H p ho) where
 ff:=Same.refl F
 fh:=fh.trans (aN hp _)
 hh:=λb u _ z=>aN hp _ b u z
 out:=λb _ h _=>h
 ks:=λb h=>by
  rcases GP.mp h with z|z
  .exact .inr (by rw[z];exact hp)
  .exact .inl z
structure RepZ(K:Ex)(B F H:Hp)(z:SD)(s:L2.St)(M:MS):Prop where
 rs:RepS K B F H z s
 no:∀(i:Nat) ds,z[i]?≠be (be (.own ds))
 rm:RepM K F H M
 mb:∀a,a∈au M->B a=t9
variable{B:Hp}{M':MS}
def Kept.growM[Jx]{F0:Hp}(k:Kept B F0 F H)(mb:∀a,a∈au M->B a=t9)(g:GrowM M M' F H F' H'):Kept B F0 F' H' where
 bh:=λb o e=>g.hh b o (λz=>by rw[mb b z]at e;cases e) (k.bh b o e)
 fh:=g.fh
 f0:=k.f0.trans g.ff
 out:=λb h1 h2=>g.out b (λz=>h2 (mb b z)) (k.out b h1 h2) (by
  cases e:B b with
  |none=>exact absurd e h2
  |some o=>rw[k.bh b o e];exact λz=>nomatch z)
 eb:=k.eb
 jf:=k.jf
 jo:=k.jo
variable{z:SD}{s:L2.St}
def RepS.growM(r:RepS K B F H z s)(no:∀(i:Nat) ds,z[i]?≠be (be (.own ds)))(g:GrowM M M' F H F' H'):RepS K B F' H' z s where
 len:=r.len
 val:=λi d e n=>let ⟨v,q1,q2⟩:=r.val i d e n;#[v,q1,q2.mono g.ff]
 own:=λi ds e=>absurd e (no i ds)
 apart:=r.apart
def RepZ.growM(r:RepZ K B F H z s M)(bh:Same B H)(g:GrowM M M' F H F' H')(rm:RepM K F' H' M'):RepZ K B F' H' z s M':=
 ⟨r.rs.growM r.no g,r.no,rm,λa h=>by
  rcases g.ks a h with q|q
  .exact r.mb a q
  .exact bh.free q⟩
def RepZ.set{i:Nat}{d:D}{v:V}(r:RepZ K B F H z s M)(rd:Rep K F d v):RepZ K B F H (z.set i (be d)) (s.set i (be v)) M:=
 ⟨r.rs.set rd,λj ds e=>by
  by_cases hj:i=j
  .subst hj;rw[HM]at e;simp at e;have:=rd.noown;rw[e.2]at this;cases this
  .rw[G0 hj]at e;exact r.no j ds e,r.rm,r.mb⟩
class Jm extends Jx where
 RM:SD->MS->XD
abbrev TME:=SD->MS->(D->MS->Prop)->Prop
abbrev TMT:=SD->MS->(Bool->MS->Prop)->Prop
abbrev TMA:=SD->MS->(List D->MS->Prop)->Prop
structure EndsM where
 nx:SD->MS->Prop
 rt:D->MS->Prop
 bk:SD->MS->Prop:=λ_ _=>False
 ct:SD->MS->Prop:=λ_ _=>False
abbrev TMS:=EndsM->SD->MS->Prop
def mE(K:Ex)[J:Jm](t:TME):TE:=λs H Q=>∃F z M,Kept J.B J.F0 F H/\RepZ K J.B F H z s M/\∃R:D->MS->Prop,t z M R/\∀d v M' F' H',GrowM M M' F H F' H'->R d M'->Rep K F' d v->RepM K F' H' M'->Q v H'
def mT(K:Ex)[J:Jm](t:TMT):TT:=λs H Q=>∃F z M,Kept J.B J.F0 F H/\RepZ K J.B F H z s M/\∃R:Bool->MS->Prop,t z M R/\∀b M' F' H',GrowM M M' F H F' H'->R b M'->RepM K F' H' M'->Q b H'
def mA(K:Ex)[J:Jm](t:TMA):TA:=λs H Q=>∃F z M,Kept J.B J.F0 F H/\RepZ K J.B F H z s M/\∃R:List D->MS->Prop,t z M R/\∀ds vs M' F' H',GrowM M M' F H F' H'->R ds M'->Reps K F' ds vs->RepM K F' H' M'->Q vs H'
structure EndsOkM[J:Jm](K:Ex)(F0:Hp)(ED:EndsM)(E:Ends):Prop where
 nx:∀z' s' M' F' H',Kept J.B F0 F' H'->ED.nx z' M'->RepZ K J.B F' H' z' s' M'->E.nx s' H'
 rt:∀d v M' F' H',Kept J.B F0 F' H'->ED.rt d M'->Rep K F' d v->RepM K F' H' M'->(∀a,a∈au M'->J.B a=t9)->E.rt v H'
 bk:∀z' s' M' F' H',Kept J.B F0 F' H'->ED.bk z' M'->RepZ K J.B F' H' z' s' M'->E.bk s' H'
 ct:∀z' s' M' F' H',Kept J.B F0 F' H'->ED.ct z' M'->RepZ K J.B F' H' z' s' M'->E.ct s' H'
def mS(K:Ex)[J:Jm](t:TMS):TS:=λE s H=>∃F0 F z M,Kept J.B F0 F H/\RepZ K J.B F H z s M/\∃ED:EndsM,t ED z M/\EndsOkM K F0 ED E
structure ME(X:Cx)[Jm](e:Tn)(t:TME):Prop where
 out:PE X e (mE X.K t)
structure MT(X:Cx)[Jm](e:Tn)(t:TMT):Prop where
 out:PT X e (mT X.K t)
structure MW(X:Cx)[Jm](e:Tn)(t:TMT):Prop where
 out:PW X e (mT X.K t)
structure MA(X:Cx)[Jm](es:List Tn)(t:TMA):Prop where
 out:PA X es (mA X.K t)
structure MSt(X:Cx)[Jm](st:SL)(t:TMS):Prop where
 out:PS X st (mS X.K t)
structure MSs(X:Cx)[Jm](st:List SL)(t:TMS):Prop where
 out:PSs X st (mS X.K t)
section
variable {X:Cx}{a b c e:Tn}{ta tb:TME}{pos:Tw}
def mP(t:TD):TME:=λz M R=>t z λd=>R d M
def mPT(t:TDT):TMT:=λz M R=>t z λd=>R d M
def mPA(t:TDA):TMA:=λz M R=>t z λd=>R d M
def ah[J:Jm]{t:TD}(h:WDE X e t):ME X e (mP t):=⟨PE.anti h.out λs H Q q=>by
 obtain⟨F,z,M,k,r,R,h1,h2⟩:=q;exact#[J.B,F,z,k,r.rs,_,h1,λd v F' H' g hd rd=>h2 d v M F' H' g.toM hd rd (r.rm.grow g)]⟩
def bx[J:Jm]{t:TDT}(h:WDT X e t):MT X e (mPT t):=⟨PT.anti h.out λs H Q q=>by
 obtain⟨F,z,M,k,r,R,h1,h2⟩:=q;exact#[J.B,F,z,k,r.rs,_,h1,λd F' H' g hd=>h2 d M F' H' g.toM hd (r.rm.grow g)]⟩
variable{es:List Tn}
def aB[J:Jm]{t:TDA}(h:WDA X es t):MA X es (mPA t):=⟨PA.anti h.out λs H Q q=>by
 obtain⟨F,z,M,k,r,R,h1,h2⟩:=q;exact#[J.B,F,z,k,r.rs,_,h1,λd v F' H' g hd rd=>h2 d v M F' H' g.toM hd rd (r.rm.grow g)]⟩
def mOp(r:RD2)(ta tb:TME):TME:=λz M R=>ta z M λx M1=>tb z M1 λy M2=>r x y λd=>R d M2
variable{r:R2}{rd:RD2}
def kL[J:Jm]{e:Tn}{ta tb:TME}(L:bb X.K r rd)(h:PE X e (tOp r (mE X.K ta) (mE X.K tb))):ME X e (mOp rd ta tb):=⟨h.anti λs H Q q=>by
 obtain⟨F,z,M,k,rs,R,h1,h2⟩:=q;refine#[F,z,M,k,rs,_,h1,λx u M1 F1 H1 g1 hx rx m1=>?_];refine#[F1,z,M1,k.growM rs.mb g1,rs.growM k.bh g1 m1,_,hx,λy v M2 F2 H2 g2 hy ry m2=>?_];exact L x y u v F2 H2 _ Q g2.fh hy (rx.mono g2.ff) ry λd w F3 H3 g3 hd rd=>h2 d w M2 F3 H3 ((g1.trans g2).trans g3.toM) hd rd (m2.grow g3)⟩
def tf[J:Jm]{op:UV}(ho:OpR X (TV op) r)(L:bb X.K r rd)(ha:ME X a ta)(hb:ME X b tb):ME X (.BinOp a op b pos) (mOp rd ta tb):=kL L (jP ho ha.out hb.out)
def Ae[J:Jm]{op:Vg}(ho:OpR X (TK op) r)(L:bb X.K r rd)(ha:ME X a ta)(hb:ME X b tb)(hm:TU op b=false):ME X (.Compare a [op] [b] pos) (mOp rd ta tb):=kL L (qN ho ha.out hb.out hm)
def kM[J:Jm](ha:ME X a ta)(hb:ME X b tb)(hs:autoParam (dZ b) zA6):ME X (.Subscript a b pos) (mOp rdIx ta tb):=kL rZ (pe_ix rn ha.out hb.out hs)
def ij[Jm](ha:ME X a ta)(hb:ME X b tb):ME X (.BinOp a .Add b pos) (mOp rdAdd ta tb):=tf rP rQ ha hb
def db[Jm](ha:ME X a ta)(hb:ME X b tb):ME X (.BinOp a .Sub b pos) (mOp rdSub ta tb):=tf qF rR ha hb
def mTst(t:TME):TMT:=λz M R=>t z M λx M1=>match x with|.bl k=>R k M1|_=>False
def eX[J:Jm]{op:Vg}(ho:OpR X (TK op) r)(L:bb X.K r rd)(ha:ME X a ta)(hb:ME X b tb)(hm:TU op b=false):MT X (.Compare a [op] [b] pos) (mTst (mOp rd ta tb)):=⟨(qO ho ha.out hb.out hm).anti λs H Q q=>by
 obtain⟨F,z,M,k,rs,R,h1,h2⟩:=q;refine#[F,z,M,k,rs,_,h1,λx u M1 F1 H1 g1 hx rx m1=>?_];refine#[F1,z,M1,k.growM rs.mb g1,rs.growM k.bh g1 m1,_,hx,λy v M2 F2 H2 g2 hy ry m2=>?_];refine L x y u v F2 H2 _ _ g2.fh hy (rx.mono g2.ff) ry λd w F3 H3 g3 hd rd=>?_;dsimp only at hd;split at hd
 .exact#[_,rep_bl.mp rd,h2 _ M2 F3 H3 ((g1.trans g2).trans g3.toM) hd (m2.grow g3)]
 .exact hd.elim⟩
def tm[Jm](ha:ME X a ta)(hb:ME X b tb):MT X (.Compare a [.Lt] [b] pos) (mTst (mOp rdLt ta tb)):=eX qL rV ha hb (nomark _)
def Af[Jm](ha:ME X a ta)(hb:ME X b tb):MT X (.Compare a [.Gt] [b] pos) (mTst (mOp rdGt ta tb)):=eX qM rW ha hb (nomark _)
def ik[Jm](ha:ME X a ta)(hb:ME X b tb):MT X (.Compare a [.Eq] [b] pos) (mTst (mOp rdEq ta tb)):=eX jQ ko ha hb (nomark _)
def Ag[Jm](ha:ME X a ta)(hb:ME X b tb):MT X (.Compare a [.NotEq] [b] pos) (mTst (mOp rdNe ta tb)):=eX qK rX ha hb (nomark _)
def kN[Jm](ha:ME X a ta)(hb:ME X b tb):MT X (.Compare a [.Is] [b] pos) (mTst (mOp (rdIs id) ta tb)):=eX jR kr ha hb (nomark _)
def Ah[Jm](ha:ME X a ta)(hb:ME X b tb)(hm:autoParam (TU .NotIn b=false) zA0):MT X (.Compare a [.NotIn] [b] pos) (mTst (mOp (rdIn true) ta tb)):=eX zY zX ha hb hm
variable {tA tB:TMT}{rest:List Tn}
def mt_w[Jm](h:MW X a tA):MT X a tA:=#[PW.pt h.out]
def tw[Jm](ha:MT X a tA):MW X (.BoolOp .And [a] pos) tA:=#[qq ha.out]
def Ai[Jm](ha:MT X a tA):MW X (.BoolOp .Or [a] pos) tA:=#[qr ha.out]
def mAnd(tA tB:TMT):TMT:=λz M R=>tA z M λk M1=>if k=true then tB z M1 R else R false M1
def mOr(tA tB:TMT):TMT:=λz M R=>tA z M λk M1=>if k=true then R true M1 else tB z M1 R
def tz[J:Jm](ha:MT X a tA)(hb:MW X (.BoolOp .And (b::rest) pos) tB):MW X (.BoolOp .And (a::b::rest) pos) (mAnd tA tB):=⟨(qt ha.out hb.out).anti λs H Q q=>by
 obtain⟨F,z,M,k,rs,R,h1,h2⟩:=q;refine#[F,z,M,k,rs,_,h1,λx M1 F1 H1 g1 hx m1=>?_];cases x with
 |true=>exact#[F1,z,M1,k.growM rs.mb g1,rs.growM k.bh g1 m1,R,hx,λy M2 F2 H2 g2 hy m2=>h2 y M2 F2 H2 (g1.trans g2) hy m2]
 |false=>exact h2 _ M1 F1 H1 g1 hx m1⟩
def Aj[J:Jm](ha:MT X a tA)(hb:MW X (.BoolOp .Or (b::rest) pos) tB):MW X (.BoolOp .Or (a::b::rest) pos) (mOr tA tB):=⟨(qu ha.out hb.out).anti λs H Q q=>by
 obtain⟨F,z,M,k,rs,R,h1,h2⟩:=q;refine#[F,z,M,k,rs,_,h1,λx M1 F1 H1 g1 hx m1=>?_];cases x with
 |false=>exact#[F1,z,M1,k.growM rs.mb g1,rs.growM k.bh g1 m1,R,hx,λy M2 F2 H2 g2 hy m2=>h2 y M2 F2 H2 (g1.trans g2) hy m2]
 |true=>exact h2 _ M1 F1 H1 g1 hx m1⟩
def mIf(tc:TMT)(ta tb:TME):TME:=λz M R=>tc z M λk M1=>if k=true then ta z M1 R else tb z M1 R
def fX[J:Jm]{tc:TMT}(hc:MT X c tc)(ha:ME X a ta)(hb:ME X b tb):ME X (.IfExp c a b pos) (mIf tc ta tb):=⟨(wy hc.out ha.out hb.out).anti λs H Q q=>by
 obtain⟨F,z,M,k,rs,R,h1,h2⟩:=q;refine#[F,z,M,k,rs,_,h1,λx M1 F1 H1 g1 hx m1=>?_];cases x with
 |true=>exact#[F1,z,M1,k.growM rs.mb g1,rs.growM k.bh g1 m1,R,hx,λd v M2 F2 H2 g2 hy rd m2=>h2 d v M2 F2 H2 (g1.trans g2) hy rd m2]
 |false=>exact#[F1,z,M1,k.growM rs.mb g1,rs.growM k.bh g1 m1,R,hx,λd v M2 F2 H2 g2 hy rd m2=>h2 d v M2 F2 H2 (g1.trans g2) hy rd m2]⟩
def mNil:TMA:=λ_ M R=>R [] M
def Ak(ta:TME)(tr:TMA):TMA:=λz M R=>ta z M λx M1=>tr z M1 λxs M2=>R (x::xs) M2
def bp[J:Jm]:MA X [] mNil:=⟨pa_nil.anti λs H Q q=>by
 obtain⟨F,z,M,k,rs,R,h1,h2⟩:=q;exact h2 [] [] M F H (GrowM.refl k.fh) h1 (reps_nil.mpr rfl) rs.rm⟩
variable{t:TMA}
def aH[J:Jm]{e:Tn}{te:TME}(ha:ME X e te)(hr:MA X es t)(hs:autoParam (zSE X e es) zA0):MA X (e::es) (Ak te t):=⟨(bD ha.out hr.out hs).anti λs H Q q=>by
 obtain⟨F,z,M,k,rs,R,h1,h2⟩:=q;refine#[F,z,M,k,rs,_,h1,λx u M1 F1 H1 g1 hx rx m1=>?_];refine#[F1,z,M1,k.growM rs.mb g1,rs.growM k.bh g1 m1,_,hx,λxs us M2 F2 H2 g2 hy ry m2=>?_];exact h2 _ _ M2 F2 H2 (g1.trans g2) hy (reps_cons.mpr #[_,_,rfl,rx.mono g2.ff,ry]) m2⟩
def mTup(t:TMA):TME:=λz M R=>t z M λxs M1=>xs.length<=1000/\R (.tup xs) M1
def tD[J:Jm]{x1}(h:MA X es t):ME X (.Tuple es x1 pos) (mTup t):=⟨(qX h.out).anti λs H Q q=>by
 obtain⟨F,z,M,k,rs,R,h1,h2⟩:=q;refine#[F,z,M,k,rs,_,h1,λds vs M1 F1 H1 g1 hx rx m1=>?_];have hl:=rx.length;refine#[sz (by rw[hl];exact hx.1),λp hp=>?_];have gn:=Grow.new g1.fh hp (.tup vs);exact h2 _ _ M1 _ _ (g1.trans gn.toM) hx.2 (rep_tupS.mpr #[p,vs,rfl,az,rx.mono (aN (g1.fh.free hp) _)]) (m1.grow gn)⟩
def mLst(t:TMA):TME:=λz M R=>t z M λxs M1=>xs.length<=1000/\∀p,p∉au M1->R (.ptr p) ((p,.lst xs)::M1)
def kO[J:Jm](h:MA X es t):ME X (.List es pos) (mLst t):=⟨(jV h.out).anti λs H Q q=>by
 obtain⟨F,z,M,k,rs,R,h1,h2⟩:=q;refine#[F,z,M,k,rs,_,h1,λds vs M1 F1 H1 g1 hx rx m1=>?_];have hl:=rx.length;refine#[sz (by rw[hl];exact hx.1),λp hp=>?_];exact h2 _ _ _ F1 _ (g1.trans (GrowM.new g1.fh hp)) (hx.2 p λz=>m1.here z hp) (rep_ptr.mpr rfl) (m1.new g1.fh hp #[vs,az,rx])⟩
def mCB(r:RDn)(t:TMA):TME:=λz M R=>t z M λds M1=>r ds λd=>R d M1
variable{x:F_}{p:Tw}
def Al[J:Jm]{e:Tn}{id:String}{r:List V->Hp->VK->Prop}{rd:RDn}(hc:bM X (.builtin id) r)(L:cw X.K r rd)(hm:X.mg x=t9)(hv:TN x=be (.builtin id))(ha:MA X (e::es) t)(hg:autoParam (Gl X x) zA0)(hn:autoParam (x≠"__name__") zA1)(d5:autoParam (zND x) zA1)
  (he:autoParam (zSE X e es) zA0) (c5:autoParam (zPL X pos es) zA0):ME X (.Call (.Name x p) (e::es) [] pos) (mCB rd t):=⟨(gM hc hg hm hv ha.out hn d5 he c5).anti λs H Q h=>by
 obtain⟨F,z,M,k,rs,R,h1,h2⟩:=h;refine#[F,z,M,k,rs,_,h1,λds vs M1 F1 H1 g1 hx rx m1=>?_];exact L ds vs F1 H1 _ Q g1.fh hx rx λd w F' H' g hd rd=>h2 d w M1 F' H' (g1.trans g.toM) hd rd (m1.grow g)⟩
def tE[Jm]{e:Tn}(hm:X.mg "len"=t9)(ha:MA X [e] t)(hg:autoParam (Gl X "len") zA0)(he:autoParam (zSE X e []) zA0):ME X (.Call (.Name "len" p) [e] [] pos) (mCB rdLen t):=Al jS sf hm PySem.boot_len ha hg K3 K3 he
def Am[J:Jm]{e:Tn}{T:String}{r:List V->Hp->VK->Prop}{rd:RDn}(hc:bM X (.type T) r)(L:cw X.K r rd)(hm:X.mg x=t9)(hv:TN x=be (.type T))(ha:MA X (e::es) t)(hg:autoParam (Gl X x) zA0)(hn:autoParam (x≠"__name__") zA1)(d5:autoParam (zND x) zA1)
  (he:autoParam (zSE X e es) zA0) (c5:autoParam (zPL X pos es) zA0):ME X (.Call (.Name x p) (e::es) [] pos) (mCB rd t):=⟨(jW hc hg hm hv ha.out hn d5 he c5).anti λs H Q h=>by
 obtain⟨F,z,M,k,rs,R,h1,h2⟩:=h;refine#[F,z,M,k,rs,_,h1,λds vs M1 F1 H1 g1 hx rx m1=>?_];exact L ds vs F1 H1 _ Q g1.fh hx rx λd w F' H' g hd rd=>h2 d w M1 F' H' (g1.trans g.toM) hd rd (m1.grow g)⟩
def tF[Jm](hm:X.mg "int"=t9)(ha:MA X [e] t)(hg:autoParam (Gl X "int") zA0)(he:autoParam (zSE X e []) zA0):ME X (.Call (.Name "int" p) [e] [] pos) (mCB rdInt t):=Am su sy hm PyProof.Rows.boot_int ha hg K3 K3 he
def df(M:MS)(d:D)(x:F_)(fs:List (F_×D)):Prop:=match d with|.ptr a=>mget M a=be (.ins x fs)|.obj y gs=>y=x/\gs=fs|_=>False
def mFld(x f:F_)(te:TME):TME:=λz M R=>te z M λd M1=>∃fs,df M1 d x fs/\∃d',fs.lookup f=be d'/\R d' M1
def il{K:Ex}{F H:Hp}{M:MS}{d:D}{v:V}{fs:List (F_×D)}(fh:Same F H)(rm:RepM K F H M)(rd:Rep K F d v)(h:df M d x fs):∃a C dx ws,v=.ref a/\nsIn K Pi x=be (be (.ref C))/\H a=be (.ins C dx ws)/\RepF K F fs ws:=by
 unfold df at h;split at h
 .rename_i a;obtain⟨C,dx,ws,n,h1,h2⟩:=rm.ok _ _ (bw h);exact#[a,C,dx,ws,rep_ptr.mp rd,n,h1,h2]
 .obtain⟨rfl,rfl⟩:=h;obtain⟨a,C,dx,ws,e,n,h1,h2⟩:=rep_obj.mp rd;exact#[a,C,dx,ws,e,n,fh _ _ h1,h2]
 .exact h.elim
def aF[J:Jm]{f:F_}(hA:ClsA X.K x f)(he:ME X e ta)(hb:autoParam (Tt e f X.env (Tv e X.env)=Tv e X.env) zA0):ME X (.Attribute e f pos) (mFld x f ta):=⟨(qU he.out hb).anti λs H Q q=>by
 obtain⟨C,hn,hc,hf⟩:=hA;obtain⟨F,z,M,k,rs,R,h1,h2⟩:=q;refine#[F,z,M,k,rs,_,h1,λd u M1 F1 H1 g1 hx rx m1=>?_];obtain⟨fs,hi,d',hl,hR⟩:=hx;obtain⟨a,C',dx,ws,rfl,g8,hH,rf⟩:=il g1.fh m1 rx hi;rw[hn]at g8;cases g8;obtain⟨v,l,rv⟩:=rf.look hl;exact#[a,C,dx,ws,v,rfl,hH,hc,hf,l,h2 d' v M1 F1 H1 g1 hR rv m1]⟩
end
abbrev XDM:=F_->List (F_×D)->MS->Prop
abbrev SpM:=List D->MS->(D->MS->Prop)->XDM->Prop
def lSpM(K:Ex)(S:SpM):Sp:=λvs H Q E=>∃F ds M,Same F H/\Reps K F ds vs/\RepM K F H M/\∃(R:D->MS->Prop) (RX:XDM),S ds M R RX/\(∀d v M' F' H',GrowM M M' F H F' H'->R d M'->Rep K F' d v->RepM K F' H' M'->Q v H')/\
 ∀x fs C od M' F' H',GrowM M M' F H F' H'->RX x fs M'->ErrD K F' x fs C od->RepM K F' H' M'->E (.ref C) od H'
abbrev CalMM(P:SZ)(w:Tp)(K:Ex)(mg:F_->Option KB)(base:Heap)(n:Nat)(x:F_)(ps:List F_)(S:SpM):Prop:=Cal P w K mg base n x ps (lSpM K S)
def ofX(S:SpX):SpM:=λds M R RX=>S ds (λd=>R d M) λx fs=>RX x fs M
def ofD(S:SpD):SpM:=λds M R _=>S ds λd=>R d M
variable{vs:List V}
def An{S:SpX}{Q:VK}{E:XK}(h:lSpM K (ofX S) vs H Q E):lSpX K S vs H Q E:=by
 obtain⟨F,ds,M,fh,rs,rm,R,RX,hS,q,qx⟩:=h;exact#[F,ds,fh,rs,_,_,hS,λd v F' H' g hd rd=>q d v M F' H' g.toM hd rd (rm.grow g),λx fs C od F' H' g hR er=>qx x fs C od M F' H' g.toM hR er (rm.grow g)]
def Ao{S:SpD}{Q:VK}{E:XK}(h:lSpM K (ofD S) vs H Q E):lSp K S vs H Q E:=by
 obtain⟨F,ds,M,fh,rs,rm,R,RX,hS,q,qx⟩:=h;exact#[F,ds,fh,rs,_,hS,λd v F' H' g hd rd=>q d v M F' H' g.toM hd rd (rm.grow g)]
section
variable {P:SZ}{w:Tp}{K:Ex}{mg:F_->Option KB}{base:Heap}{n:Nat}{x:F_}{ps:List F_}
def CalX.toM{S:SpX}(C:CalX P w K mg base n x ps S):CalMM P w K mg base n x ps (ofX S):=by
 obtain⟨f,fd,F,hb,hk,hm⟩:=C;exact#[f,fd,F.imp λvs H Q E h=>An h,hb,hk,hm]
def CalD.toM{S:SpD}(C:CalD P w K mg base n x ps S):CalMM P w K mg base n x ps (ofD S):=by
 obtain⟨f,fd,F,hb,hk,hm⟩:=C;exact#[f,fd,F.imp λvs H Q E h=>Ao h,hb,hk,hm]
def CalMth(P:SZ)(w:Tp)(K:Ex)(mg:F_->Option KB)(base:Heap)(n:Nat)(x m:F_)(ps:List F_)(sp:Sp):Prop:=
 ∃C f fd,nsIn K Pi x=be (be (.ref C))/\Cls K C/\Meth K C m f/\FnOk P w K mg base (CX1 P w) n f fd ps sp/\Binds K fd ps []
variable{sp:Sp}
def Cal.mono{n':Nat}(h:Cal P w K mg base n x ps sp)(hn:n<=n'):Cal P w K mg base n' x ps sp:=by
 obtain⟨f,fd,F,h⟩:=h;exact#[f,fd,F.mono hn,h]
def Cal.imp{KG:Sp}(h:Cal P w K mg base n x ps sp)(i:∀vs H Q E,KG vs H Q E->sp vs H Q E):Cal P w K mg base n x ps KG:=by
 obtain⟨f,fd,F,h⟩:=h;exact#[f,fd,F.imp i,h]
def CalMth.imp{m:F_}{KG:Sp}(h:CalMth P w K mg base n x m ps sp)(i:∀vs H Q E,KG vs H Q E->sp vs H Q E):CalMth P w K mg base n x m ps KG:=by
 obtain⟨C,f,fd,h1,h2,h3,h4,h5⟩:=h;exact#[C,f,fd,h1,h2,h3,h4.imp i,h5]
end
def XOkM(X:Cx)[J:Jm]:Prop:=∀(σ:L2.St) (z:SD) (M:MS) (F H:Hp) (s:Os) (e C:KF) (od:Option KF) (x:F_) (fs:List (F_×D)),Inv X [] σ H s->Kept J.B J.F0 F H->RepZ X.K J.B F H z σ M->J.RM z M x fs->ErrD X.K F x fs C od->Exd X H s e C od->X.xe (.ref e) s
def EX(X:Cx)[J:Jm](z:SD)(σ:L2.St):XK:=λCv od H'=>∃x fs C M' F',Cv=.ref C/\Kept J.B J.F0 F' H'/\RepZ X.K J.B F' H' z σ M'/\J.RM z M' x fs/\ErrD X.K F' x fs C od
def XOkM.out{X:Cx}[J:Jm](hx:XOkM X)(d9:X.ex=[]){pins:List (KF×TL)}{σ:L2.St}{s s':Os}{ev:KB}(I:Inv X pins σ H s)
  (h:CX1 X.prog X.w X.stack H s (EX X z σ) ev s'):X.xe ev s':=by
 obtain⟨e,C,od,T,H',rfl,G_,hb,un,hok,N_,ne,nT,He,HT,x,fs,C',M',F',hC,kk,rr,hR,er⟩:=h;cases hC;have I':Inv X pins σ H' s':=I.call' G_ un hok hb (λb z=>absurd z K');exact hx σ z M' F' H' s' e C od x fs (Inv.nopins I') kk rr hR er #[He,cF I d9 ne,pn_free I ne,.inr #[T,N_,cF I d9 nT,HT,pn_free I nT]]
section
variable {X:Cx}[J:Jm]{a b c e o:Tn}{ta tb te:TME}{pos p apos cpos:Tw}{n m:Nat}{ps:List F_}{S:SpM}{x:F_}{es:List Tn}{t:TMA}
def Ap(S:SpM)(t:TMA):TME:=λz M R=>t z M λds M1=>S ds M1 R λx fs M'=>J.RM z M' x fs
variable{ds:List My.D}{vs:List V}
def im{σ:L2.St}{z:SD}{M M1:MS}{F H F1 H1:Hp}{Q:VK}{R:D->MS->Prop}(k:Kept J.B J.F0 F H)(rs:RepZ X.K J.B F H z σ M)(g1:GrowM M M1 F H F1 H1)(m1:RepM X.K F1 H1 M1)(rx:Reps X.K F1 ds vs)
  (hS:S ds M1 R λx fs M'=>J.RM z M' x fs) (h2:∀d v M' F' H',GrowM M M' F H F' H'->R d M'->Rep X.K F' d v->RepM X.K F' H' M'->Q v H'):lSpM X.K S vs H1 Q (EX X z σ):=
 #[F1,ds,M1,g1.fh,rx,m1,R,_,hS,λd v M' F' H' g hd rd m'=>h2 d v M' F' H' (g1.trans g) hd rd m',λy fs C od M' F' H' g hR er m'=>#[y,fs,C,M',F',rfl,(k.growM rs.mb g1).growM (rs.growM k.bh g1 m1).mb g,(rs.growM k.bh g1 m1).growM (k.growM rs.mb g1).bh g m',hR,er]]
def aR(C:CalMM X.prog X.w X.K X.mg X.base n x ps S)(hx:XOkM X)(hr:Room m X.A)(ha:MA X (e::es) t)(d9:autoParam (X.ex=[]) zA0)(hg:autoParam (Gl X x) zA0)(hn:autoParam (n<=m) zA1)(d5:autoParam (zND x) zA1)
  (he:autoParam (zSE X e es) zA0) (c5:autoParam (zPL X pos es) zA0):
  ME X (.Call (.Name x p) (e::es) [] pos) (Ap S t):=by
 obtain⟨f,fd,F,hb,hk,hm⟩:=C;refine#[λpins s σ H Q I h=>?_];obtain⟨Fr,z,M,k,rs,R,h1,h2⟩:=h;refine Tz (cv I hg hm ?_ d5);refine callWith_K (h₀:=X.base) I.ok.mod.kin hk (thn (ha.out pos pins s σ H (λvs H1=>lSpM X.K S vs H1 Q (EX X z σ)) I #[Fr,z,M,k,rs,_,h1,λds vs M1 F1 H1 g1 hx rx m1=>im k rs g1 m1 rx hx h2]) λus s1 hh=>#[hh.elim λ_ h=>h.elim λ_ h=>h.1.kIn,?_]) he c5;obtain⟨vs,H1,I1,r,q⟩:=hh;exact hZ F (hr.mono hn) hb (λe s' hq=>hx.out d9 I1 hq) I1 r q
def tG(cs:List F_)(m:F_)(S:F_->SpM)(to:TME)(t:TMA):TME:=λz M R=>to z M λd M1=>∃x,x∈cs/\∃fs,df M1 d x fs/\fs.lookup m=t9/\t z M1 λds M2=>S x (d::ds) M2 R λx fs M'=>J.RM z M' x fs
variable{cs:List F_}{pl:U9 Bool}
def aS{nm:F_}{S:F_->SpM}(C:∀x,x∈cs->CalMth X.prog X.w X.K X.mg X.base n x nm ps (lSpM X.K (S x)))(hx:XOkM X)(hr:Room m X.A)(ho:ME X o te)(ha:MA X (e::es) t)(d9:autoParam (X.ex=[]) zA0)(hn:autoParam (n<=m) zA1)
  (m4:autoParam (zSE X e es) zA0) (c5:autoParam (zPL X pos es) zA0)
  (ht:Tv (.Call (.Attribute o nm apos) (e::es) [] pos) X.env=(do
   let ov <-Tv o X.env
   Ul apos.atName
   let (f,first) <-T1 [ov] (UB ov nm pl)
   Vd pos f first (Ua pos (Tr (e::es) X.env)) (Uv pos (T7 [] X.env))):=by rfl):
  ME X (.Call (.Attribute o nm apos) (e::es) [] pos) (tG cs nm S te t):=by
 refine#[λpins s σ H Q I h=>?_];obtain⟨Fr,z,M,k,rs,R,h1,h2⟩:=h;refine methodCall_KW (pl:=pl) (thn (ho.out pins s σ H (λv H1=>∃d M1 F1,GrowM M M1 Fr H F1 H1/\Rep X.K F1 d v/\RepM X.K F1 H1 M1/\∃x,x∈cs/\∃fs,df M1 d x fs/\fs.lookup nm=t9/\t z M1 λds M2=>S x (d::ds) M2 R λx fs M'=>J.RM z M' x fs) I #[Fr,z,M,k,rs,_,h1,λd v M1 F1 H1 g1 hd rd m1=>#[d,M1,F1,g1,rd,m1,hd]]) λu s1 hh=>?_) ht;obtain⟨v,H1,I1,rv,d,M1,F1,g1,rd,m1,x,Oq,fs,hi,hl,hq⟩:=hh;obtain⟨C',f,fd,hns,g9,KL,F,hb⟩:=C x Oq;obtain⟨a,C2,dx,ws,rfl,m_,hH,rf⟩:=il g1.fh m1 rd hi;rw[hns]at m_;cases m_;obtain rfl:u=Value.ref a:=rv;refine jU I1 hH g9 KL (rf.none hl) ?_;refine callWith_K (first:=[.ref a]) (h₀:=X.base) I.ok.mod.kin KL.kp (thn (ha.out pos pins s1 σ H1 (λvs H2=>lSpM X.K (S x) (.ref a::vs) H2 Q (EX X z σ)) I1 #[F1,z,M1,k.growM rs.mb g1,rs.growM k.bh g1 m1,_,hq,λds vs M2 F2 H2 g2 hx rx m2=>im k rs (g1.trans g2) m2 (reps_cons.mpr #[_,_,rfl,rd.mono g2.ff,rx]) hx h2]) λus s2 hh=>#[hh.elim λ_ h=>h.elim λ_ h=>h.1.kIn,?_]) m4 c5;obtain⟨vs,H2,I2,r,q2⟩:=hh;exact hZ (us:=.ref a::us) (vs:=.ref a::vs) F (hr.mono hn) hb (λe s' hq=>hx.out d9 I2 hq) I2 (.cons rfl r) q2
def cG{nm:F_}{S:F_->SpM}(C:∀x,x∈cs->CalMth X.prog X.w X.K X.mg X.base n x nm ps (lSpM X.K (S x)))(hx:XOkM X)(hr:Room m X.A)(ho:ME X o te)(d9:autoParam (X.ex=[]) zA0)(hn:autoParam (n<=m) zA1)
  (ht:Tv (.Call (.Attribute o nm apos) [] [] pos) X.env=(do
   let ov <-Tv o X.env
   Ul apos.atName
   let (f,first) <-T1 [ov] (UB ov nm pl)
   Vd pos f first (Ua pos (Tr [] X.env)) (Uv pos (T7 [] X.env))):=by rfl):
  ME X (.Call (.Attribute o nm apos) [] [] pos) (tG cs nm S te mNil):=by
 refine#[λpins s σ H Q I h=>?_];obtain⟨Fr,z,M,k,rs,R,h1,h2⟩:=h;refine methodCall_KW (pl:=pl) (thn (ho.out pins s σ H (λv H1=>∃d M1 F1,GrowM M M1 Fr H F1 H1/\Rep X.K F1 d v/\RepM X.K F1 H1 M1/\∃x,x∈cs/\∃fs,df M1 d x fs/\fs.lookup nm=t9/\S x [d] M1 R λx fs M'=>J.RM z M' x fs) I #[Fr,z,M,k,rs,_,h1,λd v M1 F1 H1 g1 hd rd m1=>#[d,M1,F1,g1,rd,m1,hd]]) λu s1 hh=>?_) ht;obtain⟨v,H1,I1,rv,d,M1,F1,g1,rd,m1,x,Oq,fs,hi,hl,hq⟩:=hh;obtain⟨C',f,fd,hns,g9,KL,F,hb⟩:=C x Oq;obtain⟨a,C2,dx,ws,rfl,m_,hH,rf⟩:=il g1.fh m1 rd hi;rw[hns]at m_;cases m_;obtain rfl:u=Value.ref a:=rv;refine jU I1 hH g9 KL (rf.none hl) ?_;refine callWith_K0 (first:=[.ref a]) I1.kIn KL.kp (hZ (E:=EX X z σ) (us:=[.ref a]) (vs:=[.ref a]) F (hr.mono hn) hb (λe s' hq=>hx.out d9 I1 hq) I1 (.cons rfl .nil) ?_);exact im k rs g1 m1 (eK rd) hq h2
def make_of{C:KF}{S:SiD}{x:F_}{σ:L2.St}{z:SD}{M M1:MS}{F H F1 H1:Hp}{a dx:KF}{Q:VK}{E:XK}{T:List (F_×D)->Prop}(g1:GrowM M M1 F H F1 H1)(m1:RepM X.K F1 H1 M1)(rx:Reps X.K F1 ds vs)(hS:S ds T)
  (ha:H1 a=t9) (o7:H1 dx=t9) (j8:dx≠a) (q:∀fs ws dx F' H',Grow F1 H1 F' H'->T fs->H' a=be (.ins C dx ws)->F' a=t9->RepF X.K F' fs ws->Q (.ref a) H'):
  lSi X.K C S (.ref a::(vs++[])) (upd (upd H1 dx (.own a)) a (.ins C dx [])) (λv H2=>v=.non/\Q (.ref a) H2) E:=
 #[a,dx,vs,H1,F1,ds,by rw[Hl],rfl,ha,o7,j8,g1.fh,rx,_,hS,λfs ws Kn F' H' g hR e8 i8 rf=>#[rfl,q fs ws Kn F' H' g hR e8 i8 rf]]
def Aq(x:F_)(S:SiD)(t:TMA):TME:=λz M R=>t z M λds M1=>S ds λfs=>R (.obj x fs) M1
def io{S:SiD}(M:CalM X.prog X.w X.K X.mg X.base n x ps S)(hr:Room m X.A)(ha:MA X (e::es) t)(hg:autoParam (Gl X x) zA0)(hn:autoParam (n+1<=m) zA1)(d5:autoParam (zND x) zA1)
  (he:autoParam (zSE X e es) zA0) (c5:autoParam (zPL X pos es) zA0):
  ME X (.Call (.Name x p) (e::es) [] pos) (Aq x S t):=by
 obtain⟨C,f,fd,hns,j9,mk,F,hb⟩:=M;refine#[(gL mk F (hr.mono hn) hg j9 hb .nil eB ha.out d5 he c5).anti λs H Q q=>?_];obtain⟨F,z,M,k,rs,R,h1,h2⟩:=q;refine#[F,z,M,k,rs,_,h1,λds vs M1 F1 H1 g1 hx rx m1=>?_];intro a dx ha o7 j8;refine make_of (σ:=s) (z:=z) (x:=x) g1 m1 rx hx ha o7 j8 λfs ws dx F' H' g hR e8 i8 rf=>?_;have s1:Same F' (upd F' a (.ins C dx ws)):=aN i8 _;have g2:Grow F1 H1 (upd F' a (.ins C dx ws)) H':=⟨g.ff.trans s1,λb o q=>by
  by_cases hb:b=a
  .subst hb;rw[az]at q;cases q;exact e8
  .rw[aq hb]at q;exact g.fh b o q,g.hh,λb q1 q2=>by
  by_cases hb:b=a
  .subst hb;exact absurd ha q2
  .rw[aq hb];exact g.out b q1 q2⟩
 exact h2 (.obj x fs) (.ref a) M1 (upd F' a (.ins C dx ws)) H' (g1.trans g2.toM) hR (rep_obj.mpr #[a,C,dx,ws,rfl,hns,az,RepF.mono s1 fs ws rf]) (m1.grow g2)
def Ar(x:F_)(S:SiD)(t:TMA):TME:=λz M R=>t z M λds M1=>S ds λfs=>∀a,a∉au M1->R (.ptr a) ((a,.ins x fs)::M1)
def As{S:SiD}(M:CalM X.prog X.w X.K X.mg X.base n x ps S)(hr:Room m X.A)(ha:MA X (e::es) t)(hg:autoParam (Gl X x) zA0)(hn:autoParam (n+1<=m) zA1)(d5:autoParam (zND x) zA1)
  (he:autoParam (zSE X e es) zA0) (c5:autoParam (zPL X pos es) zA0):
  ME X (.Call (.Name x p) (e::es) [] pos) (Ar x S t):=by
 obtain⟨C,f,fd,hns,j9,mk,F,hb⟩:=M;refine#[(gL mk F (hr.mono hn) hg j9 hb .nil eB ha.out d5 he c5).anti λs H Q q=>?_];obtain⟨F,z,M,k,rs,R,h1,h2⟩:=q;refine#[F,z,M,k,rs,_,h1,λds vs M1 F1 H1 g1 hx rx m1=>?_];intro a dx ha o7 j8;refine make_of (σ:=s) (z:=z) (x:=x) g1 m1 rx hx ha o7 j8 λfs ws dx F' H' g hR e8 i8 rf=>?_;have na:a∉au M1:=λz=>m1.here z ha;have m2:=m1.grow g;refine h2 (.ptr a) (.ref a) _ F' H' (g1.trans #[g.ff,g.fh,λb o _ q=>g.hh b o q,λb _ q1 q2=>g.out b q1 q2,λb q=>?_]) (hR a na) (rep_ptr.mpr rfl) #[HE.mpr #[na,m2.nd],λb o q=>?_,λb q=>?_]
 .rcases GP.mp q with q|q
  .exact .inr (by rw[q];exact ha)
  .exact .inl q
 .rcases GP.mp q with q|q
  .cases q;exact#[C,dx,ws,hns,e8,rf]
  .exact m2.ok b o q
 .rcases GP.mp q with q|q
  .rw[q];exact i8
  .exact m2.fr b q
end
section
variable {X:Cx}{x:F_}{e:Tn}{es:List Tn}{t:TA}{p cpos pos:Tw}{n m:Nat}{ps:List F_}{S:SiD}
def ip(X:Cx)(σ:L2.St)(F1 H1:Hp)(x:F_)(fs:List (F_×D)):Prop:=∀F' H' s' e C od,Inv X [] σ H' s'->Grow F1 H1 F' H'->ErrD X.K F' x fs C od->Exd X H' s' e C od->X.xe (.ref e) s'
def Au(M:CalE X.prog X.w X.K X.mg X.base n x ps S)(hr:Room m X.A)(hc:X.calm=true)(ha:PA X (e::es) t)(d9:autoParam (X.ex=[]) zA0)(hg:autoParam (Gl X x) zA0)(hn:autoParam (n+1<=m) zA1)(d5:autoParam (zND x) zA1)
  (he:autoParam (zSE X e es) zA0) (c5:autoParam (zPL X cpos es) zA0):
  PS X (.Raise (be (.Call (.Name x p) (e::es) [] cpos)) t9 pos) (λ_ σ H=>t σ H λvs H1=>vs.length<=1000/\∃F1 ds,Same F1 H1/\Reps X.K F1 ds vs/\∃T:List (F_×D)->Prop,S ds T/\∀fs,T fs->ip X σ F1 H1 x fs):=by
 obtain⟨C,N,bm,f,fd,k,hi,LX,Fn,hb⟩:=M;intro pins s σ H D I h;obtain⟨nm,q,bs,sn,sub,ab,col,dd,k0,k1,k2,k3,k5,lk⟩:=k.obj;refine kj (nm:=nm) (q:=q) (C:=C) (N:=N) (bs:=bs) (bm:=bm) (hdct:=true) (sn:=sn) (sub:=sub) (ab:=ab) (col:=col) (dd:=dd) (k0:=k0) (k1:=k1) (k2:=k2) (k3:=k3) (k5:=k5) (newId:="ValueError.__new__") k.base (I.ok.hd hc) ?_;refine Tz (cv I hg k.mg ?_ d5);refine callWith_K (h₀:=X.base) I.ok.mod.kin k.kp (thn (ha cpos pins s σ H _ I h) λus s1 hh=>#[hh.elim λ_ h=>h.elim λ_ h=>h.1.kIn,?_]) he c5;obtain⟨vs,H1,I1,r,hl,F1,ds,Ot,rx,T,hS,hT⟩:=hh;have hC:=I1.kIn _ _ lk;have RJ:us.length<=sizeLine:=by rw[<-L2.Vals.length r];exact sz hl
 refine yo (g:=s1.gens) (d:=s1.drawn) (t:=s1.toks) (os:=s1.os) (rest:=us) I1.kIn (tail_of_in I1.kIn k.tail) hC hi (beq_iff_eq.mp LX) (λh' ea hm=>?_) RJ;have I2:=Inv.newx I1 d9 hm;have r2:Vals (V.ref ea::vs) (Value.ref ea::us):=.cons rfl r;have He:H1 ea=none:=fV I1.hok hm.new;have w6:lEi X.K C S (V.ref ea::vs) (upd H1 ea (XN ea C t9)) (λv H'=>v=.non/\∃fs od F',Grow F1 H1 F' H'/\ip X σ F1 H1 x fs/\H' ea=be (XN ea C od)/\F' ea=t9/\ErrF X.K F' fs od) (λ_ _ _=>False):=
  #[ea,vs,H1,F1,ds,rfl,rfl,He,Ot,rx,_,hS,λfs od F' H' g hR h1 h2 h3=>#[rfl,fs,od,F',g,hT fs hR,h1,h2,h3]]
 have b7:(Value.ref ea::us).length=ps.length:=by rw[<-L2.Vals.length r2];exact Fn.len _ _ _ _ w6
 have g5:=hb {s1 with heap:=h'} (Value.ref ea::us) I2.kIn (by rw[Hl];exact b7);rw[Hl]at g5;refine T_ (T8 (Fn.run _ X.stack _ _ #[Value.ref ea::us,[]] (Value.ref ea::us) _ _ _ ((hr.mono hn).make C us []) (I2.env0.make C us []) g5 r2 w6) λrr s' hq=>?_);cases rr with
 |error e'=>exact(eB (X:=X) pins σ _ _ e' s' I2 hq:X.xe e' s')
 |ok fl=>
  cases fl with
  |next=>exact False.elim hq
  |brk=>exact False.elim hq
  |cont=>exact False.elim hq
  |ret u=>
   obtain⟨v,H',I3,rv,rfl,fs,od,F',g,hR,r_,RK,er⟩:=I2.after hq;obtain rfl:u=Value.none:=rv;refine#[rfl,?_];have e0:X.s₀.heap.get? ea=none:=cF I1 d9 hm.new;have I4:=Inv.drop I3 r_ e0;obtain⟨ta,sl,j3⟩:=XN.get I3.hok r_;have g4:Grow F1 H1 F' (del H' ea):=⟨g.ff,λb o q=>by
    have:b≠ea:=λz=>by rw[z,RK]at q;cases q
    rw[cn this];exact g.fh b o q,λb o q=>by
    have:b≠ea:=λz=>by rw[z,He]at q;cases q
    rw[cn this];exact g.hh b o q,g.out⟩
   refine#[ea,ta,od,sl,rfl,I3.kIn _ _ lk,j3,?_];exact hR F' (del H' ea) s' ea C od (Inv.nopins I4) g4 #[k.ns,er] #[fW,e0,pn_free I1 hm.new,.inl #[sl,_,j3,rfl]]
def Av(h:∃C N bm,ErrK X.K X.mg x C N bm/\ErrN X.K N)(hc:X.calm=true)(ha:PA X (e::es) t)(d9:autoParam (X.ex=[]) zA0)(hg:autoParam (Gl X x) zA0)(d5:autoParam (zND x) zA1)
  (he:autoParam (zSE X e es) zA0) (c5:autoParam (zPL X cpos es) zA0):
  PS X (.Raise (be (.Call (.Name x p) (e::es) [] cpos)) t9 pos) (λ_ σ H=>t σ H λvs H1=>vs.length<=1000/\∃F1,Same F1 H1/\ip X σ F1 H1 x []):=by
 obtain⟨C,N,bm,k,kn⟩:=h;intro pins s σ H D I h;obtain⟨nm,q,bs,sn,sub,ab,col,dd,k0,k1,k2,k3,k5,lk⟩:=k.obj;refine kj (nm:=nm) (q:=q) (C:=C) (N:=N) (bs:=bs) (bm:=bm) (hdct:=true) (sn:=sn) (sub:=sub) (ab:=ab) (col:=col) (dd:=dd) (k0:=k0) (k1:=k1) (k2:=k2) (k3:=k3) (k5:=k5) (newId:="ValueError.__new__") k.base (I.ok.hd hc) ?_;refine Tz (cv I hg k.mg ?_ d5);refine callWith_K (h₀:=X.base) I.ok.mod.kin k.kp (thn (ha cpos pins s σ H _ I h) λus s1 hh=>#[hh.elim λ_ h=>h.elim λ_ h=>h.1.kIn,?_]) he c5;obtain⟨vs,H1,I1,r,hl,F1,Ot,hR⟩:=hh;have hC:=I1.kIn _ _ lk;obtain⟨hp,gg,dr,tk,os⟩:=s1;refine Vi PySem.F.excBase_ValueError (tail_of_in I1.kIn k.tail) hC (.of_isNs (isNs_of_in I1.kIn kn.ok)) (nsMap_none_of_in I1.kIn kn.ok kn.no) (λh' ea hm=>?_) (by show us.length<=_;rw[<-L2.Vals.length r];exact sz hl);obtain⟨ta,h1,h2,h3⟩:=hm.there;have I2:Inv X pins σ H1 #[h',gg,dr,tk,os]:=I1.kept (t':=tk) hm.keeps;refine#[ea,ta,t9,[].toArray,rfl,hm.keeps _ _ hC,h1,?_];exact hR F1 H1 _ ea C t9 (Inv.nopins I2) (Grow.refl Ot) #[k.ns,[],repf_nil.mpr rfl,.inl #[rfl,rfl]] #[fV I1.hok hm.new,cF I1 d9 hm.new,pn_free I1 hm.new,.inl #[[].toArray,_,h1,rfl]]
end
section
variable {X:Cx}[J:Jm]{x:F_}{e:Tn}{es:List Tn}{t:TMA}{p cpos pos:Tw}{n m:Nat}{ps:List F_}{S:SiD}
def Aw(x:F_)(S:SiD)(t:TMA):TMS:=λ_ z M=>t z M λds M1=>ds.length<=1000/\S ds λfs=>J.RM z M1 x fs
def tH{σ:L2.St}{z:SD}{M M1:MS}{F H F1 H1:Hp}{fs:List (F_×D)}(hx:XOkM X)(k:Kept J.B J.F0 F H)(rs:RepZ X.K J.B F H z σ M)(g1:GrowM M M1 F H F1 H1)(m1:RepM X.K F1 H1 M1)(hR:J.RM z M1 x fs):ip X σ F1 H1 x fs:=λF' H' s' e C od I g er ex=>
 hx σ z M1 F' H' s' e C od x fs I ((k.growM rs.mb g1).grow g) ((rs.growM k.bh g1 m1).growM (k.growM rs.mb g1).bh g.toM (m1.grow g)) hR er ex
def Ax(M:CalE X.prog X.w X.K X.mg X.base n x ps S)(hr:Room m X.A)(hx:XOkM X)(hc:X.calm=true)(ha:MA X (e::es) t)(d9:autoParam (X.ex=[]) zA0)(hg:autoParam (Gl X x) zA0)(hn:autoParam (n+1<=m) zA1)(d5:autoParam (zND x) zA1)
  (he:autoParam (zSE X e es) zA0) (c5:autoParam (zPL X cpos es) zA0):
  MSt X (.Raise (be (.Call (.Name x p) (e::es) [] cpos)) t9 pos) (Aw x S t):=⟨(Au M hr hc ha.out d9 hg hn d5 he c5).anti λE s H q=>by
 obtain⟨F0,F,z,M,k,rs,ED,h,ee⟩:=q;exact#[F,z,M,k.kf,rs,_,h,λds vs M1 F1 H1 g1 f8 rx m1=>#[by rw[rx.length];exact f8.1,F1,ds,g1.fh,rx,_,f8.2,λfs hR=>tH hx k.kf rs g1 m1 hR]]⟩
def Ay(x:F_)(t:TMA):TMS:=λ_ z M=>t z M λds M1=>ds.length<=1000/\J.RM z M1 x []
def Az(h:∃C N bm,ErrK X.K X.mg x C N bm/\ErrN X.K N)(hx:XOkM X)(hc:X.calm=true)(ha:MA X (e::es) t)(d9:autoParam (X.ex=[]) zA0)(hg:autoParam (Gl X x) zA0)(d5:autoParam (zND x) zA1)
  (he:autoParam (zSE X e es) zA0) (c5:autoParam (zPL X cpos es) zA0):
  MSt X (.Raise (be (.Call (.Name x p) (e::es) [] cpos)) t9 pos) (Ay x t):=⟨(Av h hc ha.out d9 hg d5 he c5).anti λE s H q=>by
 obtain⟨F0,F,z,M,k,rs,ED,h,ee⟩:=q;exact#[F,z,M,k.kf,rs,_,h,λds vs M1 F1 H1 g1 f8 rx m1=>#[by rw[rx.length];exact f8.1,F1,g1.fh,tH hx k.kf rs g1 m1 f8.2]]⟩
end
section
variable {X:Cx}[J:Jm]{a b c e:Tn}{ta tb tc te:TME}{pos:Tw}{st:SL}{rest:List SL}{t u:TMS}
def AA:TMS:=λE z M=>E.nx z M
def mSeq(t u:TMS):TMS:=λE z M=>t {E with nx:=u E} z M
def bq:MSs X [] AA:=⟨pss_nil.anti λE s H q=>by
 obtain⟨F0,F,z,M,k,rs,ED,h,e⟩:=q;exact e.nx z s M F H k h rs⟩
def ar(h1:MSt X st t)(h2:MSs X rest u):MSs X (st::rest) (mSeq t u):=⟨(dW h1.out h2.out).anti λE s H q=>by
 obtain⟨F0,F,z,M,k,rs,ED,h,e⟩:=q;exact#[F0,F,z,M,k,rs,{ED with nx:=u ED},h,#[λz' s' M' F' H' k' hz r'=>#[F0,F',z',M',k',r',ED,hz,e],e.rt,e.bk,e.ct]]⟩
def ax(h1:MSt X st t):MSs X [st] t:=#[qv h1.out]
def mRet(te:TME):TMS:=λE z M=>te z M E.rt
def aJ(he:ME X e te):MSt X (.Return (be e) pos) (mRet te):=⟨(qw he.out).anti λE s H q=>by
 obtain⟨F0,F,z,M,k,rs,ED,h,e⟩:=q;exact#[F,z,M,k.kf,rs,_,h,λd v M' F' H' g hd rd m'=>e.rt d v M' F' H' (k.growM rs.mb g) hd rd m' (rs.growM k.bh g m').mb]⟩
def AB(te:TME):TMS:=λE z M=>te z M λ_ M1=>E.nx z M1
def bX(he:ME X e te)(hs:autoParam (TJ e t9 pos.line X.env=pure false) zA0):MSt X (.Expr e pos) (AB te):=⟨(jK he.out hs).anti λE s H q=>by
 obtain⟨F0,F,z,M,k,rs,ED,h,e⟩:=q;exact#[F,z,M,k.kf,rs,_,h,λd v M' F' H' g hd rd m'=>e.nx z s M' F' H' (k.growM rs.mb g) hd (rs.growM k.bh g m')]⟩
def mIfS(c:TMT)(t u:TMS):TMS:=λE z M=>c z M λb M1=>if b=true then t E z M1 else u E z M1
variable{l r:List SL}
def bE{c:Tn}{tc:TMT}(hc:MT X c tc)(ha:MSs X l t)(hb:MSs X r u):MSt X (.If c l r pos) (mIfS tc t u):=⟨(qy hc.out ha.out hb.out).anti λE s H q=>by
 obtain⟨F0,F,z,M,k,rs,ED,h,e⟩:=q;refine#[F,z,M,k.kf,rs,_,h,λb M1 F1 H1 g hk m1=>?_];cases b with
 |true=>exact#[F0,F1,z,M1,k.growM rs.mb g,rs.growM k.bh g m1,ED,hk,e]
 |false=>exact#[F0,F1,z,M1,k.growM rs.mb g,rs.growM k.bh g m1,ED,hk,e]⟩
def mIfJ(c:TMT)(t u:TMS):TMS:=λE z M=>∃J:SD->MS->Prop,(c z M λb M1=>if b=true then t {E with nx:=J} z M1 else u {E with nx:=J} z M1)/\∀z' M',J z' M'->E.nx z' M'
def eY{c:Tn}{tc:TMT}(hc:MT X c tc)(ha:MSs X l t)(hb:MSs X r u):MSt X (.If c l r pos) (mIfJ tc t u):=⟨(bE hc ha hb).out.anti λE s H q=>by
 obtain⟨F0,F,z,M,k,rs,ED,⟨J,h,j⟩,e⟩:=q;exact#[F0,F,z,M,k,rs,{ED with nx:=J},h,#[λz' s' M' F' H' k' hz r'=>e.nx z' s' M' F' H' k' (j z' M' hz) r',e.rt,e.bk,e.ct]]⟩
def mSet(i:Nat)(te:TME):TMS:=λE z M=>∃P:D->MS->Prop,te z M P/\∀d M',P d M'->E.nx (z.set i (be d)) M'
def aD(i:Nat){x:F_}{b_:Tw}(hN:X.N.Nodup)(he:ME X e te)(hi:autoParam (X.N[i]?=be x) zA0)(hx:autoParam (Loc X.env.scope x) zA4)(hs:autoParam (TJ e (be (.Name x b_)) pos.line X.env=pure false) zA0)
  (hf:autoParam (zFN X x) zA2):MSt X (.Assign [.Name x b_] e pos) (mSet i te):=⟨(gI hN hi hx he.out hs hf).anti λE s H q=>by
 obtain⟨F0,F,z,M,k,rs,ED,⟨P,h,j⟩,e⟩:=q;exact#[F,z,M,k.kf,rs,P,h,λd v M' F' H' g hd rd m'=>e.nx _ _ M' F' H' (k.growM rs.mb g) (j d M' hd) ((rs.growM k.bh g m').set rd)]⟩
def AC(x f:F_)(to te:TME):TMS:=λE z M=>te z M λd M1=>to z M1 λo M2=>match o with|.ptr a=>∃fs,mget M2 a=be (.ins x fs)/\fs.length<1000/\E.nx z (mput M2 a (.ins x (putD f d fs)))|_=>False
def bY{x f:F_}{o:Tn}{to:TME}{b_:Tw}(hA:ClsA X.K x f)(ho:ME X o to)(he:ME X e te)(hs:autoParam (TJ e (be (.Attribute o f b_)) pos.line X.env=pure false) zA0):
  MSt X (.Assign [.Attribute o f b_] e pos) (AC x f to te):=⟨(qV ho.out he.out hs).anti λE s H q=>by
 obtain⟨C,hn,hc,hf⟩:=hA;obtain⟨F0,F,z,M,k,rs,ED,h,ee⟩:=q;refine#[F,z,M,k.kf,rs,_,h,λd v M1 F1 H1 g1 hx rd m1=>?_];have k1:=k.growM rs.mb g1;have m9:=rs.growM k.bh g1 m1;refine#[F1,z,M1,k1.kf,m9,_,hx,λo' v' M2 F2 H2 g2 hy ro m2=>?_];have k2:=k1.growM m9.mb g2;have Lz:=m9.growM k1.bh g2 m2;split at hy
 .rename_i a;obtain⟨fs,hm,hl,Le⟩:=hy;obtain⟨C',dx,ws,g8,hH,rf⟩:=m2.ok _ _ (bw hm);rw[hn]at g8;cases g8;have fa:=m2.fr a (bW (bw hm));refine#[a,C,dx,ws,rep_ptr.mp ro,hH,hc,hf,by rw[rf.length];exact hl,?_];have m3:RepM X.K F2 (upd H2 a (.ins C dx (putF f v ws))) (mput M2 a (.ins x (putD f d fs))):=m2.put hm #[C,dx,_,hn,az,RepF.put (rd.mono g2.ff) rf];have g3:GrowM M2 (mput M2 a (.ins x (putD f d fs))) F2 H2 F2 (upd H2 a (.ins C dx (putF f v ws))):=GrowM.put k2.fh fa hm;exact ee.nx z s _ F2 _ (k2.growM Lz.mb g3) Le (Lz.growM k2.bh g3 m3)
 .exact hy.elim⟩
def AD(c:TMT)(tb:TMS):TMS:=λE z M=>∃W:Nat->SD->MS->Prop,(∃m,W m z M)/\∀m z M,W m z M->
 c z M λb M1=>if b=true then tb {E with nx:=λz' M'=>∃m',m'<m/\W m' z' M',ct:=λz' M'=>∃m',m'<m/\W m' z' M',bk:=E.nx} z M1 else E.nx z M1
def AE{c:Tn}{body:List SL}{tc:TMT}{tb:TMS}(hp:TX (SB X.prog X.w) X.A X.env X.xe)(hc:MT X c tc)(hb:MSs X body tb):MSt X (.While c body [] pos) (AD tc tb):=⟨(qz hp hc.out hb.out).anti λE s H q=>by
 obtain⟨F0,F,z,M,k,rs,ED,⟨W,⟨m0,w0⟩,c7⟩,e⟩:=q;refine#[λm s' H'=>∃F' z' M',Kept J.B F0 F' H'/\RepZ X.K J.B F' H' z' s' M'/\W m z' M',#[m0,F,z,M,k,rs,w0],?_];rintro m s1 H1⟨F1,z1,M1,k1,r1,w1⟩;refine#[F1,z1,M1,k1.kf,r1,_,c7 m z1 M1 w1,λb M2 F2 H2 g2 hk m2=>?_];cases b with
 |true=>
  refine#[λs3 H3=>∃F3 z3 M3,Kept J.B F0 F3 H3/\RepZ X.K J.B F3 H3 z3 s3 M3/\∃m',m'<m/\W m' z3 M3,λs3 H3 ⟨F3,z3,M3,k3,r3,m',l,w3⟩=>#[m',l,F3,z3,M3,k3,r3,w3],?_];exact#[F0,F2,z1,M2,k1.growM r1.mb g2,r1.growM k1.bh g2 m2,_,hk,#[λz3 s3 M3 F3 H3 k3 h3 r3=>#[F3,z3,M3,k3,r3,h3],e.rt,e.nx,λz3 s3 M3 F3 H3 k3 h3 r3=>#[F3,z3,M3,k3,r3,h3]]]
 |false=>exact e.nx z1 s1 M2 F2 H2 (k1.growM r1.mb g2) hk (r1.growM k1.bh g2 m2)⟩
end
section
variable {X:Cx}[J:Jm]{a b c e o:Tn}{ta tb tc te to:TME}{pos:Tw}{st:SL}{rest:List SL}{t u:TMS}
abbrev TMI:=SD->MS->(List D->MS->Prop)->Prop
def mItR(t:TME):TMI:=λz M R=>t z M λx M1=>match x with|.int n=>(0<=n/\n<2^62)/\R ((GO n.toNat).map λk=>D.int ((k:Nat):Int)) M1|_=>False
def mFor(i:Nat)(ti:TMI)(tb:TMS):TMS:=λE z M=>ti z M λds M1=>∃W:Nat->SD->MS->Prop,W 0 z M1/\(∀k x z M,ds[k]?=be x->W k z M->tb {E with nx:=W (k+1),ct:=W (k+1),bk:=E.nx} (z.set i (be x)) M)/\∀z M,W ds.length z M->E.nx z M
def AF(i:Nat){x:F_}{p p1 p2:Tw}{body:List SL}{tb:TMS}(hp:TX (SB X.prog X.w) X.A X.env X.xe)(hc:X.calm=true)(hN:X.N.Nodup)(hm:X.mg "range"=t9)(he:ME X e te)(hb:MSs X body tb)(hg:autoParam (Gl X "range") zA0)(hi:autoParam (X.N[i]?=be x) zA0)(hx:autoParam (Loc X.env.scope x) zA4)
  (hf:autoParam (zFN X x) zA2) (hs:autoParam (∀y,zFS X (.Call (.Name "range" p1) [e] [] p2) y) zA3) (q_:autoParam (zSE X e []) zA0) (g7:autoParam (Tr [e] X.env=[(false,Tv e X.env)]) zA0):
  MSt X (.For (.Name x p) (.Call (.Name "range" p1) [e] [] p2) body [] pos) (mFor i (mItR te) tb):=⟨(cV hp hc (jN hg hm (bD he.out pa_nil q_) g7) (dX hN hi hx hf) hb.out hs).anti λE s H q=>by
 obtain⟨F0,F,z,M,kp,rs,ED,h,e⟩:=q;refine#[F,z,M,kp.kf,rs,_,h,λd v M1 F1 H1 g1 hd rd m1=>?_];split at hd
 .rename_i n;obtain⟨⟨b1,b2⟩,W,w0,c7,out⟩:=hd;have hl:((GO n.toNat).map λk=>D.int ((k:Nat):Int)).length=n.toNat:=by simp
  refine#[n,by rw[rep_int.mp rd],KK,b2,jO (lo:=0) (n:=n.toNat) (λk s' H'=>∃F' z' M',Kept J.B F0 F' H'/\RepZ X.K J.B F' H' z' s' M'/\W k z' M') #[F1,z,M1,kp.growM rs.mb g1,rs.growM kp.bh g1 m1,w0] ?_ ?_]
  .rintro k s' H' hk⟨F',z',M',k',r',w'⟩;have e1:(0:Int)+(k:Int)=(k:Int):=by lia
   exact#[F0,F',_,M',k',r'.set (d:=.int (k:Int)) (rep_int.mpr (by rw[e1])),_,c7 k (.int (k:Int)) z' M' (by simp[hk]) w',#[λz3 s3 M3 F3 H3 k3 h3 r3=>#[F3,z3,M3,k3,r3,h3],e.rt,e.nx,λz3 s3 M3 F3 H3 k3 h3 r3=>#[F3,z3,M3,k3,r3,h3]]]
  .rintro s' H'⟨F',z',M',k',r',w'⟩;exact e.nx z' s' M' F' H' k' (out z' M' (by rw[hl];exact w')) r'
 .exact hd.elim⟩
def AG(te:TME):TME:=λz M R=>te z M λd M1=>match d with|.ptr a=>∃ds,mget M1 a=be (.lst ds)/\R (.int ds.length) M1|_=>False
def AH{p:Tw}(hm:X.mg "len"=t9)(ha:ME X e te)(hg:autoParam (Gl X "len") zA0)(he:autoParam (zSE X e []) zA0):ME X (.Call (.Name "len" p) [e] [] pos) (AG te):=⟨(gM jS hg hm PySem.boot_len (bD ha.out pa_nil he) K3 K3 he).anti λs H Q h=>by
 obtain⟨F,z,M,k,rs,R,h1,h2⟩:=h;refine#[F,z,M,k,rs,_,h1,λd v M1 F1 H1 g1 hx rx m1=>?_];split at hx
 .rename_i a;obtain⟨ds,hm,hR⟩:=hx;obtain⟨vs,hH,rr⟩:=m1.ok _ _ (bw hm);exact#[.ref a,vs.length,by rw[rep_ptr.mp rx],.inl #[vs,SqL.of hH,rfl],h2 _ _ M1 F1 H1 g1 hR (rep_int.mpr (by rw[rr.length])) m1]
 .exact hx.elim⟩
def mIxP(ta tb:TME):TME:=λz M R=>ta z M λx M1=>tb z M1 λy M2=>match x,y with|.ptr a,.int i=>∃ds,mget M2 a=be (.lst ds)/\∃d,atI ds i=be d/\R d M2|_,_=>False
def AI(ha:ME X a ta)(hb:ME X b tb)(hs:autoParam (dZ b) zA6):ME X (.Subscript a b pos) (mIxP ta tb):=⟨(pe_ix ix_list ha.out hb.out hs).anti λs H Q h=>by
 obtain⟨F,z,M,k,rs,R,h1,h2⟩:=h;refine#[F,z,M,k,rs,_,h1,λx u M1 F1 H1 g1 hx rx m1=>?_];refine#[F1,z,M1,k.growM rs.mb g1,rs.growM k.bh g1 m1,_,hx,λy v M2 F2 H2 g2 hy ry m2=>?_];split at hy
 .rename_i p i;obtain⟨ds,hm,d,hd,hR⟩:=hy;obtain⟨vs,hH,rr⟩:=m2.ok _ _ (bw hm);obtain⟨w,e2,h_⟩:=rr.at hd;exact#[p,vs,_,w,rep_ptr.mp rx,rep_int.mp ry,SqL.of hH,e2,h2 d w M2 F2 H2 (g1.trans g2) hR h_ m2]
 .exact hy.elim⟩
def AJ(to te:TME):TME:=λz M R=>to z M λo M1=>match o with|.ptr a=>(∃ds,mget M1 a=be (.lst ds))/\te z M1 λd M2=>∃ds,mget M2 a=be (.lst ds)/\ds.length<=100000/\R .non (mput M2 a (.lst (ds++[d])))|_=>False
def AK{apos cpos:Tw}(ho:ME X o to)(he:ME X e te)(n_:autoParam (zSE X e []) zA0)
  (b8:autoParam (Tt o "append" X.env (Tv o X.env)=Tv o X.env) zA0)
  (d8:autoParam (zHF X cpos [e]) zA0)
  (c8:autoParam ((apos.endLine==cpos.line)=true) zA0):
  ME X (.Call (.Attribute o "append" apos) [e] [] cpos) (AJ to te):=⟨(eg PySem.F.plainAttrs_list PySem.F.slot_list_append PySem.F.type_list_append kd ho.out (bD he.out pa_nil n_) b8 d8 c8 n_).anti λs H Q h=>by
 obtain⟨F,z,M,k,rs,R,h1,h2⟩:=h;refine#[F,z,M,k,rs,_,h1,λx u M1 F1 H1 g1 hx rx m1=>?_];split at hx
 .rename_i a;obtain⟨⟨SW,Ou⟩,hx⟩:=hx;obtain⟨RL,RN,SX⟩:=m1.ok _ _ (bw Ou);rw[rep_ptr.mp rx];refine#[.inl #[rfl,RL,SqL.of RN],?_];refine#[F1,z,M1,k.growM rs.mb g1,rs.growM k.bh g1 m1,_,hx,λd v M2 F2 H2 g2 hd rd m2=>?_];obtain⟨ds,hm,hl,hR⟩:=hd;obtain⟨vs,hH,rr⟩:=m2.ok _ _ (bw hm);have hz:vs.length<sizeLine:=by
   rw[rr.length];have h2:(100000:Nat)<sizeLine:=K3
   lia
  refine#[a,vs,v,rfl,rfl,hH,hz,?_];exact h2 _ _ _ F2 _ (g1.trans (g2.trans (GrowM.put g2.fh (m2.fr a (bW (bw hm))) hm))) hR (rep_non.mpr rfl) (m2.put hm #[_,az,rr.append (eK rd)])
 .exact hx.elim⟩
def frzD:MO->D|.ins x fs=>.obj x fs|.lst ds=>.lst ds|.dti a9=>.dti a9
def mFrz(i:Nat)(t:TMS):TMS:=λE z M=>match z[i]? with|some (be (.ptr a))=>∃o,mget M a=be o/\t E (z.set i (be (frzD o))) (mdel M a)|_=>False
def tI(i:Nat){Mh:List SL}(h:MSs X Mh t):MSs X Mh (mFrz i t):=⟨PSs.anti h.out λE s H q=>by
 obtain⟨F0,F,z,M,k,rs,ED,h,e⟩:=q;unfold mFrz at h;split at h
 .rename_i a ez;obtain⟨o,hm,h⟩:=h;have mem:=bw hm;have fa:=rs.rm.fr a (bW mem);have ba:=rs.mb a (bW mem);obtain⟨v,hv,rv⟩:=rs.rs.val i _ ez rfl;have RO:=rep_ptr.mp rv;subst RO;have hok:=rs.rm.ok a o mem;obtain⟨ho,e8,Ov⟩:∃ho,H a=be ho/\∀F',Same F F'->F' a=be ho->Rep X.K F' (frzD o) (.ref a):=by
   cases o with
   |ins x fs=>obtain⟨C,dx,ws,n,h1,h2⟩:=hok;exact#[_,h1,λF' s' hF=>rep_obj.mpr #[a,C,dx,ws,rfl,n,hF,RepF.mono s' fs ws h2]]
   |lst ds=>obtain⟨vs,h1,h2⟩:=hok;exact#[_,h1,λF' s' hF=>rep_lst.mpr #[a,vs,rfl,hF,h2.mono s']]
   |dti a9=>exact#[_,hok,λF' s' hF=>rep_dti.mpr #[a,rfl,hF]]
  have s1:Same F (upd F a ho):=aN fa _;have hs:s.set i (be (.ref a))=s:=by
   apply HZ;intro n;by_cases hn:i=n
   .subst hn;rw[Hr (GZ.mp hv).1,hv]
   .rw[G0 hn]
  have k1:Kept J.B F0 (upd F a ho) H:=⟨k.bh,λb u q=>by
   by_cases hb:b=a
   .subst hb;rw[az]at q;cases q;exact e8
   .rw[aq hb]at q;exact k.fh b u q,k.f0.trans s1,λb h1 h2=>by
   by_cases hb:b=a
   .subst hb;exact absurd ba h2
   .rw[aq hb];exact k.out b h1 h2,k.eb,k.jf,k.jo⟩
  have r0:RepS X.K J.B (upd F a ho) H z s:=#[rs.rs.len,λi d e n=>let ⟨v,q1,q2⟩:=rs.rs.val i d e n;#[v,q1,q2.mono s1],λi ds e=>absurd e (rs.no i ds),rs.rs.apart];have RP:RepM X.K (upd F a ho) H (mdel M a):=⟨rs.rm.nd.sublist del_sub,λb q hb=>by
   obtain⟨ne,hb⟩:=kK rs.rm.nd hb;exact(rs.rm.ok b q hb).mono s1 λ_ z=>z,λb hb=>by
   obtain⟨⟨b',q⟩,g5,rfl⟩:=Hc.mp hb;obtain⟨ne,Qq⟩:=kK rs.rm.nd g5;rw[aq ne];exact rs.rm.fr _ (bW Qq)⟩
  have z0:RepZ X.K J.B (upd F a ho) H z s (mdel M a):=#[r0,rs.no,RP,λb hb=>rs.mb b (del_sub.subset hb)];have z1:=z0.set (i:=i) (Ov _ s1 az);rw[hs]at z1;exact#[F0,_,_,_,k1,z1,ED,h,e]
 .exact h.elim⟩
end
def kP{N:List F_}{ds:List D}(rs:Reps K F ds vs):∀(i:Nat) d,(startD N ds)[i]?≠be (be (.own d)):=by
 intro i d e;unfold startD at e;by_cases hi:i<ds.length
 .rw[Ht (by simpa using hi),GY]at e;cases q:ds[i]? with
  |none=>rw[q]at e;cases e
  |some x=>
   rw[q]at e;cases e;obtain⟨v,_,q2⟩:=rs.get q;exact rep_own q2
 .rw[HF (by simpa using hi),IR]at e;split at e
  .cases e
  .cases e
def growM_nil(g:GrowM [] M' F H F' H'):Grow F H F' H':=#[g.ff,g.fh,λb o h=>g.hh b o (λz=>nomatch z) h,λb h1 h2=>g.out b (λz=>nomatch z) h1 h2]
section
variable {P:SZ}{w:Tp}{K:Ex}{mg:F_->Option KB}{base:Heap}
variable{x:F_}{ps:List F_}{S:SpM}
def CalMM.toX{n:Nat}{S0:SpX}(C:CalMM P w K mg base n x ps S)(h:∀ds R RX,S0 ds R RX->S ds [] (λd _=>R d) λx fs _=>RX x fs):CalX P w K mg base n x ps S0:=by
 obtain⟨f,fd,F,hb,hk,hm⟩:=C;refine#[f,fd,F.imp λvs H Q E q=>?_,hb,hk,hm];obtain⟨F,ds,fh,rs,R,RX,hS,q1,q2⟩:=q;exact#[F,ds,[],fh,rs,RepM.nil,_,_,h ds R RX hS,λd v M' F' H' g hd rd _=>q1 d v F' H' (growM_nil g) hd rd,λy fs C od M' F' H' g hR er _=>q2 y fs C od F' H' (growM_nil g) hR er]
open Classical in
def Fun.okM{x qual:F_}{st:SL}{f:KF}{fd:Tu}{N ps:List F_}{k:Nat}{S:SpM}{dV:KB}(T:FunG K dV x qual st f fd)(F:FnScope N ps (ag st))(len:∀ds M R RX,S ds M R RX->ds.length=ps.length)
  (a8:∀(cdv:KB) (A:Tq) (outer:List Um) (s:Os) (H:Hp) (E:XK) (J:Jm),Room k (A.deeper (TB qual (ag st) s.heap.objs.size f cdv))->XOkM (cxOf (CX1 P w) P w K mg base N qual (ag st) f cdv A outer s H E)->
   ∃t,MSs (cxOf (CX1 P w) P w K mg base N qual (ag st) f cdv A outer s H E) (aL st) t/\∀ds M R RX,(∀z,J.RM z=λM' x fs=>RX x fs M')->S ds M R RX->t {nx:=λ_ M'=>R .non M',rt:=R} (startD N ds) M):FnOk P w K mg base (CX1 P w) (k+1) f fd ps (lSpM K S):=by
 refine Fun.okC T F (λvs H Q E h=>?_) (λcdv A outer s H vs Q E hr h=>?_)
 .obtain⟨F,ds,M,fh,rs,rm,R,RX,h,_⟩:=h;rw[rs.length];exact len ds M R RX h
 .obtain⟨F,ds,M,fh,rs,rm,R,RX,h,q,qx⟩:=h
  let B:Hp:=λb=>if b∈au M then t9 else H b
  have Qr:∀{b:KF},b∈au M->B b=none:=λ{b} h=>if_pos h;have Nt:∀{b:KF},b∉au M->B b=H b:=λ{b} h=>if_neg h
  letI:Jm:={B:=B,F0:=F,RX:=λ_ _ _=>False,RM:=λ_ M' x fs=>RX x fs M'}
  have gr:∀{M':MS} {F' H':Hp},Kept B F F' H'->(∀a,a∈au M'->B a=t9)->GrowM M M' F H F' H':=λ{M' F' H'} k mb=>⟨k.f0,k.fh,λb o nb e=>k.bh b o (by rw[Nt nb];exact e),λb nb h1 h2=>k.out b h1 (by rw[Nt nb];exact h2),λb hb=>by
   by_cases nb:b∈au M
   .exact .inl nb
   .right;rw[<-Nt nb];exact mb b hb⟩
  have hx:XOkM (cxOf (CX1 P w) P w K mg base N qual (ag st) f cdv A outer s H E):=by
   intro σ z M' F' H' s' e C od y fs I kk rr hR er ⟨He,ne,_,hx⟩;have hE:E (.ref C) od H':=qx y fs C od M' F' H' (gr kk rr.mb) hR er rr.rm;rcases hx with⟨sl,vs,h1,h2⟩|⟨T,h1,h2,h3,_⟩
   .exact rM I h1 h2 He ne hE
   .exact sQ I h1 ne h2 He h3 hE
  obtain⟨t,ht,hq⟩:=a8 cdv A outer s H E inferInstance hr hx;have k0:Kept B F F H:=⟨λb o e=>by
   by_cases nb:b∈au M
   .rw[Qr nb]at e;cases e
   .rw[Nt nb]at e;exact e,fh,Same.refl F,λ_ h _=>h,rfl,Same.refl F,λ_ h _=>h⟩
  have r0:RepZ K B F H (startD N ds) (L2.start N vs) M:=#[dF rs,kP rs,rm,λa h=>Qr h];exact#[_,ht.out,F,F,startD N ds,M,k0,r0,_,hq ds M R RX (λ_=>rfl) h,#[λz' s' M' F' H' k hn r=>q _ _ M' F' H' (gr k r.mb) hn (rep_non.mpr rfl) r.rm,λd v M' F' H' k hd rd Ow mb=>q d v M' F' H' (gr k mb) hd rd Ow,λ_ _ _ _ _ _ h _=>h.elim,λ_ _ _ _ _ _ h _=>h.elim]]
variable{N:List F_}
def Tx.okM{st:SL}{k:Nat}(T:Tx K mg x st ps)(F:FnScope N ps (ag st))(len:∀ds M R RX,S ds M R RX->ds.length=ps.length)
  (a8:∀(f:KF) (cdv:KB) (A:Tq) (outer:List Um) (s:Os) (H:Hp) (E:XK) (J:Jm),Room k (A.deeper (TB x (ag st) s.heap.objs.size f cdv))->XOkM (cxOf (CX1 P w) P w K mg base N x (ag st) f cdv A outer s H E)->
   ∃t,MSs (cxOf (CX1 P w) P w K mg base N x (ag st) f cdv A outer s H E) (aL st) t/\∀ds M R RX,(∀z,J.RM z=λM' x fs=>RX x fs M')->S ds M R RX->t {nx:=λ_ M'=>R .non M',rt:=R} (startD N ds) M):CalMM P w K mg base (k+1) x ps S:=by
 obtain⟨f,fd,T,hb,hm⟩:=T;exact#[f,fd,Fun.okM T F len λcdv A outer s H E J hr hx=>a8 f cdv A outer s H E J hr hx,hb,T.kp,hm]
def Txm(K:Ex)(x m:F_)(qual:F_)(st:SL)(ps:List F_):Prop:=
 ∃C f fd,nsIn K Pi x=be (be (.ref C))/\Cls K C/\Meth K C m f/\Fun K m qual st f fd/\Binds K fd ps []
def Txm.okM{m qual:F_}{st:SL}{k:Nat}(T:Txm K x m qual st ps)(F:FnScope N ps (ag st))(len:∀ds M R RX,S ds M R RX->ds.length=ps.length)
  (a8:∀(f:KF) (cdv:KB) (A:Tq) (outer:List Um) (s:Os) (H:Hp) (E:XK) (J:Jm),Room k (A.deeper (TB qual (ag st) s.heap.objs.size f cdv))->XOkM (cxOf (CX1 P w) P w K mg base N qual (ag st) f cdv A outer s H E)->
   ∃t,MSs (cxOf (CX1 P w) P w K mg base N qual (ag st) f cdv A outer s H E) (aL st) t/\∀ds M R RX,(∀z,J.RM z=λM' x fs=>RX x fs M')->S ds M R RX->t {nx:=λ_ M'=>R .non M',rt:=R} (startD N ds) M):CalMth P w K mg base (k+1) x m ps (lSpM K S):=by
 obtain⟨C,f,fd,h1,h2,h3,T,hb⟩:=T;exact#[C,f,fd,h1,h2,h3,Fun.okM T F len λcdv A outer s H E J hr hx=>a8 f cdv A outer s H E J hr hx,hb]
end
end My
namespace L2
section
variable {X:Cx}{pins:List (KF×TL)}{σ:St}{H:Hp}{s:Os}{h':Heap}
def Inv.turned2{t':Nat}{e it:KF}(I:Inv X pins σ H s)(k:∀b o,b≠e->b≠it->s.heap.get? b=be o->h'.get? b=be o)(he:FpOk X pins H e)(hi:FpOk X pins H it):Inv X pins σ H {s with heap:=h',toks:=t'}:=by
 obtain⟨e0,e1,e2,e3,e4,e5⟩:=he;obtain⟨i0,i1,i2,i3,i4,i5⟩:=hi;have K1:∀b u,H b=be u->b≠e/\b≠it:=λb u q=>#[(λz=>by rw[z,e0]at q;cases q),(λz=>by rw[z,i0]at q;cases q)];have nc:∀{b:KF},b∉[e,it]->b≠e/\b≠it:=λ{b} h=>#[λz=>h (by simp[z]),λz=>h (by simp[z])];refine I.step (g':=s.gens) (d':=s.drawn) (ch:=[e,it]) (λb hb=>?_) (λb o _ _ hc q _=>k b o (nc hc).1 (nc hc).2 q) (λb o _ _ hc q _=>#[o.slots,k b o (nc hc).1 (nc hc).2 q]) (λ_ _ _ _ n=>n)
  (λb o hc q=>#[o,k b o (nc hc).1 (nc hc).2 q]) (λ_ _ q=>q) (λ_ _ _ q=>q) (λb ps q=>#[[].toArray,by rw[q];simp]) (λm hm=>?_) (λb u q=>?_) I.bare
 .rcases GP.mp hb with z|z
  .rw[z];exact#[e3,e1,e4,e5]
  .rw[GM.mp z];exact#[i3,i1,i4,i5]
 .obtain⟨o,es,ep,ho,r⟩:=hm;exact#[o,es,ep,k _ o (Ne.symm e1) (Ne.symm i1) ho,r]
 .refine(I.hok b u q).stay (λc v hc q'=>k c v ?_ ?_ q') (λ_ q=>q) λ_ _ q=>q
  .rcases hc with z|z
   .rw[z];exact(K1 b u q).1
   .exact(K1 c _ z).1
  .rcases hc with z|z
   .rw[z];exact(K1 b u q).2
   .exact(K1 c _ z).2
end
def Itel(K:Ex)(a:KF):It:=
 #[λi H=>∃xs x,SqL K H a xs/\xs[i]?=be x,λi H x H'=>∃T v,H T=t9/\x=.ref T/\H'=upd H T (.tup [.int i,v])/\∀xs,SqL K H a xs->xs[i]?=be v,λi H=>∃xs,SqL K H a xs/\xs.length<=i]
def Ites(x:F_):It:=#[λi _=>i<x.length,λi H v H'=>∃T c,H T=t9/\v=.ref T/\H'=upd H T (.tup [.int i,.str #[[c].toArray]])/\x.cps[i]?=be c,λi _=>i=x.length]
variable{P:SZ}{w:Tp}
def AL{H:Hp}{h:Heap}{T:KF}{i:Int}{t:Vv}{v:V}{u:KB}(r:RelV v u)(q:h.get? T=be {cls:=.type "tuple",data:=.seq [.int i t,u].toArray}):ObjOk P w H h T (.tup [.int i,v]):=
 #[by show 2<=sizeLine;decide,[.int i t,u],.cons #[t,rfl] (.cons r .nil),#[_,q,rfl,_,rfl]]
def tJ{X:Cx}{pins:List (KF×TL)}{σ:St}{H:Hp}{s:Os}{h':Heap}{t':Nat}{e it:KF}{i:Int}{t:Vv}{v:V}{u:KB}(I:Inv X pins σ H s)(he:FpOk X pins H e)(hi:FpOk X pins H it)(le:e<s.heap.objs.size)(li:it<s.heap.objs.size)(r:RelV v u)
  (hT:h'.get? s.heap.objs.size=be {cls:=.type "tuple",data:=.seq [.int i t,u].toArray}) (hk:∀b o,b≠e->b≠it->s.heap.get? b=be o->h'.get? b=be o):Inv X pins σ (upd H s.heap.objs.size (.tup [.int i,v])) {s with heap:=h',toks:=t'}:=by
 have I1:Inv X pins σ (upd H s.heap.objs.size (.tup [.int i,v])) {s with heap:=s.heap.push {cls:=.type "tuple",data:=.seq [.int i t,u].toArray},toks:=t'}:=
  I.laid (λb o q=>Heap.get?_push_of_some _ q) (GN _) (AL r (Heap.get?_push_size _ rfl))
 have fp:∀{b:KF},FpOk X pins H b->b<s.heap.objs.size->FpOk X pins (upd H s.heap.objs.size (.tup [.int i,v])) b:=λ{b} h l=>#[by rw[aq (GV l)];exact h.1,h.2];refine I1.turned2 (h':=h') (t':=t') (λb o h1 h2 q=>?_) (fp he le) (fp hi li);rcases Heap.get?_push_cases (show(s.heap.push {cls:=.type "tuple",data:=.seq [.int i t,u].toArray}).get? b=be o from q)with⟨rfl,rfl⟩|q2
 .exact hT
 .exact hk b o h1 h2 q2
variable{s_:List Tn}
def AM{K:Ex}{x1:Nat}{tp:Tw}(a e it:KF)(LA:e≠it):Turn P w K (.Tuple s_ x1 tp) (Itel K a) [e,it] e (λi h=>(∃d6,IsEnum h e it i d6)/\h.IsListIter it a i) where
 mem:=K'
 obj:=λi h st b hb=>by
  obtain⟨⟨d6,he⟩,hit⟩:=st;rcases GP.mp hb with z|z
  .rw[z];exact#[_,he,λv z=>by cases z]
  .rw[GM.mp z];obtain⟨o,ho,c,d⟩:=hit;exact#[o,ho,λv z=>by rw[d]at z;cases z]
 keep:=λi h h' st k=>#[let ⟨d6,he⟩:=st.1;#[d6,k e K' _ he],st.2.at λo q=>k it K' o q]
 item:=by
  intro X hP hw hK hc i pins s σ H E I hf st hg;subst hP hw hK;obtain⟨xs,x,hq,hx⟩:=hg;obtain⟨its,rv,p,hz⟩:=I.list hq;obtain⟨u,hu,ru⟩:=rv.get hx;obtain⟨⟨d6,he⟩,hit⟩:=st;have fe:=hf e K';have fi:=hf it K';have le:e<s.heap.objs.size:=Heap.lt_size he;have li:it<s.heap.objs.size:=by obtain⟨o,ho,_⟩:=hit;exact Heap.lt_size ho
  refine wpAny_pyNext_enum_item he hit p.isList (x:=u) (by simpa using hu) LA λh' z9 Lj hT j6 hk=>?_;refine#[_,rfl,UR z9 λh2 Ox n4=>?_];have o8:Heap.SameBut e h' h2:=n4;have nT:s.heap.objs.size≠e:=HD le;have I1:Inv X pins σ (upd H s.heap.objs.size (.tup [.int i,x])) {s with heap:=h2,toks:=s.toks+1}:=tJ I fe fi le li ru ((o8.2 _ nT).trans hT) λb o h1 h3 q=>(o8.2 b h1).trans (hk b o h1 h3 q);refine#[.ref s.heap.objs.size,_,I1,rfl,#[_,x,I.hok.fresh (GN _),rfl,rfl,λys hy=>by rw[I.list_inj hy hq];exact hx],#[#[u,by simpa using Ox],Lj.at λo q=>(o8.2 it (Ne.symm LA)).trans q],λb hb=>?_];rcases GP.mp hb with z|z
  .rw[z,aq (GV le)];exact fe.1
  .rw[GM.mp z,aq (GV li)];exact fi.1
 done:=by
  intro X hP hw hK hc i pins s σ H E I hf st hg;subst hP hw hK;obtain⟨xs,hq,hx⟩:=hg;obtain⟨its,rv,p,hz⟩:=I.list hq;obtain⟨⟨d6,he⟩,hit⟩:=st;have hl:=rv.length;obtain⟨f0,f1,f2,f3,f4,f5⟩:=hf it K';exact wpAny_pyNext_enum_end (I.ok.hd hc) he hit p.isList SN λh' eb=>#[rfl,I.turned (t':=s.toks) (λb o hb q=>eb b o hb q) f0 f1 f3 f4 f5]
 self:=λ_ _ _ _ _ st h=>let ⟨⟨d6,he⟩,_⟩:=st;Uq he h
def AN{K:Ex}{x1:Nat}{tp:Tw}(x:F_)(t:Vv)(e it:KF)(LA:e≠it):Turn P w K (.Tuple s_ x1 tp) (Ites x) [e,it] e (λi h=>(∃d6,IsEnum h e it i d6)/\h.IsStrIter it "str_ascii_iterator" x t i) where
 mem:=K'
 obj:=λi h st b hb=>by
  obtain⟨⟨d6,he⟩,hit⟩:=st;rcases GP.mp hb with z|z
  .rw[z];exact#[_,he,λv z=>by cases z]
  .rw[GM.mp z];obtain⟨o,ho,c,d⟩:=hit;exact#[o,ho,λv z=>by rw[d]at z;cases z]
 keep:=λi h h' st k=>#[let ⟨d6,he⟩:=st.1;#[d6,k e K' _ he],let ⟨o,ho,r⟩:=st.2;#[o,k it K' o ho,r]]
 item:=by
  intro X hP hw hK hc i pins s σ H E I hf st hg;subst hP hw hK;have hi:i<x.cps.size:=hg;obtain⟨⟨d6,he⟩,hit⟩:=st;have fe:=hf e K';have fi:=hf it K';have le:e<s.heap.objs.size:=Heap.lt_size he;have li:it<s.heap.objs.size:=by obtain⟨o,ho,_⟩:=hit;exact Heap.lt_size ho
  refine wpAny_pyNext_enum_itemD (Draws.strAscii (A:=X.A.in1) (by exact I.ok.hd hc) it x t) he hit hi LA (by simp[LA]) λu h' tk hP z9 Lj hT j6 hk=>?_;obtain⟨c,tu,KE,rfl⟩:=hP;refine#[_,rfl,UR z9 λh2 Ox n4=>?_];have o8:Heap.SameBut e h' h2:=n4;have nT:s.heap.objs.size≠e:=HD le;have I1:Inv X pins σ (upd H s.heap.objs.size (.tup [.int i,.str #[[c].toArray]])) {s with heap:=h2,toks:=tk+1}:=tJ I fe fi le li #[tu,rfl] ((o8.2 _ nT).trans hT) λb o h1 h3 q=>(o8.2 b h1).trans (hk b o h1 h3 q);refine#[.ref s.heap.objs.size,_,I1,rfl,#[_,c,I.hok.fresh (GN _),rfl,rfl,KE],#[#[_,by simpa using Ox],let ⟨o,ho,r⟩:=Lj;#[o,(o8.2 it (Ne.symm LA)).trans ho,r]],λb hb=>?_];rcases GP.mp hb with z|z
  .rw[z,aq (GV le)];exact fe.1
  .rw[GM.mp z,aq (GV li)];exact fi.1
 done:=by
  intro X hP hw hK hc i pins s σ H E I hf st hg;subst hP hw hK;have hi:i=x.cps.size:=hg;subst hi;obtain⟨⟨d6,he⟩,hit⟩:=st;obtain⟨f0,f1,f2,f3,f4,f5⟩:=hf it K';exact wpAny_pyNext_enum_endD (Draws.strAscii (A:=X.A.in1) (by exact I.ok.hd hc) it x t) he hit λh' eb=>#[rfl,I.turned (t':=s.toks) (λb o hb q=>eb b o hb q) f0 f1 f3 f4 f5]
 self:=λ_ _ _ _ _ st h=>let ⟨⟨d6,he⟩,_⟩:=st;Uq he h
def iEnL(K:Ex)(ta:TA):TI:=λσ H R=>ta σ H λvs H1=>∃a,vs=[.ref a]/\(∃xs,SqL K H1 a xs)/\R (Itel K a) H1
def iEnS(ta:TA):TI:=λσ H R=>ta σ H λvs H1=>∃x,vs=[.str x]/\x.cps.all (·<128)=true/\R (Ites x) H1
section
variable {X:Cx}{s_:List Tn}{x1:Nat}{tp p pos:Tw}{l:Tn}{ta:TA}
def AO(hg:Gl X "enumerate")(hm:X.mg "enumerate"=t9)(ha:PA X [l] ta)(hs:autoParam (Tr [l] X.env=[(false,Tv l X.env)]) zA0):PI X (.Tuple s_ x1 tp) (.Call (.Name "enumerate" p) [l] [] pos) (iEnL X.K ta):=by
 intro pins s σ H R I h;refine Call_ (dE I hg hm PyProof.Rows.boot_enumerate (PyProof.Rows.callWith_type1 (thn (ha pos pins s σ H _ I h) λus s1 ⟨vs,H1,I1,r1,q1⟩=>?_) hs rfl));obtain⟨a,rfl,⟨xs,hq⟩,q⟩:=q1;obtain⟨u,rfl,ru⟩:=cb r1;cases ru;obtain⟨its,rv,pl,hz⟩:=I1.list hq;refine call_enumerate_list pl.isList λh' he hit j6 hk=>?_;have I2:Inv X pins σ H1 {s1 with heap:=h'}:=I1.kept (t':=s1.toks) hk;refine Uq he ?_;have ne:s1.heap.objs.size+1≠s1.heap.objs.size:=JK _;refine#[s1.heap.objs.size+1,[s1.heap.objs.size+1,s1.heap.objs.size],_,_,H1,rfl,I2,AM a _ _ ne,#[#[_,he],hit],λb hb=>?_,q];rcases GP.mp hb with z|z
 .rw[z];exact I1.fpOk (HK _) (I1.hok.fresh (HK _))
 .rw[GM.mp z];exact I1.fpOk (GN _) (I1.hok.fresh (GN _))
def tK(hg:Gl X "enumerate")(hm:X.mg "enumerate"=t9)(ha:PA X [l] ta)(hs:autoParam (Tr [l] X.env=[(false,Tv l X.env)]) zA0):PI X (.Tuple s_ x1 tp) (.Call (.Name "enumerate" p) [l] [] pos) (iEnS ta):=by
 intro pins s σ H R I h;refine Call_ (dE I hg hm PyProof.Rows.boot_enumerate (PyProof.Rows.callWith_type1 (thn (ha pos pins s σ H _ I h) λus s1 ⟨vs,H1,I1,r1,q1⟩=>?_) hs rfl));obtain⟨x,rfl,Oy,q⟩:=q1;obtain⟨u,rfl,t,rfl⟩:=cb r1;refine call_enumerate_str λh' he hit j6 hk=>?_;have I2:Inv X pins σ H1 {s1 with heap:=h'}:=I1.kept (t':=s1.toks) hk;refine Uq he ?_;have ne:s1.heap.objs.size+1≠s1.heap.objs.size:=JK _;have RQ:strIterType x="str_ascii_iterator":=by unfold strIterType;rw[Oy];rfl
 rw[RQ]at hit;refine#[s1.heap.objs.size+1,[s1.heap.objs.size+1,s1.heap.objs.size],_,_,H1,rfl,I2,AN x t _ _ ne,#[#[_,he],hit],λb hb=>?_,q];rcases GP.mp hb with z|z
 .rw[z];exact I1.fpOk (HK _) (I1.hok.fresh (HK _))
 .rw[GM.mp z];exact I1.fpOk (GN _) (I1.hok.fresh (GN _))
end
end L2
namespace My
open Exc
section
variable {X:Cx}[J:Jm]{a b c e o:Tn}{ta tb tc te to:TME}{pos:Tw}{st:SL}{rest:List SL}{t u:TMS}
def tL{K:Ex}{F:Hp}:∀(is:List Nat) (ds:List D) (vs:List V) (z:SD),Reps K F ds vs->(∀(i:Nat) d,z[i]?≠be (be (.own d)))->∀(i:Nat) d,(aY is ds z)[i]?≠be (be (.own d))
 |[],_,_,z,_,h=>h
 |_::_,[],_,z,_,h=>h
 |i::is,d::ds,vs,z,r,h=>by
  obtain⟨v,vr,rfl,r1,r2⟩:=reps_cons.mp r;refine tL is ds vr _ r2 λj q e=>?_;by_cases hj:i=j
  .subst hj;rw[HM]at e;simp at e;have:=r1.noown;rw[e.2]at this;cases this
  .rw[G0 hj]at e;exact h j q e
def mItE(t:TME):TMI:=λz M R=>t z M λx M1=>match x with|.lst ds=>R ds M1|_=>False
def AQ(t:TME):TMI:=λz M R=>t z M λx M1=>match x with|.str x=>x.cps.all (·<128)=true/\R (bP x) M1|_=>False
def tM(is:List Nat)(ti:TMI)(tb:TMS):TMS:=λE z M=>ti z M λds M1=>∃W:Nat->SD->MS->Prop,W 0 z M1/\(∀(k:Nat) x z M,ds[k]?=be x->W k z M->tb {E with nx:=W (k+1),ct:=W (k+1),bk:=E.nx} (aY is [.int k,x] z) M)/\∀z M,W ds.length z M->E.nx z M
variable{is:List Nat}
def tN{K:Ex}{F0 F1 H1:Hp}{z:SD}{s:L2.St}{M1:MS}{E:Ends}{ED:EndsM}{It':It}{g:TG}{tb:TMS}{Ms:TS}{ds:List D}(hK:K=X.K)(k1:Kept J.B F0 F1 H1)(m9:RepZ K J.B F1 H1 z s M1)(e:EndsOkM K F0 ED E)(b7:is.length=2)
  (go:∀k F' H',Same F1 F'->Same F' H'->k<ds.length->It'.go k H') (stop:∀F' H',Same F1 F'->Same F' H'->It'.stop ds.length H')
  (yld:∀k F' H' x H'',Same F1 F'->Same F' H'->k<ds.length->It'.yld k H' x H''->∃T d v,H' T=t9/\x=.ref T/\H''=upd H' T (.tup [.int k,v])/\ds[k]?=be d/\Rep K F' d v)
  (hg:∀(dd:List D) (vs:List V) (T:KF) (z:SD) (s:L2.St) (F H:Hp) (Q:L2.St->Hp->Prop),dd.length=2->H T=be (.tup vs)->Reps K F dd vs->RepS K J.B F H z s->(∀s',RepS K J.B F H (aY is dd z) s'->Q s' H)->g (.ref T) s H Q)
  (Oz:∀E s H,mS K tb E s H->Ms E s H)
  (hd:∃W:Nat->SD->MS->Prop,W 0 z M1/\(∀(k:Nat) x z M,ds[k]?=be x->W k z M->tb {ED with nx:=W (k+1),ct:=W (k+1),bk:=ED.nx} (aY is [.int k,x] z) M)/\∀z M,W ds.length z M->ED.nx z M):
  ∃W:Nat->Nat->L2.St->Hp->Prop,(∃m,W 0 m s H1)/\∀i m σ H,W i m σ H->
   (It'.stop i H/\E.nx σ H)\/(It'.go i H/\∃N:L2.St->Hp->Prop,(∀σ' H',N σ' H'->∃m',m'<m/\W (i+1) m' σ' H')/\∀x H',It'.yld i H x H'->g x σ H' λσ2 H2=>Ms {E with nx:=N,ct:=N,bk:=E.nx} σ2 H2):=by
 obtain⟨W,w0,c7,out⟩:=hd;refine#[λk m s' H'=>m=ds.length-k/\k<=ds.length/\∃F' z' M',Kept J.B F0 F' H'/\Same F1 F'/\RepZ K J.B F' H' z' s' M'/\W k z' M',#[ds.length,K',Hb _,F1,z,M1,k1,Same.refl F1,m9,w0],?_];rintro k m s' H'⟨rfl,hk,F',z',M',k',g',r',w'⟩;by_cases f9:k<ds.length
 .refine .inr #[go k F' H' g' k'.fh f9,λs3 H3=>∃F3 z3 M3,Kept J.B F0 F3 H3/\Same F1 F3/\RepZ K J.B F3 H3 z3 s3 M3/\W (k+1) z3 M3,λs3 H3 h3=>#[ds.length-(k+1),KK,rfl,f9,h3],λx H'' hy=>?_];obtain⟨T,d,v,hT,rfl,rfl,hd,rd⟩:=yld k F' H' x H'' g' k'.fh f9 hy;have gn:=Grow.new k'.fh hT (.tup [.int k,v]);have k2:=k'.grow gn;have r2:=r'.growM k'.bh gn.toM (r'.rm.grow gn);have rp:Reps K (upd F' T (.tup [.int k,v])) [.int k,d] [.int k,v]:=reps_cons.mpr #[_,_,rfl,rep_int.mpr rfl,eK (rd.mono gn.ff)];refine hg [.int k,d] _ T z' s' _ _ _ rfl az rp r2.rs λs2 Lz=>Oz _ _ _ ?_;have gF:Same F1 (upd F' T (.tup [.int k,v])):=g'.trans gn.ff;refine#[upd F' T (.tup [.int k,v]),upd F' T (.tup [.int k,v]),_,M',#[k2.bh,k2.fh,Same.refl _,λb h1 _=>h1,k2.eb,k2.jf.trans k2.f0,λb h1 h2=>k2.out b (k2.jo b h1 h2) h2],#[Lz,tL is _ _ z' rp r2.no,r2.rm,r2.mb],_,c7 k d z' M' hd w',?_];have up:∀{F3 H3:Hp},Kept J.B (upd F' T (.tup [.int k,v])) F3 H3->Kept J.B F0 F3 H3:=λk3=>#[k3.bh,k3.fh,k2.f0.trans k3.f0,λb h1 h2=>k3.out b (k2.out b h1 h2) h2,k2.eb,k2.jf,k2.jo];exact#[λz3 s3 M3 F3 H3 k3 h3 r3=>#[F3,z3,M3,up k3,gF.trans k3.f0,r3,h3],λd v M3 F3 H3 k3=>e.rt d v M3 F3 H3 (up k3),λz3 s3 M3 F3 H3 k3=>e.nx z3 s3 M3 F3 H3 (up k3),λz3 s3 M3 F3 H3 k3 h3 r3=>#[F3,z3,M3,up k3,gF.trans k3.f0,r3,h3]]
 .have ek:k=ds.length:=by lia
  subst ek;exact .inl #[stop F' H' g' k'.fh,e.nx z' s' M' F' H' k' (out z' M' w') r']
variable{es:List Tn}{body:List SL}
def AR{x1:Nat}{tp p1 p2:Tw}{tb:TMS}(hp:TX (SB X.prog X.w) X.A X.env X.xe)(hc:X.calm=true)(hm:X.mg "enumerate"=t9)(he:ME X e te)(hG:DGs X es is)(hb:MSs X body tb)(b7:autoParam (is.length=2) zA0)(hg:autoParam (Gl X "enumerate") zA0)
  (hn:autoParam ((Ts es X.env).length=2) zA0) (m4:autoParam ((Ts es X.env).findIdx? (·.1)=none) zA0)
  (hs:autoParam (∀y,zFS X (.Call (.Name "enumerate" p1) [e] [] p2) y) zA3) (q_:autoParam (zSE X e []) zA0) (g7:autoParam (Tr [e] X.env=[(false,Tv e X.env)]) zA0):
  MSt X (.For (.Tuple es x1 tp) (.Call (.Name "enumerate" p1) [e] [] p2) body [] pos) (tM is (mItE te) tb):=by
 obtain⟨ug,Mt,kk⟩:=hG;refine#[(cV hp hc (AO hg hm (bD he.out pa_nil q_) g7) (gH hc Mt hn m4) hb.out hs).anti λE s H q=>?_];obtain⟨F0,F,z,M,kp,rs,ED,h,e⟩:=q;refine#[F,z,M,kp.kf,rs,_,h,λd v M1 F1 H1 g1 hd rd m1=>?_];split at hd
 .rename_i ds;obtain⟨p,vs,rfl,hq,rr⟩:=rep_lst.mp rd;refine#[p,rfl,#[vs,SqL.of (g1.fh _ _ hq)],tN (It':=Itel X.K p) rfl (kp.growM rs.mb g1) (rs.growM kp.bh g1 m1) e b7 (λk F' H' s1 s2 hk=>?_) (λF' H' s1 s2=>?_) (λk F' H' x H'' s1 s2 hk hy=>?_) (λdd m8 T z s F H Q hl hT rp y9 hQ=>?_) (λ_ _ _ h=>h) hd]
  .have o6:k<vs.length:=by rw[rr.length];exact hk
   exact#[vs,vs[k],SqL.of (s2 _ _ (s1 _ _ hq)),by simp[o6]]
  .exact#[vs,SqL.of (s2 _ _ (s1 _ _ hq)),by rw[rr.length];exact GN _]
  .obtain⟨T,v,hT,e1,e2,hv⟩:=hy;obtain⟨d,hd,rd⟩:=rr.get' (hv vs (SqL.of (s2 _ _ (s1 _ _ hq))));exact#[T,d,v,hT,e1,e2,hd,rd.mono s1]
  .exact#[T,m8,rfl,SqT.of hT,by rw[rp.length];exact hl,kk dd m8 z s J.B F H Q (by rw[hl,b7]) rp y9 hQ]
 .exact hd.elim
def AS{x1:Nat}{tp p1 p2:Tw}{tb:TMS}(hp:TX (SB X.prog X.w) X.A X.env X.xe)(hc:X.calm=true)(hm:X.mg "enumerate"=t9)(he:ME X e te)(hG:DGs X es is)(hb:MSs X body tb)(b7:autoParam (is.length=2) zA0)(hg:autoParam (Gl X "enumerate") zA0)
  (hn:autoParam ((Ts es X.env).length=2) zA0) (m4:autoParam ((Ts es X.env).findIdx? (·.1)=none) zA0)
  (hs:autoParam (∀y,zFS X (.Call (.Name "enumerate" p1) [e] [] p2) y) zA3) (q_:autoParam (zSE X e []) zA0) (g7:autoParam (Tr [e] X.env=[(false,Tv e X.env)]) zA0):
  MSt X (.For (.Tuple es x1 tp) (.Call (.Name "enumerate" p1) [e] [] p2) body [] pos) (tM is (AQ te) tb):=by
 obtain⟨ug,Mt,kk⟩:=hG;refine#[(cV hp hc (tK hg hm (bD he.out pa_nil q_) g7) (gH hc Mt hn m4) hb.out hs).anti λE s H q=>?_];obtain⟨F0,F,z,M,kp,rs,ED,h,e⟩:=q;refine#[F,z,M,kp.kf,rs,_,h,λd v M1 F1 H1 g1 hd rd m1=>?_];split at hd
 .rename_i x;obtain⟨ha,hd⟩:=hd;have hl:=eV x;refine#[x,by rw[rep_str.mp rd],ha,tN (It':=Ites x) rfl (kp.growM rs.mb g1) (rs.growM kp.bh g1 m1) e b7 (λk F' H' s1 s2 hk=>?_) (λF' H' s1 s2=>?_) (λk F' H' x H'' s1 s2 hk hy=>?_) (λdd m8 T z s F H Q hl hT rp y9 hQ=>?_) (λ_ _ _ h=>h) hd]
  .rw[hl]at hk;exact hk
  .exact hl
  .obtain⟨T,c,hT,e1,e2,hc⟩:=hy;exact#[T,.str #[[c].toArray],.str #[[c].toArray],hT,e1,e2,ig hc,rep_str.mpr rfl]
  .exact#[T,m8,rfl,SqT.of hT,by rw[rp.length];exact hl,kk dd m8 z s J.B F H Q (by rw[hl,b7]) rp y9 hQ]
 .exact hd.elim
end
end My
namespace L2
section
variable {prog:SZ}{w:Tp}{K:Type}[DecidableEq K]{k_:HeapKind prog w K}{A:Tq}{E:KB->Os->Prop}{s:Os}{d a:KF}{k:K}{xs:List (K×KF×KB)}
def AT{v:KB}{Q:KB->Os->Prop}(hu:k_.room A)(n8:k_.is s.heap k a)(hm:s.heap.DictOfH k_ d xs)
  (h1:∀p,UN xs k=be p->Q p.2 {s with toks:=s.toks+k_.draws k})
  (h2:UN xs k=t9->∀h',h'.DictOfH k_ d (xs++[(k,a,v)])->Heap.SameBut d s.heap h'->Q v {s with heap:=h',toks:=s.toks+k_.draws k})
  (j6:xs.length<=sizeLine):To (SB prog w) A (UT d (.ref a) v) Q E s:=by
 obtain⟨o,es,ep,ho,hc,hd,he,Qt,hn⟩:=hm;unfold UT
 try with_reducible refine TR ?_
 refine KM (k_.pyHash hu n8 ?_);refine KM (wpAny_dictFind_heap (s:={s with toks:=s.toks+k_.draws k}) hu n8 ho hd he Qt hn ?_ ?_)
 .intro Lw;have OA:k∉xs.map (·.1):=not_mem_keys_of_get Lw;refine KM (Vj (KM (wpAny_updateDictKeys (hz:=by have e:=size_of_entries he;lia) (s:={s with toks:=s.toks+k_.draws k}) ho hd (P3 (h2 (atKey_none_of_get Lw) _ ⟨_,_,ep+1,Heap.get?_update_self _ ho (Obj.isFreed_of_dict (Obj.data_mapDictKeys hd _)),
   hc.mapDictKeys _,Obj.data_mapDictKeys hd _,?_,?_,?_⟩ (Heap.SameBut.update ..))))))
  .simp[he,entryOfKey]
  .intro x hx;rcases Hi.mp hx with hx|hx
   .exact k_.keeps (Qt x hx) ho hd (Heap.SameBut.update ..)
   .simp only[GM]at hx;subst hx;exact k_.keeps n8 ho hd (Heap.SameBut.update ..)
  .rw[Hj,Ib];refine#[hn,K',?_];intro x hx y hy;simp only[G7,HX,GM]at hy;subst hy;exact λe=>OA (e ▸ hx)
 .intro j p hj;refine KM (wpAny_dictEntries (s:={s with toks:=s.toks+k_.draws k}) ho hd ?_);rw[entry_at he j,hj];exact KM (Vj (P3 (h1 p (atKey_of_get hn hj))))
def AU(k_:HeapKind prog w K)(d a:KF)(hd:(d==TZ)=false)(v:KB):
  MeetsIn prog w (Builtin.«dict.setdefault» #[[.ref d,.ref a,v],[]]) (λA R s=>k_.room A.in1/\∃k xs,k_.is s.heap k a/\s.heap.DictOfH k_ d xs/\xs.length<=sizeLine/\
   (∀p,UN xs k=be p->R (.ok (.ret p.2)) {s with toks:=s.toks+k_.draws k})/\
   (UN xs k=t9->∀h',h'.DictOfH k_ d (xs++[(k,a,v)])->Heap.SameBut d s.heap h'->R (.ok (.ret v)) {s with heap:=h',toks:=s.toks+k_.draws k})):=
 .of_wp λA R s hh=>by
  obtain⟨hu,k,xs,n8,hm,hz,h1,h2⟩:=hh;unfold Builtin.«dict.setdefault»;refine KM ?_;unfold Builtin.Dict.keyAndDefault;refine KM (wpAny_notOrdered_dict hm.typeIs ?_);show To _ _ (pure (d,Value.ref a,be v)) _ _ s;refine P3 ?_;show To _ _ (if(d==TZ)=true then _ else(UT d (.ref a) v>>=_)) _ _ s;rw[if_neg (by rw[hd];exact G1)];exact KM (AT hu n8 hm (λp hp=>P3 #[p.2,rfl,h1 p hp]) (λhn h' K8 KJ=>P3 #[v,rfl,h2 hn h' K8 KJ]) hz)
end
end L2
namespace My
open Exc
def lookD:List ((Int×Int)×Int)->Int->Int->Option Int
 |[],_,_=>t9
 |((a,b),h)::r,x,y=>if a=x/\b=y then be h else lookD r x y
def kQ(x y:Int):∀a9:List ((Int×Int)×Int),valV (dtiV a9) [.inl x,.inl y]=(lookD a9 x y).map V.int
 |[]=>rfl
 |((a,b),h)::r=>by
  show valV (([.inl a,.inl b],V.int h)::dtiV r) _=_;unfold lookD;by_cases e:a=x/\b=y
  .rw[if_pos e,kg (by rw[e.1,e.2])];rfl
  .rw[if_neg e,kh (λz=>e (by
    have z':([Sum.inl a,Sum.inl b]:List Key)=[.inl x,.inl y]:=z;injection z' with z1 z2;injection z2 with z2 _;exact#[Sum.inl.inj z1,Sum.inl.inj z2])),kQ x y r]
def sdD(a9:List ((Int×Int)×Int))(x y v:Int):List ((Int×Int)×Int):=if(lookD a9 x y).isSome then a9 else a9++[((x,y),v)]
def AV:V->List V->Hp->VK->Prop:=λx vs H Q=>∃a b i j d a9,x=.ref a/\vs=[.ref b,.int d]/\H a=be (.dT (dtiV a9))/\H b=be (.tup [.int i,.int j])/\Q (.int ((lookD a9 i j).getD d)) H
def AW{X:Cx}(hu:X.A.units+1<UM):MtR X "dict.get" AV:=by
 intro pins s σ H x vs v us Q I rx rv h;obtain⟨a,b,i,j,d,a9,rfl,rfl,ha,hb,q⟩:=h;obtain⟨u,u',rfl,ru,rd⟩:=fF rv;cases(show v=Value.ref a from rx);refine yj hu I (DGet.t (k:=[.inl i,.inl j]) ha hb) ru rd λw' s' I' h_=>#[.int ((lookD a9 i j).getD d),H,I',?_,q];rw[kQ]at h_;cases e:lookD a9 i j with
 |none=>rw[e]at h_;exact h_
 |some z=>rw[e]at h_;exact h_
def rSdT:V->List V->Hp->VK->Prop:=λx vs H Q=>∃a b i j d a9,x=.ref a/\vs=[.ref b,.int d]/\H a=be (.dT (dtiV a9))/\H b=be (.tup [.int i,.int j])/\a9.length<100000/\∀w,Q (.int w) (upd H a (.dT (dtiV (sdD a9 i j d))))
variable{H:Hp}{a:KF}
def AX{o:HO}(h:H a=be o):upd H a o=H:=by
 funext b;by_cases e:b=a
 .subst e;rw[az,h]
 .rw[aq e]
def AY{X:Cx}(hu:X.A.units+1<UM):MtR X "dict.setdefault" rSdT:=by
 intro pins s σ H x vs v us Q I rx rv h;obtain⟨a,b,i,j,d,a9,rfl,rfl,ha,hb,hl,q⟩:=h;obtain⟨u,u',rfl,ru,t,rfl⟩:=fF rv;cases(show v=Value.ref a from rx);cases(show u=Value.ref b from ru);obtain⟨z,hd,xs,t_,dd⟩:=yf I.hok ha;have b7:xs.length=a9.length:=by rw[<-Paired.length t_];simp[dtiV]
 have big:(100000:Nat)<sizeLine:=K3
 have g5:H b=be (.tup (([.inl i,.inl j]:List Key).map kV)):=hb;have l5:=t_.val [.inl i,.inl j];rw[kQ]at l5;refine U8 PySem.F.slot_dict_setdefault dd.typeIs PySem.F.entry_dict_setdefault (PySem.F.args_dict_setdefault_3 _ _ _) (AU (Ut (bL X.prog X.w)) a b hd (.int d t)) #[Vn hu,[.inl i,.inl j],xs,key_of I.hok g5,dd,KK,λp hp=>?_,λhn h' Mo hs=>?_]
 .rw[hp]at l5;cases e:lookD a9 i j with
  |none=>rw[e]at l5;exact l5.elim
  |some w=>
   rw[e]at l5;have:=q w;unfold sdD at this;rw[e]at this;have e2:(if(be w:Option Int).isSome then a9 else a9++[((i,j),d)])=a9:=rfl;rw[e2,AX ha]at this;exact#[.int w,H,I.tok _,l5,this]
 .rw[hn]at l5;cases e:lookD a9 i j with
  |some w=>rw[e]at l5;exact l5.elim
  |none=>
   have e2:sdD a9 i j d=a9++[((i,j),d)]:=by unfold sdD;rw[e];rfl
   have e3:dtiV (sdD a9 i j d)=dtiV a9++[([.inl i,.inl j],.int d)]:=by rw[e2];simp[dtiV]
   obtain⟨o,es,ep,ho,hx,h3,h4,_,h5⟩:=Mo;have new:ObjOk X.prog X.w (upd H a (.dT (dtiV (sdD a9 i j d)))) h' a (.dT (dtiV (sdD a9 i j d))):=by
    refine#[by rw[e3,G2];simp[dtiV];lia,hd,_,?_,o,es,ep,ho,hx,h3,h4,h5];rw[e3];refine KT.keeps (H:=H) (Paired.snoc (a:=(([.inl i,.inl j]:List Key),V.int d)) (b:=(([.inl i,.inl j]:List Key),b,Value.int d t)) t_ #[rfl,g5,#[t,rfl]]) λc ys ec=>?_;rw[aq (vZ ec ha (λz=>nomatch z))];exact ec
   exact#[.int d,_,yg I (by rw[ha];exact True.intro) hs #[o,ho] new,#[t,rfl],q d]
section
variable {X:Cx}[J:Jm]{a b c e o f:Tn}{ta tb tc te to:TME}{pos apos cpos:Tw}{t:TMA}
def mD0:TME:=λ_ M R=>R (.dti []) M
def AZ:ME X (.Dict [] [] pos) mD0:=⟨pe_dnewT.anti λs H Q q=>by
 obtain⟨F,z,M,k,rs,R,h1,h2⟩:=q;intro p hp;have gn:=Grow.new k.fh hp (.dT []);exact h2 _ _ M _ _ gn.toM h1 (rep_dti.mpr #[p,rfl,az]) (rs.rm.grow gn)⟩
def mDN:TME:=λ_ M R=>∀p,p∉au M->R (.ptr p) ((p,.dti [])::M)
def A1:ME X (.Dict [] [] pos) mDN:=⟨pe_dnewT.anti λs H Q q=>by
 obtain⟨F,z,M,k,rs,R,h1,h2⟩:=q;intro p hp;exact h2 _ _ _ F _ (GrowM.new k.fh hp) (h1 p λz=>rs.rm.here z hp) (rep_ptr.mpr rfl) (rs.rm.new k.fh hp az)⟩
def A2(to:TME)(t:TMA):TME:=λz M R=>to z M λd M1=>match d with|.dti a9=>(t z M1 λds M2=>match ds with|[.tup [.int i,.int j],.int x]=>R (.int ((lookD a9 i j).getD x)) M2|_=>False)|_=>False
def A3(hu:X.A.units+1<UM)(ho:ME X o to)(ha:MA X [e,f] t)(b8:autoParam (Tt o "get" X.env (Tv o X.env)=Tv o X.env) zA0)
  (d8:autoParam (zHF X cpos [e,f]) zA0)
  (c8:autoParam ((apos.endLine==cpos.line)=true) zA0) (n_:autoParam (zSE X e [f]) zA0) (c5:autoParam (zPL X cpos [f]) zA0):
  ME X (.Call (.Attribute o "get" apos) [e,f] [] cpos) (A2 to t):=⟨(eg PySem.F.plainAttrs_dict PySem.F.slot_dict_get PySem.F.type_dict_get (AW hu) ho.out ha.out b8 d8 c8 n_ c5).anti λs H Q h=>by
 obtain⟨F,z,M,k,rs,R,h1,h2⟩:=h;refine#[F,z,M,k,rs,_,h1,λx u M1 F1 H1 g1 hx rx m1=>?_];split at hx
 .rename_i a9;obtain⟨p,rfl,hp⟩:=rep_dti.mp rx;refine#[.inr (.inr (.inl #[rfl,.inr #[_,g1.fh _ _ hp]])),?_];refine#[F1,z,M1,k.growM rs.mb g1,rs.growM k.bh g1 m1,_,hx,λds vs M2 F2 H2 g2 hd rd m2=>?_];split at hd
  .rename_i i j x;obtain⟨v1,r1,rfl,q1,q2⟩:=reps_cons.mp rd;obtain⟨v2,r2,rfl,q3,q4⟩:=reps_cons.mp q2;rw[reps_nil.mp q4,rep_int.mp q3];obtain⟨b,us,rfl,hb,ru⟩:=rep_tupS.mp q1;have OB:us=[.int i,.int j]:=(Reps.ints (ns:=[i,j])).mp ru;subst OB;exact#[p,b,i,j,x,a9,rfl,rfl,g2.fh _ _ (g2.ff _ _ hp),g2.fh _ _ hb,h2 _ _ M2 F2 H2 (g1.trans g2) hd (rep_int.mpr rfl) m2]
  .exact hd.elim
 .exact hx.elim⟩
def mDsd(to:TME)(t:TMA):TME:=λz M R=>to z M λd M1=>match d with|.ptr a=>(∃a9,mget M1 a=be (.dti a9))/\(t z M1 λds M2=>match ds with|[.tup [.int i,.int j],.int x]=>∃a9,mget M2 a=be (.dti a9)/\a9.length<100000/\∀w,R (.int w) (mput M2 a (.dti (sdD a9 i j x)))|_=>False)|_=>False
def A5(hu:X.A.units+1<UM)(ho:ME X o to)(ha:MA X [e,f] t)(b8:autoParam (Tt o "setdefault" X.env (Tv o X.env)=Tv o X.env) zA0)
  (d8:autoParam (zHF X cpos [e,f]) zA0)
  (c8:autoParam ((apos.endLine==cpos.line)=true) zA0) (n_:autoParam (zSE X e [f]) zA0) (c5:autoParam (zPL X cpos [f]) zA0):
  ME X (.Call (.Attribute o "setdefault" apos) [e,f] [] cpos) (mDsd to t):=⟨(eg PySem.F.plainAttrs_dict PySem.F.slot_dict_setdefault PySem.F.type_dict_setdefault (AY hu) ho.out ha.out b8 d8 c8 n_ c5).anti λs H Q h=>by
 obtain⟨F,z,M,k,rs,R,h1,h2⟩:=h;refine#[F,z,M,k,rs,_,h1,λx u M1 F1 H1 g1 hx rx m1=>?_];split at hx
 .rename_i a;obtain⟨⟨SY,Ou⟩,hx⟩:=hx;rw[rep_ptr.mp rx];refine#[.inr (.inr (.inl #[rfl,.inr #[_,m1.ok _ _ (bw Ou)]])),?_];refine#[F1,z,M1,k.growM rs.mb g1,rs.growM k.bh g1 m1,_,hx,λds vs M2 F2 H2 g2 hd rd m2=>?_];split at hd
  .rename_i i j x;obtain⟨a9,hm,hl,hR⟩:=hd;obtain⟨v1,r1,rfl,q1,q2⟩:=reps_cons.mp rd;obtain⟨v2,r2,rfl,q3,q4⟩:=reps_cons.mp q2;rw[reps_nil.mp q4,rep_int.mp q3];obtain⟨b,us,rfl,hb,ru⟩:=rep_tupS.mp q1;have OB:us=[.int i,.int j]:=(Reps.ints (ns:=[i,j])).mp ru;subst OB;refine#[a,b,i,j,x,a9,rfl,rfl,m2.ok _ _ (bw hm),g2.fh _ _ hb,hl,λw=>?_];exact h2 _ _ _ F2 _ (g1.trans (g2.trans (GrowM.put g2.fh (m2.fr a (bW (bw hm))) hm))) (hR w) (rep_int.mpr rfl) (m2.put hm az)
  .exact hd.elim
 .exact hx.elim⟩
end
section
variable {P:SZ}{w:Tp}{K:Ex}{mg:F_->Option KB}{base:Heap}
open Classical in
def Cls.okIM{x qual:F_}{st:SL}{f C:KF}{fd:Tu}{N:List F_}{p0:F_}{ps:List F_}{k:Nat}{S:SiD}(T:Fun K "__init__" qual st f fd)(hb:Binds K fd (p0::ps) [])(F:FnScope N (p0::ps) (ag st))(len:∀ds R,S ds R->ds.length=ps.length)
  (hns:nsIn K Pi x=be (be (.ref C))) (j9:mg x=be (.ref C)) (mk:Mk K C f)
  (a8:∀(cdv:KB) (A:Tq) (outer:List Um) (s:Os) (H:Hp) (E:XK) (J:Jm),Room k (A.deeper (TB qual (ag st) s.heap.objs.size f cdv))->XOkM (cxOf (CX1 P w) P w K mg base N qual (ag st) f cdv A outer s H E).nox->
   ∃t,MSs (cxOf (CX1 P w) P w K mg base N qual (ag st) f cdv A outer s H E).nox (aL st) t/\∀a ds R,(∀z M x fs,¬J.RM z M x fs)->S ds R->t {nx:=λ_ M'=>∃fs,M'=[(a,.ins x fs)]/\R fs,rt:=λ_ _=>False} (startD N (.ptr a::ds)) [(a,.ins x [])]):CalM P w K mg base (k+1) x (p0::ps) S:=by
 refine#[C,f,fd,hns,j9,mk,Fun.okC T F (λvs H Q E h=>?_) (λcdv A outer s H vs Q E hr h=>?_),hb]
 .obtain⟨a,dx,us,H1,F,ds,rfl,_,_,_,_,_,rs,R,h,_⟩:=h;rw[GU,GU,rs.length,len ds R h]
 .obtain⟨a,dx,us,H1,F1,ds,rfl,rfl,ha,o7,j8,fh,rs,R,h,q⟩:=h
  let H:Hp:=upd (upd H1 dx (.own a)) a (.ins C dx [])
  let B:Hp:=λb=>if b=a then t9 else H b
  have Mu:B a=none:=if_pos rfl;have hB:∀{b:KF},b≠a->B b=H b:=λ{b} h=>if_neg h;have m6:∀{b:KF} {o:HO},H1 b=be o->b≠a/\H b=be o:=λ{b o} e=>by
   have n1:b≠a:=bG e ha;exact#[n1,by show upd _ _ _ b=_;rw[aq n1,aq (bG e o7)];exact e]
  letI:Jm:={B:=B,F0:=F1,RX:=λ_ _ _=>False,RM:=λ_ _ _ _=>False}
  have hx:XOkM (cxOf (CX1 P w) P w K mg base N qual (ag st) f cdv A outer s H E).nox:=λσ z M' F' H' s' e C od y fs I kk rr hR er _=>hR.elim;obtain⟨t,ht,hq⟩:=a8 cdv A outer s H E inferInstance hr hx;have Fa:F1 a=none:=fh.free ha;have k0:Kept B F1 F1 H:=⟨λb o e=>by
   by_cases n:b=a
   .rw[n,Mu]at e;cases e
   .rw[hB n]at e;exact e,λb o e=>(m6 (fh b o e)).2,Same.refl F1,λ_ h _=>h,rfl,Same.refl F1,λ_ h _=>h⟩
  have y9:Reps K F1 (.ptr a::ds) (.ref a::us):=reps_cons.mpr #[_,_,rfl,rep_ptr.mpr rfl,rs];have OC:RepM K F1 H [(a,.ins x [])]:=⟨by simp[au],λb o hb=>by
   have e:=GM.mp hb;cases e;exact#[C,dx,[],hns,az,repf_nil.mpr rfl],λb hb=>by
   have e:b=a:=by simpa[au]using hb
   rw[e];exact Fa⟩
  have r0:RepZ K B F1 H (startD N (.ptr a::ds)) (L2.start N (.ref a::us)) [(a,.ins x [])]:=⟨dF y9,kP y9,OC,λb hb=>by
   have e:b=a:=by simpa[au]using hb
   rw[e];exact Mu⟩
  refine#[_,ht.out.nox,F1,F1,_,_,k0,r0,_,hq a ds R (λ_ _ _ _ z=>z) h,#[λz' s' M' F' H' kk hn r=>?_,λd v M' F' H' kk hd rd Ow mb=>hd.elim,λ_ _ _ _ _ _ h _=>h.elim,λ_ _ _ _ _ _ h _=>h.elim]];obtain⟨fs,rfl,hR⟩:=hn;obtain⟨C',Kn,ws,g8,e8,rf⟩:=r.rm.ok a _ (GM.mpr rfl);have K4:nsIn K Pi x=be (be (.ref C')):=g8;rw[hns]at K4;cases K4;exact q fs ws Kn F' H' ⟨kk.f0,kk.fh,λb o e=>kk.bh b o (by show B b=be o;rw[hB (m6 e).1];exact(m6 e).2),λb h1 h2=>kk.out b h1 (by
   show B b≠t9;cases e:H1 b with
   |none=>exact absurd e h2
   |some o=>rw[hB (m6 e).1,(m6 e).2];exact λz=>nomatch z)⟩ hR e8 (r.rm.fr a (by simp[au])) rf
end
section
variable {P:SZ}{w:Tp}{K:Ex}{mg:F_->Option KB}{base:Heap}{n:Nat}{x m:F_}{ps:List F_}
variable{S:SpM}
def CalMth.one(h:CalMth P w K mg base n x m ps (lSpM K S)):∀y,y∈[x]->CalMth P w K mg base n y m ps (lSpM K ((λ_=>S) y)):=λy hy=>by
 rw[GM.mp hy];exact h
def tO{f:KF}{fd:Tu}{sp:Sp}(h:∀vs H Q E,¬sp vs H Q E):FnOk P w K mg base (CX1 P w) n f fd ps sp:=#[λvs H Q E q=>(h _ _ _ _ q).elim,λA outer s H args us vs Q E _ _ _ _ q=>(h _ _ _ _ q).elim]
def tP(h:∀ds M R RX,¬S ds M R RX):∀vs H Q E,¬lSpM K S vs H Q E:=by
 rintro vs H Q E⟨F,ds,M,_,_,_,R,RX,q,_⟩;exact h ds M R RX q
def CalMth.never{qual:F_}{st:SL}(T:Txm K x m qual st ps)(h:∀ds M R RX,¬S ds M R RX):CalMth P w K mg base n x m ps (lSpM K S):=by
 obtain⟨C,f,fd,h1,h2,h3,T,hb⟩:=T;exact#[C,f,fd,h1,h2,h3,tO (tP h),hb]
def CalMM.never{st:SL}(T:Tx K mg x st ps)(h:∀ds M R RX,¬S ds M R RX):CalMM P w K mg base n x ps S:=by
 obtain⟨f,fd,T,hb,hm⟩:=T;exact#[f,fd,tO (tP h),hb,T.kp,hm]
end
def kR(S:SpM):SpM:=λds M R RX=>∃M1 M2,M=M1++M2/\S ds M2 (λd M'=>R d (M1++M')) λx fs M'=>RX x fs (M1++M')
def keys_app{M1 M2:MS}:a∈au (M1++M2)↔a∈au M1\/a∈au M2:=by unfold au;rw[Hj,Hi]
variable{K:Ex}{vs:List V}
def tQ{S:SpM}{Q:VK}{E:XK}(h:lSpM K (kR S) vs H Q E):lSpM K S vs H Q E:=by
 obtain⟨F,ds,M,fh,rs,rm,R,RX,⟨M1,M2,rfl,hS⟩,q,qx⟩:=h;have nd:(au M1++au M2).Nodup:=by have:=rm.nd;unfold au at this ⊢;rw[Hj]at this;exact this
 have OD:∀{a:KF},a∈au M1->a∉au M2:=λ{a} h1 h2=>(Ib.mp nd).2.2 a h1 a h2 rfl;have RR:RepM K F H M2:=#[(Ib.mp nd).2.1,λa o h=>rm.ok a o (Ha _ h),λa h=>rm.fr a (keys_app.mpr (.inr h))];have up:∀{M':MS} {F' H':Hp},GrowM M2 M' F H F' H'->RepM K F' H' M'->GrowM (M1++M2) (M1++M') F H F' H'/\RepM K F' H' (M1++M'):=λ{M' F' H'} g r=>by
  have Qu:∀{a:KF},a∈au M1->H a≠none:=λ{a} h=>rm.here (keys_app.mpr (.inl h));have OE:∀{a:KF},a∈au M1->a∉au M':=λ{a} h1 h2=>by
   rcases g.ks a h2 with z|z
   .exact OD h1 z
   .exact Qu h1 z
  refine#[#[g.ff,g.fh,λb o nb e=>g.hh b o (λz=>nb (keys_app.mpr (.inr z))) e,λb nb h1 h2=>g.out b (λz=>nb (keys_app.mpr (.inr z))) h1 h2,λb hb=>?_],#[?_,λa o h=>?_,λa h=>?_]]
  .rcases keys_app.mp hb with z|z
   .exact .inl (keys_app.mpr (.inl z))
   .exact(g.ks b z).imp (λz=>keys_app.mpr (.inr z)) id
  .unfold au;rw[Hj];exact Ib.mpr #[(Ib.mp nd).1,r.nd,λa h1 b h2 e=>OE h1 (e ▸ h2)]
  .rcases Hi.mp h with z|z
   .have ka:a∈au M1:=bW z;exact(rm.ok a o (HV _ z)).mono g.ff λo e=>g.hh a o (OD ka) e
   .exact r.ok a o z
  .rcases keys_app.mp h with z|z
   .exact g.out a (OD z) (rm.fr a (keys_app.mpr (.inl z))) (Qu z)
   .exact r.fr a z
 exact#[F,ds,M2,fh,rs,RR,_,_,hS,λd v M' F' H' g hd rd m'=>q d v _ F' H' (up g m').1 hd rd (up g m').2,λx fs C od M' F' H' g hR er m'=>qx x fs C od _ F' H' (up g m').1 hR er (up g m').2]
section
variable {P:SZ}{w:Tp}{K:Ex}{mg:F_->Option KB}{base:Heap}{n:Nat}{x m:F_}{ps:List F_}{S:SpM}
def CalMM.frame(C:CalMM P w K mg base n x ps S):CalMM P w K mg base n x ps (kR S):=C.imp λ_ _ _ _ h=>tQ h
def CalMth.frame(C:CalMth P w K mg base n x m ps (lSpM K S)):CalMth P w K mg base n x m ps (lSpM K (kR S)):=C.imp λ_ _ _ _ h=>tQ h
end
def nilX(S:SpX):SpM:=λds M R RX=>M=[]/\∃(R0:D->Prop) (Ks:XD),S ds R0 Ks/\(∀d M',R0 d->R d M')/\∀x fs M',Ks x fs->RX x fs M'
def CalMM.nilX{P:SZ}{w:Tp}{mg:F_->Option KB}{base:Heap}{n:Nat}{x:F_}{ps:List F_}{S:SpX}(C:CalMM P w K mg base n x ps (nilX S)):CalX P w K mg base n x ps S:=C.toX λ_ R RX h=>#[rfl,R,RX,h,λ_ _ h=>h,λ_ _ _ h=>h]
mutual
def cq:D->Bool
 |.non=>true|.bl _=>true|.int _=>true|.str _=>true|.ptr _=>true
 |.tup ds=>flats ds
 |.lst ds=>flats ds
 |_=>false
def flats:List D->Bool
 |[]=>true
 |d::ds=>cq d&&flats ds
end
def cutF(F:Hp)(a:KF):Hp:=λb=>if b=a then t9 else F b
variable{F:Hp}
def fY{b:KF}(h:b≠a):cutF F a b=F b:=if_neg h
mutual
def Rep.cutF{K:Ex}{F:Hp}{a:KF}{C:KF}{dx:KF}{ws:List (F_×V)}(ea:F a=be (.ins C dx ws)):∀(d:D) (v:V),cq d=true->Rep K F d v->Rep K (My.cutF F a) d v
 |.non,v,_,h=>by unfold Rep at h ⊢;exact h
 |.bl b,v,_,h=>by unfold Rep at h ⊢;exact h
 |.int b,v,_,h=>by unfold Rep at h ⊢;exact h
 |.str b,v,_,h=>by unfold Rep at h ⊢;exact h
 |.ptr b,v,_,h=>by unfold Rep at h ⊢;exact h
 |.tup ds,v,n,h=>by
  unfold Rep at h ⊢;obtain⟨p,vs,e,q,r⟩:=h;have ne:p≠a:=λz=>by rw[z,ea]at q;cases q
  exact#[p,vs,e,by rw[fY ne];exact q,Reps.cutF ea ds vs (by unfold cq at n;exact n) r]
 |.lst ds,v,n,h=>by
  unfold Rep at h ⊢;obtain⟨p,vs,e,q,r⟩:=h;have ne:p≠a:=λz=>by rw[z,ea]at q;cases q
  exact#[p,vs,e,by rw[fY ne];exact q,Reps.cutF ea ds vs (by unfold cq at n;exact n) r]
 |.rol _,_,n,_=>by unfold cq at n;cases n
 |.obj _ _,_,n,_=>by unfold cq at n;cases n
 |.exc _ _,_,n,_=>by unfold cq at n;cases n
 |.own _,_,n,_=>by unfold cq at n;cases n
 |.dti _,_,n,_=>by unfold cq at n;cases n
def Reps.cutF{K:Ex}{F:Hp}{a:KF}{C:KF}{dx:KF}{ws:List (F_×V)}(ea:F a=be (.ins C dx ws)):∀(ds:List D) (vs:List V),flats ds=true->Reps K F ds vs->Reps K (My.cutF F a) ds vs
 |[],vs,_,h=>by unfold Reps at h ⊢;exact h
 |d::ds,vs,n,h=>by
  unfold flats at n;rw[Hf]at n;unfold Reps at h ⊢;obtain⟨v,r,e,q1,q2⟩:=h;exact#[v,r,e,Rep.cutF ea d v n.1 q1,Reps.cutF ea ds r n.2 q2]
end
def lendD(a:KF)(o:D)(d:D):D:=match d with|.ptr b=>if b=a then o else .ptr b|d=>d
def lend(S:SpX):SpM:=λds M R _=>∃a x fs,mget M a=be (.ins x fs)/\S (ds.map (lendD a (.obj x fs))) (λd=>cq d=true/\R d M) λ_ _=>False
def A6{F2:Hp}{o d:D}{v:V}(g:Same F F2)(ro:Rep K F2 o (.ref a))(h:Rep K F d v):Rep K F2 (lendD a o d) v:=by
 unfold lendD;split
 .rename_i b;split
  .rename_i e;rw[rep_ptr.mp h,e];exact ro
  .exact rep_ptr.mpr (rep_ptr.mp h)
 .exact h.mono g
def A7{F2:Hp}{o:D}(g:Same F F2)(ro:Rep K F2 o (.ref a)){ds:List D}:∀{vs:List V},Reps K F ds vs->Reps K F2 (ds.map (lendD a o)) vs:=by
 induction ds with
 |nil=>intro vs h;rw[reps_nil.mp h];exact reps_nil.mpr rfl
 |cons d ds ih=>
  intro vs h;obtain⟨v,r,rfl,q1,q2⟩:=reps_cons.mp h;exact reps_cons.mpr #[v,r,rfl,A6 g ro q1,ih q2]
def A8{S:SpX}{Q:VK}{E:XK}(h:lSpM K (lend S) vs H Q E):lSpX K S vs H Q E:=by
 obtain⟨F,ds,M,fh,rs,rm,R,RX,⟨a,x,fs,hm,hS⟩,q,qx⟩:=h;have ma:=bw hm;obtain⟨C,dx,ws,n,hH,rf⟩:=rm.ok _ _ ma;have fa:=rm.fr a (bW ma);have g:Same F (upd F a (.ins C dx ws)):=aN fa _;have g2:Same (upd F a (.ins C dx ws)) H:=λb o e=>by
  by_cases hb:b=a
  .subst hb;rw[az]at e;cases e;exact hH
  .rw[aq hb]at e;exact fh b o e
 have ro:Rep K (upd F a (.ins C dx ws)) (.obj x fs) (.ref a):=by
  unfold Rep;exact#[a,C,dx,ws,rfl,n,az,RepF.mono g fs ws rf]
 refine#[upd F a (.ins C dx ws),_,g2,A7 g ro rs,_,_,hS,λd v F' H' g' hd rd=>?_,λ_ _ _ _ _ _ _ z=>z.elim];have ea:F' a=be (.ins C dx ws):=g'.ff a _ az;have ff:Same F (cutF F' a):=λb o e=>by
  have ne:b≠a:=λz=>by rw[z,fa]at e;cases e
  rw[fY ne];exact g'.ff b o (by rw[aq ne];exact e)
 have RS:Same (cutF F' a) H':=λb o e=>by
  by_cases hb:b=a
  .subst hb;unfold cutF at e;rw[if_pos rfl]at e;cases e
  .rw[fY hb]at e;exact g'.fh b o e
 have out:∀b,F b=t9->H b≠t9->cutF F' a b=none:=λb h1 h2=>by
  by_cases hb:b=a
  .subst hb;exact if_pos rfl
  .rw[fY hb];exact g'.out b (by rw[aq hb];exact h1) h2
 exact q d v M (cutF F' a) H' #[ff,RS,λb o _ e=>g'.hh b o e,λb _ h1 h2=>out b h1 h2,λb z=>.inl z] hd.2 (Rep.cutF ea d v hd.1 rd)
  #[rm.nd,λb o hb=>(rm.ok b o hb).mono ff λo e=>g'.hh b o e,λb hb=>out b (rm.fr b hb) (rm.here hb)]
def NoOwn(z:SD):Prop:=∀(i:Nat) ds,z[i]?≠be (be (.own ds))
def ofB(B H:Hp)(M:MS):Hp:=λb=>if b∈au M then H b else B b
def jOf(B H F:Hp)(M:MS):Jx:=#[ofB B H M,F,λ_ _ _=>False]
def endD(E:EndsM)(M:MS):EndsD:=#[λz=>E.nx z M/\NoOwn z,λd=>E.rt d M,λz=>E.bk z M/\NoOwn z,λz=>E.ct z M/\NoOwn z]
section
variable {X:Cx}[J:Jm]
variable{B H:Hp}{M:MS}
def kS{b:KF}(h:b∈au M):ofB B H M b=H b:=if_pos h
def kT{b:KF}(h:b∉au M):ofB B H M b=B b:=if_neg h
variable{K:Ex}{F0 F:Hp}{z:SD}{s:L2.St}
def dg{F' H':Hp}(k:Kept J.B F0 F H)(rz:RepZ K J.B F H z s M)(k':@Kept (jOf J.B H F M) (ofB J.B H M) F F' H'):Kept J.B F0 F' H'/\RepM K F' H' M:=by
 have nk:∀b,J.B b≠t9->b∉au M:=λb e z=>e (rz.mb b z);obtain⟨bh,fh,f0,out,_,_,_⟩:=k';refine#[#[λb o e=>?_,fh,k.f0.trans f0,λb h1 h2=>?_,k.eb,k.jf,k.jo],rz.rm.nd,λb o hb=>(rz.rm.ok b o hb).mono f0 λo e=>?_,λb hb=>?_]
 .exact bh b o (by rw[kT (nk b (by rw[e];exact λz=>nomatch z))];exact e)
 .exact out b (k.out b h1 h2) (by rw[kT (nk b h2)];exact h2)
 .exact bh b o (by rw[kS (bW hb)];exact e)
 .exact out b (rz.rm.fr b hb) (by rw[kS hb];exact rz.rm.here hb)
def iq{B':Hp}(r:RepS K B F H z s)(no:NoOwn z):RepS K B' F H z s:=#[r.len,r.val,λi ds e=>absurd e (no i ds),r.apart]
def A9(k:Kept J.B F0 F H):@Kept (jOf J.B H F M) (ofB J.B H M) F F H:=
 @Kept.mk (jOf J.B H F M) _ _ _ _ (λb o e=>by
  by_cases hb:b∈au M
  .rw[kS hb]at e;exact e
  .rw[kT hb]at e;exact k.bh b o e) k.fh (Same.refl F) (λ_ h _=>h) rfl (Same.refl F) (λ_ h _=>h)
def Ba{ED:EndsM}{D:Ends}(k:Kept J.B F0 F H)(rz:RepZ K J.B F H z s M)(e:EndsOkM K F0 ED D):@EndsOk (jOf J.B H F M) K (ofB J.B H M) F (endD ED M) D:=
 @EndsOk.mk (jOf J.B H F M) _ _ _ _ _ (λz' s' F' H' k' hz r'=>e.nx z' s' M F' H' (dg k rz k').1 hz.1 #[iq r' hz.2,hz.2,(dg k rz k').2,rz.mb])
  (λd v F' H' k' hd rd=>e.rt d v M F' H' (dg k rz k').1 hd rd (dg k rz k').2 rz.mb)
  (λz' s' F' H' k' hz r'=>e.bk z' s' M F' H' (dg k rz k').1 hz.1 #[iq r' hz.2,hz.2,(dg k rz k').2,rz.mb])
  (λz' s' F' H' k' hz r'=>e.ct z' s' M F' H' (dg k rz k').1 hz.1 #[iq r' hz.2,hz.2,(dg k rz k').2,rz.mb])
def mTry(tb:Jm->TMS)(th:TH):TMS:=λE z M=>∃RM:SD->MS->XD,(∀J':Jm,J'.RM=RM->tb J' E z M)/\∀z' M' x fs,RM z' M' x fs->th x fs (endD E M') z'
def jTry(B F0:Hp)(RM:SD->MS->XD):Jm:={B:=B,F0:=F0,RX:=λ_ _ _=>False,RM:=RM}
variable{RM:SD->MS->XD}
def Kept.reM(k:Kept J.B F0 F H):@Kept (jTry J.B F0 RM).toJx J.B F0 F H:=@Kept.mk (jTry J.B F0 RM).toJx J.B F0 F H k.bh k.fh k.f0 k.out rfl (Same.refl F0) (λ_ h _=>h)
def Kept.unM{F' H':Hp}(k:Kept J.B F0 F H)(k':@Kept (jTry J.B F0 RM).toJx J.B F0 F' H'):Kept J.B F0 F' H':=by
 obtain⟨a,b,c,d,_,_,_⟩:=k';exact#[a,b,c,d,k.eb,k.jf,k.jo]
def tR{body:List SL}{h₀:T5}{hs:List T5}{pos:Tw}{tb:Jm->TMS}{th:TH}
  (hb:∀(pn:List (KF×TL)) (xe:KB->Os->Prop) (J':Jm),TX (SB X.prog X.w) X.A X.env xe->@XOkM (X.tried pn xe) J'->@MSs (X.tried pn xe) J' body (tb J'))
  (hh:∀J':Jx,@WDH X J' (h₀::hs) th) (d9:autoParam (X.ex=[]) zA0) (y7:autoParam (X.stack=X.env::X.outer) zA0) (l7:autoParam (X.env.frame=be X.env.locals) zA0):MSt X (.Try body (h₀::hs) [] [] pos) (mTry tb th):=⟨by
 intro pins s σ H D I h;obtain⟨F0,F,z,M,k,rz,ED,⟨RM,h1,h2⟩,ee⟩:=h;have ok:=I.ok;have hx:@XOkM (X.tried (X.pn++pins) (λe s₁=>To (SB X.prog X.w) X.A (Uu e X.env) (λ_ s₂=>To (SB X.prog X.w) X.A (UJ e t9) (λ_ s₃=>To (SB X.prog X.w) X.A (US e X.env (h₀::hs)) (SP X pins D) X.xe s₃) X.xe s₂) X.xe s₁)) (jTry J.B F0 RM):=by
  intro σ' z' M' F' H' s' e C od x fs I1 kk rr hR er hd;have k2:Kept J.B F0 F' H':=Kept.unM k kk;exact zR (Inv.untried ok I1) hd d9 y7 l7 λs4 T2 I4 hl=>@WDH.out X (jOf J.B H' F' M') _ _ (hh _) pins s4 σ' H' D e C od T2 x fs (ofB J.B H' M') F' F' z' (endD ED M') I4 hl (A9 k2) (iq rr.rs rr.no) er (h2 z' M' x fs hR) (Ba k2 rr ee)
 refine wpAny_Try_except (TF (@MSs.out _ (jTry J.B F0 RM) _ _ (hb (X.pn++pins) _ (jTry J.B F0 RM) PassesOwn.looking hx) [] s σ H D (Inv.tried I) ?_) (λf s1 q=>?_) λe s1 q=>q)
 .exact#[F0,F,z,M,Kept.reM k,rz,ED,h1 (jTry J.B F0 RM) rfl,@EndsOkM.mk (jTry J.B F0 RM) _ _ _ _ (λz' s' M' F' H' k'=>ee.nx z' s' M' F' H' (Kept.unM k k')) (λd v M' F' H' k'=>ee.rt d v M' F' H' (Kept.unM k k')) (λz' s' M' F' H' k'=>ee.bk z' s' M' F' H' (Kept.unM k k')) (λz' s' M' F' H' k'=>ee.ct z' s' M' F' H' (Kept.unM k k'))]
 .have q:=SP.untried ok q;cases f with
  |next=>exact Ui q
  |ret v=>exact q
  |brk=>exact q
  |cont=>exact q⟩
end
end My
namespace My
section
variable {K:Ex}{h:Heap}{mg:F_->Option KB}{x y m q f:F_}{st:SL}{ps:List F_}
abbrev NsC(K:Ex)(x:F_)(C:KF):Prop:=nsIn K Pi x=be (be (.ref C))
variable{C:KF}
def NsC.uniq{D:KF}(a:NsC K x C)(b:NsC K x D):C=D:=by
 have e:=a.symm.trans b;cases e;rfl
abbrev BindA(x q:F_)(st:SL)(ps:List F_):Prop:=∀(kV doc pm:KB) (an:Option KF) (cdv ct:KB) (us:List KB),us.length=ps.length->Uo (fnOf x q (bv st) (aL st) (ag st) .none kV doc pm an cdv ct) #[us,[]]=pure (ps.zip us)
def FnIn(K:Ex)(x:F_)(st:SL):Prop:=∃f fd,NsC K x f/\Fun K x x st f fd
variable{oc kV dc pm cd ct:KB}{od an:Option KF}{sl:Array (Option KB)}
def fnIn_mk{f:KF}(a:nsIn K Pi x=be (be (.ref f)))(l:K.lookup f=be #[oc,od,.func (fnOf x x (bv st) (aL st) (ag st) .none kV dc pm an cd ct),sl])(c:codeIn K cd x=true)(k:keepIn K (.ref f)=true):FnIn K x st:=#[f,_,a,gP l c k]
def FnIn.tx(T:FnIn K x st)(X:K.In h)(G:h.Ns Pi mg)(b:BindA x x st ps):Tx K mg x st ps:=by
 obtain⟨f,fd,a,F⟩:=T;exact#[f,fd,F,F.binds b,mg_of X G a]
def FnIn.law{p:F_}(T:FnIn K x st)(X:K.In h)(G:h.Ns Pi mg){fa:KF}(Lf:mg x=be (.ref fa))(b:∀(kV doc pm:KB) (an:Option KF) (cdv ct v:KB),Uo (fnOf x x (bv st) (aL st) (ag st) .none kV doc pm an cdv ct) #[[v],[]]=pure [(p,v)]):∃fd,(∀(s:Os) (v:KB),Ux s fd #[[v],[]] [(p,v)])/\Fun K x x st fa fd:=by
 obtain⟨f,fd,a,F⟩:=T;have e:=Lf.symm.trans (mg_of X G a);cases e;refine#[fd,λs v=>?_,F];obtain⟨oc,od,kV,doc,pm,an,cdv,ct,osl,rfl,lk,gV⟩:=F.ex;exact .of_eq (b _ _ _ _ _ _ v)
variable{us:List KB}
def bz{x:F_}{xs:List F_}(h:us.length=(x::xs).length):∃u t,us=u::t/\t.length=xs.length:=by
 cases us with
 |nil=>cases h
 |cons u t=>exact#[u,t,rfl,Nat.succ.inj h]
def len_0(h:us.length=([]:List F_).length):us=[]:=JL h
variable{x0:F_}
def Bb(b:∀(kV doc pm:KB) (an:Option KF) (cdv ct u0:KB),Uo (fnOf x q (bv st) (aL st) (ag st) .none kV doc pm an cdv ct) #[[u0],[]]=pure [(x0,u0)]):BindA x q st [x0]:=λkV doc pm an cdv ct us hl=>by
 obtain⟨u0,t0,rfl,h0⟩:=bz hl;cases len_0 h0;exact b kV doc pm an cdv ct u0
variable{x1:F_}
def bind2(b:∀(kV doc pm:KB) (an:Option KF) (cdv ct u0 u1:KB),Uo (fnOf x q (bv st) (aL st) (ag st) .none kV doc pm an cdv ct) #[[u0,u1],[]]=pure [(x0,u0),(x1,u1)]):BindA x q st [x0,x1]:=λkV doc pm an cdv ct us hl=>by
 obtain⟨u0,t0,rfl,h0⟩:=bz hl;obtain⟨u1,t1,rfl,h1⟩:=bz h0;cases len_0 h1;exact b kV doc pm an cdv ct u0 u1
variable{x2:F_}
def bind3(b:∀(kV doc pm:KB) (an:Option KF) (cdv ct u0 u1 u2:KB),Uo (fnOf x q (bv st) (aL st) (ag st) .none kV doc pm an cdv ct) #[[u0,u1,u2],[]]=pure [(x0,u0),(x1,u1),(x2,u2)]):BindA x q st [x0,x1,x2]:=λkV doc pm an cdv ct us hl=>by
 obtain⟨u0,t0,rfl,h0⟩:=bz hl;obtain⟨u1,t1,rfl,h1⟩:=bz h0;obtain⟨u2,t2,rfl,h2⟩:=bz h1;cases len_0 h2;exact b kV doc pm an cdv ct u0 u1 u2
def bind4{x3:F_}(b:∀(kV doc pm:KB) (an:Option KF) (cdv ct u0 u1 u2 u3:KB),Uo (fnOf x q (bv st) (aL st) (ag st) .none kV doc pm an cdv ct) #[[u0,u1,u2,u3],[]]=pure [(x0,u0),(x1,u1),(x2,u2),(x3,u3)]):BindA x q st [x0,x1,x2,x3]:=λkV doc pm an cdv ct us hl=>by
 obtain⟨u0,t0,rfl,h0⟩:=bz hl;obtain⟨u1,t1,rfl,h1⟩:=bz h0;obtain⟨u2,t2,rfl,h2⟩:=bz h1;obtain⟨u3,t3,rfl,h3⟩:=bz h2;cases len_0 h3;exact b kV doc pm an cdv ct u0 u1 u2 u3
def bind5{x3 x4:F_}(b:∀(kV doc pm:KB) (an:Option KF) (cdv ct u0 u1 u2 u3 u4:KB),Uo (fnOf x q (bv st) (aL st) (ag st) .none kV doc pm an cdv ct) #[[u0,u1,u2,u3,u4],[]]=pure [(x0,u0),(x1,u1),(x2,u2),(x3,u3),(x4,u4)]):BindA x q st [x0,x1,x2,x3,x4]:=λkV doc pm an cdv ct us hl=>by
 obtain⟨u0,t0,rfl,h0⟩:=bz hl;obtain⟨u1,t1,rfl,h1⟩:=bz h0;obtain⟨u2,t2,rfl,h2⟩:=bz h1;obtain⟨u3,t3,rfl,h3⟩:=bz h2;obtain⟨u4,t4,rfl,h4⟩:=bz h3;cases len_0 h4;exact b kV doc pm an cdv ct u0 u1 u2 u3 u4
structure ClF(K:Ex)(x:Str)(C:KF):Prop where
 ns:NsC K x C
 cl:Cls K C
 ha:GR K (.ref C) "__class__"=be (be (.builtin "object.__class__"))
 hn:specialIn K (.builtin "object.__class__") "__get__"=be (be (.builtin "getset_descriptor.__get__"))
 ht:takesIn K (.builtin "object.__class__")=be true
 hm:Hx K C (.type "object")=be true
def ClIn(K:Ex)(x:F_):Prop:=∃C,ClF K x C
def clIn_mk(a:nsIn K Pi x=be (be (.ref C)))(pg:plainGet K C Str.empty=true)(hd:hasDictIn K C=true)(po:plainOver K C=true)(sa:GR K (.ref C) "__setattr__"=be (be (.builtin "object.__setattr__")))
  (ha:GR K (.ref C) "__class__"=be (be (.builtin "object.__class__"))) (hn:specialIn K (.builtin "object.__class__") "__get__"=be (be (.builtin "getset_descriptor.__get__"))) (ht:takesIn K (.builtin "object.__class__")=be true) (hm:Hx K C (.type "object")=be true):ClIn K x:=#[C,a,#[pg,hd,po,sa],ha,hn,ht,hm]
def NoIn(K:Ex)(x f:F_):Prop:=∃C,NsC K x C/\GR K (.ref C) f=be t9
def noIn_mk(a:nsIn K Pi x=be (be (.ref C)))(b:GR K (.ref C) f=be t9):NoIn K x f:=#[C,a,b]
def ClIn.a(c:ClIn K x)(n:NoIn K x f):ClsA K x f:=by
 obtain⟨C,k⟩:=c;obtain⟨D,a,b⟩:=n;cases NsC.uniq k.ns a;exact#[C,a,k.cl,b]
def NoIn.all(n:NoIn K x f):∀C,nsIn K Pi x=be (be (.ref C))->GR K (.ref C) f=be none:=λC hC=>by
 obtain⟨D,a,b⟩:=n;cases NsC.uniq hC a;exact b
def MtIn(K:Ex)(x m q:F_)(st:SL):Prop:=∃C f fd,NsC K x C/\Meth K C m f/\Fun K m q st f fd
def mtIn_mk{f:KF}(a:nsIn K Pi x=be (be (.ref C)))(b:GR K (.ref C) m=be (be (.ref f)))(i:isFn K (.ref f)=true)(l:K.lookup f=be #[oc,od,.func (fnOf m q (bv st) (aL st) (ag st) .none kV dc pm an cd ct),sl])(c:codeIn K cd q=true)(k:keepIn K (.ref f)=true):MtIn K x m q st:=#[C,f,_,a,#[b,i,k],gP l c k]
def MtIn.txm(T:MtIn K x m q st)(c:ClIn K x)(b:BindA m q st ps):Txm K x m q st ps:=by
 obtain⟨C,k⟩:=c;obtain⟨D,f,fd,a,mt,F⟩:=T;cases NsC.uniq k.ns a;exact#[C,f,fd,a,k.cl,mt,F,F.binds b]
def InIn(K:Ex)(x q:F_)(st:SL):Prop:=∃C f fd,NsC K x C/\Mk K C f/\Fun K "__init__" q st f fd
def inIn_mk{f:KF}(a:nsIn K Pi x=be (be (.ref C)))(mk:makesIn K C=true)(b:GR K (.ref C) "__init__"=be (be (.ref f)))(i:isFn K (.ref f)=true)(kp:keepIn K (.ref C)=true)(l:K.lookup f=be #[oc,od,.func (fnOf "__init__" q (bv st) (aL st) (ag st) .none kV dc pm an cd ct),sl])(c:codeIn K cd q=true)(k:keepIn K (.ref f)=true):InIn K x q st:=#[C,f,_,a,#[mk,b,i,kp],gP l c k]
def Txi(K:Ex)(mg:F_->Option KB)(x q:F_)(st:SL)(ps:List F_):Prop:=∃C f fd,NsC K x C/\mg x=be (.ref C)/\Mk K C f/\Fun K "__init__" q st f fd/\Binds K fd ps []
def InIn.txi(T:InIn K x q st)(X:K.In h)(G:h.Ns Pi mg)(b:BindA "__init__" q st ps):Txi K mg x q st ps:=by
 obtain⟨C,f,fd,a,mk,F⟩:=T;exact#[C,f,fd,a,mg_of X G a,mk,F,F.binds b]
def CiIn(K:Ex)(x:F_)(i:Int):Prop:=∃t,nsIn K Pi x=be (be (.int i t))
def CsIn(K:Ex)(x y:F_):Prop:=∃t,nsIn K Pi x=be (be (.str y t))
def ciIn_mk{i:Int}{t:Vv}(a:nsIn K Pi x=be (be (.int i t))):CiIn K x i:=#[t,a]
def csIn_mk{t:Vv}(a:nsIn K Pi x=be (be (.str y t))):CsIn K x y:=#[t,a]
def CiIn.g{i:Int}(c:CiIn K x i)(X:K.In h)(G:h.Ns Pi mg):∃t,mg x=be (.int i t):=let ⟨t,a⟩:=c;#[t,mg_of X G a]
def CsIn.g(c:CsIn K x y)(X:K.In h)(G:h.Ns Pi mg):∃t,mg x=be (.str y t):=let ⟨t,a⟩:=c;#[t,mg_of X G a]
def NnIn(K:Ex)(x:F_):Prop:=nsIn K Pi x=be t9
def nnIn_mk(a:nsIn K Pi x=be t9):NnIn K x:=a
structure ErF(K:Ex)(x:Str)(bm:List KB)(C N:KF):Prop where
 ns:NsC K x C
 kp:keepIn K (.ref C)=true
 ob:∃nm q bs sn sub ab col dd k0 k1 k2 k3 k5,K.lookup C=be (TQ nm q C N bs bm true sn sub ab col dd k0 k1 k2 k3 k5 "ValueError.__new__")
structure ErN(K:Ex)(N:KF):Prop where
 ok:nsOkIn K N=true
 no:nsIn K N "__init__"=be t9
def EbIn(K:Ex):Prop:=∃C N,ErF K "MotifError" Exc.veLine C N/\ErN K N
def EdIn(K:Ex)(x:F_)(C N:KF):Prop:=∃B,NsC K "MotifError" B/\ErF K x (.ref B::Exc.veLine) C N
def E0In(K:Ex)(x:F_):Prop:=∃C N,EdIn K x C N/\ErN K N
def E1In(K:Ex)(x q:F_)(st:SL):Prop:=∃C N f fd,EdIn K x C N/\GR K (.ref C) "__init__"=be (be (.ref f))/\isFn K (.ref f)=true/\Fun K "__init__" q st f fd
def EaIn(K:Ex)(x:F_):Prop:=∃C,NsC K x C/\GR K (.ref C) "__setattr__"=be (be (.builtin "object.__setattr__"))
def EgIn(K:Ex)(x:F_):Prop:=∃C,NsC K x C/\GR K (.ref C) "__getattribute__"=be (be (.builtin "BaseException.__getattribute__"))/\GR K (.ref C) "__getattr__"=be t9
def EiIn(K:Ex)(x:F_):Prop:=∃M,NsC K x M/\readsIn K M (.type "type")=true/\findCls K (.ref M) (.type "type") "__init__"=be (.val (.builtin "ValueError.__init__"))/\specialIn K (.ref M) "__getattribute__"=be (be (.builtin "type.__getattribute__"))
def EmIn(K:Ex)(x y:F_):Prop:=∃C D,NsC K x C/\NsC K y D/\Hx K C (.ref D)=be (subE x y)
section
variable {B C D N:KF}{nm qn:F_}{bs:List KB}{sn:List F_}{sub:List KB}{ab:Bool}{col:Option Bool}{dd:Option KF}{k0 k1 k2 k3 k5:Option KB}{nc:KB}{nd:Option KF}{ne:Array DictEntry}{np:Nat}{nl:Array (Option KB)}
def ebIn_mk(a:nsIn K Pi "MotifError"=be (be (.ref C)))(kp:keepIn K (.ref C)=true)(o:K.lookup C=be (TQ nm qn C N bs Exc.veLine true sn sub ab col dd k0 k1 k2 k3 k5 "ValueError.__new__"))(nk:K.lookup N=be #[nc,nd,.dict ne np,nl])(al:ne.toList.all (λe=>match e.key with|.str _ _=>true|_=>false)=true)(ni:nsIn K N "__init__"=be t9):EbIn K:=#[C,N,#[a,kp,_,_,_,_,_,_,_,_,_,_,_,_,_,o],sW nk al,ni]
def e0In_mk(b:nsIn K Pi "MotifError"=be (be (.ref B)))(a:nsIn K Pi x=be (be (.ref C)))(kp:keepIn K (.ref C)=true)(o:K.lookup C=be (TQ nm qn C N bs (.ref B::Exc.veLine) true sn sub ab col dd k0 k1 k2 k3 k5 "ValueError.__new__"))(nk:K.lookup N=be #[nc,nd,.dict ne np,nl])(al:ne.toList.all (λe=>match e.key with|.str _ _=>true|_=>false)=true)(ni:nsIn K N "__init__"=be t9):E0In K x:=#[C,N,#[B,b,a,kp,_,_,_,_,_,_,_,_,_,_,_,_,_,o],sW nk al,ni]
def e1In_mk{f:KF}{oc:KB}{od an:Option KF}{sl:Array (Option KB)}{kV dc pm cd ct:KB}(b:nsIn K Pi "MotifError"=be (be (.ref B)))(a:nsIn K Pi x=be (be (.ref C)))(kp:keepIn K (.ref C)=true)(o:K.lookup C=be (TQ nm qn C N bs (.ref B::Exc.veLine) true sn sub ab col dd k0 k1 k2 k3 k5 "ValueError.__new__"))
  (j:GR K (.ref C) "__init__"=be (be (.ref f))) (i:isFn K (.ref f)=true) (l:K.lookup f=be #[oc,od,.func (fnOf "__init__" q (bv st) (aL st) (ag st) .none kV dc pm an cd ct),sl]) (c:codeIn K cd q=true) (k:keepIn K (.ref f)=true):E1In K x q st:=#[C,N,f,_,#[B,b,a,kp,_,_,_,_,_,_,_,_,_,_,_,_,_,o],j,i,gP l c k]
def eaIn_mk(a:nsIn K Pi x=be (be (.ref C)))(b:GR K (.ref C) "__setattr__"=be (be (.builtin "object.__setattr__"))):EaIn K x:=#[C,a,b]
def egIn_mk(a:nsIn K Pi x=be (be (.ref C)))(b:GR K (.ref C) "__getattribute__"=be (be (.builtin "BaseException.__getattribute__")))(c:GR K (.ref C) "__getattr__"=be t9):EgIn K x:=#[C,a,b,c]
def eiIn_mk(a:nsIn K Pi x=be (be (.ref C)))(b:readsIn K C (.type "type")=true)(c:findCls K (.ref C) (.type "type") "__init__"=be (.val (.builtin "ValueError.__init__")))(d:specialIn K (.ref C) "__getattribute__"=be (be (.builtin "type.__getattribute__"))):EiIn K x:=#[C,a,b,c,d]
def emIn_mkT(e:subE x y=true)(a:nsIn K Pi x=be (be (.ref C)))(c:nsIn K Pi y=be (be (.ref D)))(d:Hx K C (.ref D)=be true):EmIn K x y:=#[C,D,a,c,e ▸ d]
def emIn_mkF(e:subE x y=false)(a:nsIn K Pi x=be (be (.ref C)))(c:nsIn K Pi y=be (be (.ref D)))(d:Hx K C (.ref D)=be false):EmIn K x y:=#[C,D,a,c,e ▸ d]
end
def EbIn.k(e:EbIn K)(X:K.In h)(G:h.Ns Pi mg):∃C N bm,ErrK K mg "MotifError" C N bm/\ErrN K N:=by
 obtain⟨C,N,k,n⟩:=e;exact#[C,N,_,#[k.ns,mg_of X G k.ns,k.kp,k.ob,sV],n.ok,n.no]
def EdIn.k{N:KF}(e:EdIn K x C N)(b:EbIn K)(X:K.In h)(G:h.Ns Pi mg):∃bm,ErrK K mg x C N bm:=by
 obtain⟨B,hB,k⟩:=e;obtain⟨B',N',kb,n⟩:=b;cases NsC.uniq kb.ns hB;obtain⟨_,_,_,_,_,_,_,_,_,_,_,_,_,o⟩:=kb.ob;exact#[_,k.ns,mg_of X G k.ns,k.kp,k.ob,zT o rfl n.ok n.no]
def E0In.k(e:E0In K x)(b:EbIn K)(X:K.In h)(G:h.Ns Pi mg):∃C N bm,ErrK K mg x C N bm/\ErrN K N:=by
 obtain⟨C,N,k,n⟩:=e;obtain⟨bm,z⟩:=k.k b X G;exact#[C,N,bm,z,n.ok,n.no]
def Txe(K:Ex)(mg:F_->Option KB)(x q:F_)(st:SL)(ps:List F_):Prop:=∃C N bm f fd,ErrK K mg x C N bm/\GR K (.ref C) "__init__"=be (be (.ref f))/\isFn K (.ref f)=true/\Fun K "__init__" q st f fd/\Binds K fd ps []
def E1In.txe(e:E1In K x q st)(b:EbIn K)(X:K.In h)(G:h.Ns Pi mg)(bi:BindA "__init__" q st ps):Txe K mg x q st ps:=by
 obtain⟨C,N,f,fd,k,i,j,F⟩:=e;obtain⟨bm,z⟩:=k.k b X G;exact#[C,N,bm,f,fd,z,i,j,F,F.binds bi]
def ErrK.a'{N:KF}{bm:List KB}(k:ErrK K mg x C N bm)(a:EaIn K x):∃C cd,ErrA K x C cd:=by
 obtain⟨D,hD,sa⟩:=a;cases NsC.uniq k.ns hD;exact#[C,k.a sa]
def E1In.a(e:E1In K x q st)(b:EbIn K)(a:EaIn K x)(X:K.In h)(G:h.Ns Pi mg):∃C cd,ErrA K x C cd:=by
 obtain⟨C,N,f,fd,k,_⟩:=e;obtain⟨bm,z⟩:=k.k b X G;exact z.a' a
def E1In.c(e:E1In K x q st)(b:EbIn K)(X:K.In h)(G:h.Ns Pi mg):∃C N bm,ErrK K mg x C N bm:=by
 obtain⟨C,N,f,fd,k,_⟩:=e;obtain⟨bm,z⟩:=k.k b X G;exact#[C,N,bm,z]
def EiIn.b(e:EiIn K x)(X:K.In h)(G:h.Ns Pi mg):∃M,BaseK K mg x M:=by
 obtain⟨M,a,b,c,d⟩:=e;exact#[M,mg_of X G a,b,c,d]
def EgIn.g(e:EgIn K x)(a:∃C cd,ErrA K x C cd)(n:NoIn K x f):ErrG K f x:=by
 obtain⟨C,h1,h2,h3⟩:=e;obtain⟨D,cd,ea⟩:=a;cases NsC.uniq ea.ns h1;exact#[C,cd,ea,h2,h3,n.all C h1]
def AllP(p:F_->Prop):List F_->Prop
 |[]=>True
 |a::l=>p a/\AllP p l
def AllP.mem{p:F_->Prop}:∀{l:List F_},AllP p l->∀x∈l,p x
 |_::_,h,_,.head _=>h.1
 |_::_,h,_,.tail _ m=>AllP.mem h.2 _ m
def Bc{es:List F_}(c:AllP (λx=>∃C N bm,ErrK K mg x C N bm) es)(s:AllP (λx=>AllP (λy=>EmIn K x y) es) es):ErrsK K mg es:=by
 refine#[c.mem,λx hx y hy C C' h1 h2=>?_];obtain⟨A,B,a,b,m⟩:=(s.mem x hx).mem y hy;cases NsC.uniq a h1;cases NsC.uniq b h2;exact m
end
structure Bx where
 P:SZ
 w:Tp
 K:Ex
 mg:F_->Option KB
 base:Heap
abbrev Bx.T(V:Bx)(x:F_)(st:SL)(ps:List F_):Prop:=Tx V.K V.mg x st ps
abbrev Bx.Tm(V:Bx)(x m q:F_)(st:SL)(ps:List F_):Prop:=Txm V.K x m q st ps
abbrev Bx.Ti(V:Bx)(x q:F_)(st:SL)(ps:List F_):Prop:=Txi V.K V.mg x q st ps
abbrev Bx.Te(V:Bx)(x q:F_)(st:SL)(ps:List F_):Prop:=Txe V.K V.mg x q st ps
abbrev Bx.Ek(V:Bx)(es:List F_):Prop:=ErrsK V.K V.mg es
abbrev Bx.m(V:Bx)(x:F_):Prop:=V.mg x=t9
abbrev Bx.gi(V:Bx)(x:F_)(i:Int):Prop:=∃t,V.mg x=be (.int i t)
abbrev Bx.gs(V:Bx)(x y:F_):Prop:=∃t,V.mg x=be (.str y t)
abbrev Bx.a(V:Bx)(x f:F_):Prop:=ClsA V.K x f
abbrev Bx.D(V:Bx)(n:Nat)(x:F_)(ps:List F_)(S:SpD):Prop:=CalD V.P V.w V.K V.mg V.base n x ps S
abbrev Bx.X(V:Bx)(n:Nat)(x:F_)(ps:List F_)(S:SpX):Prop:=CalX V.P V.w V.K V.mg V.base n x ps S
abbrev Bx.MM(V:Bx)(n:Nat)(x:F_)(ps:List F_)(S:SpM):Prop:=CalMM V.P V.w V.K V.mg V.base n x ps S
abbrev Bx.M(V:Bx)(n:Nat)(x:F_)(ps:List F_)(S:SiD):Prop:=CalM V.P V.w V.K V.mg V.base n x ps S
abbrev Bx.E(V:Bx)(n:Nat)(x:F_)(ps:List F_)(S:SiD):Prop:=CalE V.P V.w V.K V.mg V.base n x ps S
abbrev Bx.Q(V:Bx)(n:Nat)(x m:F_)(ps:List F_)(S:SpM):Prop:=CalMth V.P V.w V.K V.mg V.base n x m ps (lSpM V.K S)
abbrev Bx.n(V:Bx)(x:F_):Prop:=∃C N bm,ErrK V.K V.mg x C N bm/\ErrN V.K N
abbrev Bx.b(V:Bx)(x:F_):Prop:=∃M,BaseK V.K V.mg x M
abbrev Bx.ea(V:Bx)(x:F_):Prop:=∃C cd,ErrA V.K x C cd
abbrev Bx.xf(V:Bx)(x f:F_):Prop:=∀C,nsIn V.K Pi x=be (be (.ref C))->GR V.K (.ref C) f=be t9
abbrev Bx.x(V:Bx)(f:F_)(ys:List F_):Prop:=∀y∈ys,ErrG V.K f y
section
variable {P:SZ}{w:Tp}{K:Ex}{mg:F_->Option KB}{base:Heap}
variable{x qual p0:F_}{st:SL}{N ps:List F_}{k:Nat}{S:SiD}
def Txi.okI(T:Txi K mg x qual st (p0::ps))(F:FnScope (p0::N) (p0::ps) (ag st))(len:∀ds R,S ds R->ds.length=ps.length)
  (a8:∀(f:KF) (cdv:KB) (A:Tq) (outer:List Um) (s:Os) (H:Hp) (E:XK) (J:Jx),Room k (A.deeper (TB qual (ag st) s.heap.objs.size f cdv))->
   ∃t,WDI (cxOf (Exc.CX1 P w) P w K mg base (p0::N) qual (ag st) f cdv A outer s H E).nox x (aL st) t/\∀ds R,S ds R->t (t9::startD N ds) [] R):CalM P w K mg base (k+1) x (p0::ps) S:=by
 obtain⟨C,f,fd,a,b,c,d,e⟩:=T;exact Cls.okIW d e F len a b c (a8 f)
def Txi.okIM(T:Txi K mg x qual st (p0::ps))(F:FnScope N (p0::ps) (ag st))(len:∀ds R,S ds R->ds.length=ps.length)
  (a8:∀(f:KF) (cdv:KB) (A:Tq) (outer:List Um) (s:Os) (H:Hp) (E:XK) (J:Jm),Room k (A.deeper (TB qual (ag st) s.heap.objs.size f cdv))->XOkM (cxOf (Exc.CX1 P w) P w K mg base N qual (ag st) f cdv A outer s H E).nox->
   ∃t,MSs (cxOf (Exc.CX1 P w) P w K mg base N qual (ag st) f cdv A outer s H E).nox (aL st) t/\∀a ds R,(∀z M x fs,¬J.RM z M x fs)->S ds R->t {nx:=λ_ M'=>∃fs,M'=[(a,.ins x fs)]/\R fs,rt:=λ_ _=>False} (startD N (.ptr a::ds)) [(a,.ins x [])]):CalM P w K mg base (k+1) x (p0::ps) S:=by
 obtain⟨C,f,fd,a,b,c,d,e⟩:=T;exact Cls.okIM d e F len a b c (a8 f)
def Txe.okE(T:Txe K mg x qual st (p0::ps))(F:FnScope (p0::N) (p0::ps) (ag st))(len:∀ds R,S ds R->ds.length=ps.length)
  (a8:∀(f:KF) (cdv:KB) (A:Tq) (outer:List Um) (s:Os) (H:Hp) (E:XK) (J:Jx),Room k (A.deeper (TB qual (ag st) s.heap.objs.size f cdv))->
   ∃t,WDX (cxOf (Exc.CX1 P w) P w K mg base (p0::N) qual (ag st) f cdv A outer s H E).nox x (aL st) t/\∀ds R,S ds R->t (t9::startD N ds) [] R):CalE P w K mg base (k+1) x (p0::ps) S:=by
 obtain⟨C,N',bm,f,fd,a,b,c,d,e⟩:=T;exact Cls.okEW d e F len a b c (a8 f)
end
section
variable {X:Cx}[J:Jx]{a b c e o g_ iter:Tn}{es:List Tn}{ta tb tc te to ti tj:TD}{tt:TDT}{t:TDA}{pos px:Tw}{x:F_}{scope:T3}
def tS(ix:Nat)(Km:TDI)(te:TD):TSD:=λE z=>Km z (cmpP te z λd=>match d with|.lst ys=>E.nx (z.set ix (be (.own ys)))|_=>False)
def Bd{K:Ex}{E:Ends}{s:L2.St}{H:Hp}{ix:Nat}{wi:TI}{Km:TDI}(hI:ItOk K wi Km)(q:lS K (tS ix Km te) E s H):tAsg (fT wi (lT K dT1) (lE K te)) (fE ix) E s H:=by
 obtain⟨B,F0,F,z,k,rs,ED,h,e⟩:=q;refine hI k.kf rs h λitems J F1 H1 g1 hg it=>sH (Q:=λv H=>E.nx (s.set ix (be v)) H) k.kf g1 rs (λD ys us F' H' hH hF GG hu ry hR=>?_) it (cmpP.g hg);have r2:=(rs.grow GG).setOwn (i:=ix) (a:=D) (k.bh.free hH) hF ry λj dj _ q1 q2=>by
  obtain⟨a,vs,p1,p2,_⟩:=rs.own j dj q1;rw[p1]at q2;cases q2;rw[hH]at p2;cases p2
 rw[sR hu]at r2;exact e.nx _ _ F' H' (k.grow GG) hR r2
def Be(ix:Nat){y:F_}{py m5:Tw}(hc:X.calm=true)(S:CompScope X scope x)(hN:X.N.Nodup)(hi:WDE X iter ti)(he:∀cl s₀ H₀ fp,WDE (cf X scope cl x s₀ H₀ fp) g_ te)(Ml:autoParam (X.N[ix]?=be y) zA0)(hy:autoParam (Loc X.env.scope y) zA4)
  (hf:autoParam (zFN X y) zA2) (Ki:autoParam (TJ (.ListComp g_ [#[.Name x px,iter,[],0]] scope pos) (be (.Name y py)) m5.line X.env=pure true) zA0) (hs:autoParam (∀y,zFS X iter y) zA3):
  WDS X (.Assign [.Name y py] (.ListComp g_ [#[.Name x px,iter,[],0]] scope pos) m5) (tS ix (dItS ti) te):=#[(sG hc S (sZ hi.out) (λ_ _ _ _=>kF) (λa b c d=>(he a b c d).out) hN Ml hy hf Ki hs).anti λE s H q=>Bd itS q]
def GJ:RDn:=λds R=>match ds with|[.lst xs]=>∃ns:List Int,xs=ns.map D.int/\0<ns.length/\∀m,m∈ns->(∀a∈ns,m<=a)->R (.int m)|_=>False
def GK:RDn:=λds R=>match ds with|[.lst xs]=>R (.tup xs)|[.tup xs]=>R (.tup xs)|_=>False
def rSCount:RTx:=λy ds R=>match ds with|[.str p]=>R (.int (Builtin.Str.occurrences y p 0 y.length (y.length+1)).length)|_=>False
def Bf:MtS X "str.count" rSCount:=by
 refine#[λx vs H Q=>∃y p,x=.str y/\vs=[.str p]/\Q (.int (Builtin.Str.occurrences y p 0 y.length (y.length+1)).length) H,?_,?_]
 .intro pins s σ H x vs v us Q I rx rv h;obtain⟨y,p,rfl,rfl,q⟩:=h;obtain⟨t,rfl⟩:=rx;obtain⟨u,rfl,t',rfl⟩:=cb rv;exact SC.count #[.int _,H,I.tok _,#[_,rfl],q]
 .intro y ds vs F H R Q r h q;unfold rSCount at h;split at h
  .obtain⟨v,vr,rfl,h1,h2⟩:=reps_cons.mp r;rw[reps_nil.mp h2,rep_str.mp h1];exact#[_,_,rfl,rfl,q _ _ (λ_=>rep_int.mpr rfl) h]
  .exact h.elim
def tT{apos cpos:Tw}(ho:WDE X o to)(ha:WDA X [e] t)(b8:autoParam (Tt o "count" X.env (Tv o X.env)=Tv o X.env) zA0)
  (d8:autoParam (zHF X cpos [e]) zA0)
  (c8:autoParam ((apos.endLine==cpos.line)=true) zA0) (hs:autoParam (zSE X e []) zA0):WDE X (.Call (.Attribute o "count" apos) [e] [] cpos) (dTx rSCount to t):=#[kI PySem.F.slot_str_count PySem.F.type_str_count Bf ho.out ha.out b8 d8 c8 hs]
def Bg(is:List Nat)(ti:TDI)(tb:TSD):TSD:=λE z=>ti z λds=>∃W:Nat->SD->Prop,W 0 z/\(∀(k:Nat) x z,ds[k]?=be x->W k z->tb {E with nx:=W (k+1),ct:=W (k+1),bk:=E.nx} (aY is [.int k,x] z))/\∀z,W ds.length z->E.nx z
variable{is:List Nat}
def Bh{K:Ex}{B F0 F1 H1:Hp}{z:SD}{s:L2.St}{E:Ends}{ED:EndsD}{It':It}{g:TG}{tb:TSD}{Ms:TS}{ds:List D}(k1:Kept B F0 F1 H1)(m9:RepS K B F1 H1 z s)(e:EndsOk K B F0 ED E)
  (go:∀k F' H',Same F1 F'->Same F' H'->k<ds.length->It'.go k H') (stop:∀F' H',Same F1 F'->Same F' H'->It'.stop ds.length H')
  (yld:∀k F' H' x H'',Same F1 F'->Same F' H'->k<ds.length->It'.yld k H' x H''->∃T d v,H' T=t9/\x=.ref T/\H''=upd H' T (.tup [.int k,v])/\ds[k]?=be d/\Rep K F' d v)
  (hg:∀(dd:List D) (vs:List V) (T:KF) (z:SD) (s:L2.St) (F H:Hp) (Q:L2.St->Hp->Prop),dd.length=2->H T=be (.tup vs)->Reps K F dd vs->RepS K B F H z s->(∀s',RepS K B F H (aY is dd z) s'->Q s' H)->g (.ref T) s H Q)
  (Oz:∀E s H,lS K tb E s H->Ms E s H)
  (hd:∃W:Nat->SD->Prop,W 0 z/\(∀(k:Nat) x z,ds[k]?=be x->W k z->tb {ED with nx:=W (k+1),ct:=W (k+1),bk:=ED.nx} (aY is [.int k,x] z))/\∀z,W ds.length z->ED.nx z):
  ∃W:Nat->Nat->L2.St->Hp->Prop,(∃m,W 0 m s H1)/\∀i m σ H,W i m σ H->
   (It'.stop i H/\E.nx σ H)\/(It'.go i H/\∃N:L2.St->Hp->Prop,(∀σ' H',N σ' H'->∃m',m'<m/\W (i+1) m' σ' H')/\∀x H',It'.yld i H x H'->g x σ H' λσ2 H2=>Ms {E with nx:=N,ct:=N,bk:=E.nx} σ2 H2):=by
 obtain⟨W,w0,c7,out⟩:=hd;refine#[λk m s' H'=>m=ds.length-k/\k<=ds.length/\∃F' z',Kept B F0 F' H'/\Same F1 F'/\RepS K B F' H' z' s'/\W k z',#[ds.length,K',Hb _,F1,z,k1,Same.refl F1,m9,w0],?_];rintro k m s' H'⟨rfl,hk,F',z',k',g',r',w'⟩;by_cases f9:k<ds.length
 .refine .inr #[go k F' H' g' k'.fh f9,λs3 H3=>∃F3 z3,Kept B F0 F3 H3/\Same F1 F3/\RepS K B F3 H3 z3 s3/\W (k+1) z3,λs3 H3 h3=>#[ds.length-(k+1),KK,rfl,f9,h3],λx H'' hy=>?_];obtain⟨T,d,v,hT,rfl,rfl,hd,rd⟩:=yld k F' H' x H'' g' k'.fh f9 hy;have gn:=Grow.new k'.fh hT (.tup [.int k,v]);have k2:=k'.grow gn;have rp:Reps K (upd F' T (.tup [.int k,v])) [.int k,d] [.int k,v]:=reps_cons.mpr #[_,_,rfl,rep_int.mpr rfl,eK (rd.mono gn.ff)];refine hg [.int k,d] _ T z' s' _ _ _ rfl az rp (r'.grow gn) λs2 Lz=>Oz _ _ _ ?_;have gF:Same F1 (upd F' T (.tup [.int k,v])):=g'.trans gn.ff;refine#[B,upd F' T (.tup [.int k,v]),upd F' T (.tup [.int k,v]),_,#[k2.bh,k2.fh,Same.refl _,λb h1 _=>h1,k2.eb,k2.jf.trans k2.f0,λb h1 h2=>k2.out b (k2.jo b h1 h2) h2],Lz,_,c7 k d z' hd w',?_];have up:∀{F3 H3:Hp},Kept B (upd F' T (.tup [.int k,v])) F3 H3->Kept B F0 F3 H3:=λk3=>#[k3.bh,k3.fh,k2.f0.trans k3.f0,λb h1 h2=>k3.out b (k2.out b h1 h2) h2,k2.eb,k2.jf,k2.jo];exact#[λz3 s3 F3 H3 k3 h3 r3=>#[F3,z3,up k3,gF.trans k3.f0,r3,h3],λd v F3 H3 k3=>e.rt d v F3 H3 (up k3),λz3 s3 F3 H3 k3=>e.nx z3 s3 F3 H3 (up k3),λz3 s3 F3 H3 k3 h3 r3=>#[F3,z3,up k3,gF.trans k3.f0,r3,h3]]
 .have ek:k=ds.length:=by lia
  subst ek;exact .inl #[stop F' H' g' k'.fh,e.nx z' s' F' H' k' (out z' w') r']
variable{p2:Tw}
def Bi{es:List Tn}{x1:Nat}{tp p1:Tw}{body:List SL}{tb:TSD}(hp:TX (SB X.prog X.w) X.A X.env X.xe)(hc:X.calm=true)(hm:X.mg "enumerate"=t9)(he:WDE X e te)(hG:DGs X es is)(hb:WDSs X body tb)(b7:autoParam (is.length=2) zA0)(hg:autoParam (Gl X "enumerate") zA0)
  (hn:autoParam ((Ts es X.env).length=2) zA0) (m4:autoParam ((Ts es X.env).findIdx? (·.1)=none) zA0)
  (hs:autoParam (∀y,zFS X (.Call (.Name "enumerate" p1) [e] [] p2) y) zA3) (q_:autoParam (zSE X e []) zA0) (g7:autoParam (Tr [e] X.env=[(false,Tv e X.env)]) zA0):
  WDS X (.For (.Tuple es x1 tp) (.Call (.Name "enumerate" p1) [e] [] p2) body [] pos) (Bg is (dItS te) tb):=by
 obtain⟨ug,Mt,kk⟩:=hG;refine#[(cV hp hc (tK hg hm (bD he.out pa_nil q_) g7) (gH hc Mt hn m4) hb.out hs).anti λE s H q=>?_];obtain⟨B,F0,F,z,kp,rs,ED,h,e⟩:=q;refine#[B,F,z,kp.kf,rs,_,h,λd v F1 H1 g1 hd rd=>?_];split at hd
 .rename_i x;obtain⟨ha,hd⟩:=hd;have hl:=eV x;refine#[x,by rw[rep_str.mp rd],ha,Bh (It':=Ites x) (kp.grow g1) (rs.grow g1) e (λk F' H' s1 s2 hk=>?_) (λF' H' s1 s2=>?_) (λk F' H' x H'' s1 s2 hk hy=>?_) (λdd m8 T z s F H Q hl hT rp y9 hQ=>?_) (λ_ _ _ h=>h) hd]
  .rw[hl]at hk;exact hk
  .exact hl
  .obtain⟨T,c,hT,e1,e2,hc⟩:=hy;exact#[T,.str #[[c].toArray],.str #[[c].toArray],hT,e1,e2,ig hc,rep_str.mpr rfl]
  .exact#[T,m8,rfl,SqT.of hT,by rw[rp.length];exact hl,kk dd m8 z s B F H Q (by rw[hl,b7]) rp y9 hQ]
 .exact hd.elim
def Bj(K:Ex):R2:=λx y H Q=>∃p xs i z,x=.ref p/\y=.int i/\0<=i/\SqL K H p xs/\xs[i.toNat]?=be z/\Q z H
def Bk:PGet X (Bj X.K):=by
 intro pins s σ H x y v u Q I rx ry h;obtain⟨p,xs,i,z,rfl,rfl,h0,hq,he,q⟩:=h;cases rx;obtain⟨t,rfl⟩:=ry;obtain⟨its,r,pl,hz⟩:=I.list hq;obtain⟨w,ew,h_⟩:=r.get he;have hl:=r.length;have hn:=line63;have hi:=(GZ.mp he).1;exact wpAny_getItem_list pl.isList h0 KK (by simpa using ew) #[z,H,I,h_,q]
def tU(i:Nat)(ti te:TD):TSD:=λE z=>match z[i]? with
 |some (be (.own ds))=>ti z λy=>(match y with|.int k=>∃n,0<=k/\ds[k.toNat]?=be (.int n)/\te z λd=>(match d with|.int m=>E.nx (z.set i (be (.own (ds.set k.toNat (.int (n+m))))))|_=>False)|_=>False)
 |_=>False
def Bl(i:Nat){x:F_}{p1:Tw}(hb:WDE X b tb)(he:WDE X e te)(hN:autoParam (X.N[i]?=be x) zA0)(hv:autoParam (Vis X.env.scope x) zA5)(hd:autoParam (zND x) zA1)
  (gV:autoParam (zNC x) zA1)
  (ha:autoParam (∀ov iv new,augStore b ov iv new=(do T1 [new,ov,iv] (U3 ov iv new);Vr [new,ov,iv] [];pure .next)) zA7):
  WDS X (.AugAssign (.Subscript (.Name x p1) b p2) .Add e pos) (tU i tb te):=⟨(wJ (cK hN hv hd gV) hb.out Bk he.out wK rq ha).anti λE s H q=>by
 obtain⟨B,F0,F,z,k,rs,ED,h,e⟩:=q;unfold tU at h;split at h
 .rename_i ds ez;obtain⟨a,vs,q1,q2,q3,q4,q5⟩:=rs.own i ds ez;refine#[.ref a,q1,B,F,z,k.kf,rs,_,h,λy w F2 H2 g2 hy ry=>?_];split at hy
  .rename_i k';obtain⟨n,k0,en,hn⟩:=hy;have Kl:F2 a=none:=g2.out a q4 (by rw[q2];exact λz=>nomatch z);obtain⟨v,ev,rv⟩:=q5.get en;refine#[a,vs,_,v,rfl,rep_int.mp ry,k0,SqL.of (g2.hh _ _ q2),ev,B,F2,z,k.kf.grow g2,rs.grow g2,_,hn,λd u F3 H3 g3 hd rd=>?_];split at hd
   .have r2:=(rs.grow g2).grow g3;have k2:=(k.grow g2).grow g3;have Np:F3 a=none:=g3.out a Kl (by rw[g2.hh _ _ q2];exact λz=>nomatch z);rw[rep_int.mp rv,rep_int.mp rd];have f9:=(GZ.mp en).1;refine#[_,_,rfl,rfl,a,vs,_,k'.toNat,rfl,rep_int.mp ry,g3.hh _ _ (g2.hh _ _ q2),by unfold ixN;rw[q5.length,if_pos k0,if_pos KK],?_];obtain⟨k3,r3⟩:=r2.change k2 ez q1 q3 Np (Reps.put (d:=.int _) (v:=.int _) (rep_int.mpr rfl) k'.toNat ((q5.mono g2.ff).mono g3.ff));exact e.nx _ s F3 _ k3 hd r3
   .exact hd.elim
  .exact hy.elim
 .exact h.elim⟩
def Bm(i:Nat)(t:TDA):TSD:=λE z=>t z λds=>match ds with
 |[.lst xs]=>E.nx (z.set i (be (.own xs)))
 |[.tup xs]=>E.nx (z.set i (be (.own xs)))
 |_=>False
def Bn[Jx](i:Nat){x:F_}{b_ p:Tw}{t:TDA}(hm:X.mg "list"=t9)(hN:X.N.Nodup)(ha:WDA X [e] t)(hi:autoParam (X.N[i]?=be x) zA0)(hx:autoParam (Loc X.env.scope x) zA4)(hg:autoParam (Gl X "list") zA0)(he:autoParam (zSE X e []) zA0)(hs:autoParam (TJ (.Call (.Name "list" p) [e] [] p2) (be (.Name x b_)) pos.line X.env=pure false) zA0)
  (hf:autoParam (zFN X x) zA2):WDS X (.Assign [.Name x b_] (.Call (.Name "list" p) [e] [] p2) pos) (Bm i t):=⟨have ha:=ha.out;(gI hN hi hx (jW rB hg hm PyProof.Rows.boot_list ha K3 K3 he) hs hf).anti λE s H q=>by
 obtain⟨B,F0,F,z,k,rs,ED,h,e⟩:=q;refine#[B,F,z,k.kf,rs,_,h,λds vs F1 H1 g hd rd=>?_];have k1:=k.grow g;have r1:=rs.grow g;have d_:∀{xs:List D} {us:List V},Reps X.K F1 xs us->ED.nx (z.set i (be (.own xs)))->∀l,H1 l=t9->E.nx (s.set i (be (.ref l))) (upd H1 l (.lst us)):=λ{xs us} rr hn p hp=>by
  have hB:B p=none:=k1.bh.free hp;have hF:F1 p=none:=k1.fh.free hp;refine e.nx _ _ F1 _ #[k1.bh.trans (aN hp _),k1.fh.trans (aN hp _),k1.f0,k1.out,k1.eb,k1.jf,k1.jo] hn (r1.setOwn hB hF rr λj dj hj e1 e2=>?_);obtain⟨a,us,q1,q2,_⟩:=r1.own j dj e1;rw[e2]at q1;cases q1;rw[hp]at q2;cases q2
 split at hd
 .obtain⟨v,r,rfl,h1,h2⟩:=reps_cons.mp rd;rw[reps_nil.mp h2];obtain⟨a,us,rfl,hq,rr⟩:=rep_lst.mp h1;exact#[a,us,rfl,.inl (g.fh.seq (SqL.of hq)),d_ rr hd]
 .obtain⟨v,r,rfl,h1,h2⟩:=reps_cons.mp rd;rw[reps_nil.mp h2];obtain⟨a,us,rfl,hq,rr⟩:=rep_tup_mp h1;exact#[a,us,rfl,.inr (g.fh.tup hq),d_ rr hd]
 .exact hd.elim⟩
end
mutual
def noL:D->Bool
 |.non=>true|.bl _=>true|.int _=>true|.str _=>true|.ptr _=>true|.dti _=>true
 |.tup ds=>noLs ds
 |.obj _ fs=>noLF fs
 |_=>false
def noLs:List D->Bool
 |[]=>true
 |d::ds=>noL d&&noLs ds
def noLF:List (F_×D)->Bool
 |[]=>true
 |(_,d)::ds=>noL d&&noLF ds
end
def nlF(F:Hp):Hp:=λb=>match F b with|some (.lst _)=>t9|o=>o
def kU{F:Hp}{b:KF}{o:HO}(e:F b=be o)(h:∀vs,o≠.lst vs):nlF F b=be o:=by
 unfold nlF;rw[e];cases o with
 |lst vs=>exact absurd rfl (h vs)
 |_=>rfl
mutual
def Rep.nl{K:Ex}{F:Hp}:∀(d:D) (v:V),noL d=true->Rep K F d v->Rep K (nlF F) d v
 |.non,v,_,h=>by unfold Rep at h ⊢;exact h
 |.bl b,v,_,h=>by unfold Rep at h ⊢;exact h
 |.int b,v,_,h=>by unfold Rep at h ⊢;exact h
 |.str b,v,_,h=>by unfold Rep at h ⊢;exact h
 |.ptr b,v,_,h=>by unfold Rep at h ⊢;exact h
 |.dti a9,v,_,h=>by
  unfold Rep at h ⊢;obtain⟨a,e,q⟩:=h;exact#[a,e,kU q λ_ z=>nomatch z]
 |.tup ds,v,n,h=>by
  unfold Rep at h ⊢;obtain⟨a,vs,e,q,r⟩:=h;exact#[a,vs,e,kU q (λ_ z=>nomatch z),Reps.nl ds vs (by unfold noL at n;exact n) r]
 |.obj x fs,v,n,h=>by
  unfold Rep at h ⊢;obtain⟨a,C,dx,vs,e,n1,q,r⟩:=h;exact#[a,C,dx,vs,e,n1,kU q (λ_ z=>nomatch z),RepF.nl fs vs (by unfold noL at n;exact n) r]
 |.lst _,_,n,_=>by unfold noL at n;cases n
 |.rol _,_,n,_=>by unfold noL at n;cases n
 |.exc _ _,_,n,_=>by unfold noL at n;cases n
 |.own _,_,n,_=>by unfold noL at n;cases n
def RepF.nl{K:Ex}{F:Hp}:∀(ds:List (F_×D)) (vs:List (F_×V)),noLF ds=true->RepF K F ds vs->RepF K (nlF F) ds vs
 |[],vs,_,h=>by unfold RepF at h ⊢;exact h
 |(f,d)::ds,vs,n,h=>by
  unfold noLF at n;rw[Hf]at n;unfold RepF at h ⊢;obtain⟨v,r,e,q1,q2⟩:=h;exact#[v,r,e,Rep.nl d v n.1 q1,RepF.nl ds r n.2 q2]
def Reps.nl{K:Ex}{F:Hp}:∀(ds:List D) (vs:List V),noLs ds=true->Reps K F ds vs->Reps K (nlF F) ds vs
 |[],vs,_,h=>by unfold Reps at h ⊢;exact h
 |d::ds,vs,n,h=>by
  unfold noLs at n;rw[Hf]at n;unfold Reps at h ⊢;obtain⟨v,r,e,q1,q2⟩:=h;exact#[v,r,e,Rep.nl d v n.1 q1,Reps.nl ds r n.2 q2]
end
end My
end
section
namespace My
open PySem PySem.Spec PyProof.Rows L2
variable{w:Int}
def b64B(h:0<w)(h':w<=33554432):-(2^64)<w/\w<2^64:=KK
variable{s:Int}
def s64B(h:0<=s)(h':s<w)(S1:w<=33554432):-(2^64)<s/\s<2^64:=KK
def d30B(h:0<w)(h':w<=33554432):0<w/\w<1073741824:=KK
variable{x y:Int}
def ab24(h:x.natAbs<=12)(h':y.natAbs<=12):(x+y).natAbs<=24:=KK
def sq0(a:Int):0<=a*a:=(Int.le_total 0 a).elim (λq=>Ja q q) (λq=>Int.mul_nonneg_of_nonpos_of_nonpos q q)
def u64(h:w=1\/w=-1\/w=0):-(2^64)<w/\w<2^64:=KK
def n64{k:Nat}(h:w.natAbs<=k)(hk:autoParam (k<=1073741823) zA1):-(2^64)<w/\w<2^64:=KK
variable{a b:Int}
def i64(h:a<=w)(h':w<=b)(ha:autoParam ( -1000000000001<=a) zA1)(hb:autoParam (b<=1000000000001) zA1):-(2^64)<w/\w<2^64:=KK
def fdm(a b:Int)(hb:b≠0):(a-a.fdiv b*b).natAbs<b.natAbs/\(a.fdiv b).natAbs<=a.natAbs+1:=by
 have e:=Int.fmod_def a b;have e2:a-a.fdiv b*b=a.fmod b:=by rw[e,Hd]
 rw[e2];have r:(a.fmod b).natAbs<b.natAbs:=by
  rcases(KK:0<b\/b<0)with h|h
  .have h1:=JM a h;have h2:=JN a h;lia
  .have h1:=JM (-a) (show 0< -b by lia);have h2:=JN (-a) (show 0< -b by lia);rw[Int.neg_fmod_neg]at h1 h2;lia
 refine#[r,?_];have e3:(b*a.fdiv b).natAbs=b.natAbs*(a.fdiv b).natAbs:=HQ _ _;have e4:=Int.mul_fdiv_self a b;rcases H8 (a.natAbs+1) (a.fdiv b).natAbs with c|c
 .have h1:b.natAbs*(a.natAbs+2)<=b.natAbs*(a.fdiv b).natAbs:=Nat.mul_le_mul_left _ c;have h2:b.natAbs*(a.natAbs+2)=b.natAbs*a.natAbs+2*b.natAbs:=by rw[Nat.mul_add,Nat.mul_comm _ 2]
  have h3:1*a.natAbs<=b.natAbs*a.natAbs:=JO _ KK;lia
 .exact c
def Uni(a b c d p0 p1 q0 q1:Int):Prop:=∃m n k l:Int,(m*l-n*k=1\/m*l-n*k=-1)/\p0=m*a+n*c/\p1=m*b+n*d/\q0=k*a+l*c/\q1=k*b+l*d
def Uni.refl(a b c d:Int):Uni a b c d a b c d:=#[1,0,0,1,.inl K3,KK,KK,KK,KK]
variable{c d p0 p1 q0 q1:Int}
def Uni.step(t:Int)(h:Uni a b c d p0 p1 q0 q1):Uni a b c d q0 q1 (p0-t*q0) (p1-t*q1):=by
 obtain⟨m,n,k,l,hd,rfl,rfl,rfl,rfl⟩:=h;refine#[k,l,m-t*k,n-t*l,?_,rfl,rfl,Md,Md];rcases hd with h|h
 .right;grind
 .left;grind
def Uni.neg(h:Uni a b c d p0 p1 q0 q1):Uni a b c d (-p0) (-p1) q0 q1:=by
 obtain⟨m,n,k,l,hd,rfl,rfl,rfl,rfl⟩:=h;refine#[-m,-n,k,l,?_,Md,Md,rfl,rfl];rcases hd with h|h
 .right;grind
 .left;grind
def Uni.inv(h:Uni a b c d p0 p1 q0 q1):Uni p0 p1 q0 q1 a b c d:=by
 obtain⟨m,n,k,l,hd,rfl,rfl,rfl,rfl⟩:=h;rcases hd with h|h
 .exact#[l,-n,-k,m,.inl Md,Md,Md,Md,Md]
 .exact#[-l,n,k,-m,.inr Md,Md,Md,Md,Md]
def Uni.det(h:Uni a b c d p0 p1 q0 q1):p0*q1-p1*q0=a*d-b*c\/p0*q1-p1*q0=-(a*d-b*c):=by
 obtain⟨m,n,k,l,hd,rfl,rfl,rfl,rfl⟩:=h;rcases hd with h|h
 .left;grind
 .right;grind
def Lev(a b c d p0 p1 q0:Int):Prop:=0<=p1/\Uni a b c d p0 p1 q0 0
def FamOf(a b c d w h s:Int):Prop:=0<w/\0<h/\0<=s/\s<w/\Uni a b c d w 0 s h
def Bo(x:Int):(if x<0 then -x else x)=x\/(if x<0 then -x else x)=-x:=by
 split<;>simp
def Bp(h:x≠0):0<(if x<0 then -x else x):=by split<;>lia
def fZ(hn:¬a*d=b*c)(h:Lev a b c d p0 p1 q0):FamOf a b c d (if q0<0 then -q0 else q0) p1 (p0%(if q0<0 then -q0 else q0)):=by
 obtain⟨hp,hu⟩:=h;have dt:=hu.det;have RT:q0≠0:=by
  rintro rfl;simp at dt;lia
 have S2:p1≠0:=by
  rintro rfl;simp at dt;lia
 have hw:=Bp RT;have hs:=Bo q0;generalize (if q0<0 then -q0 else q0)=w at hw hs;refine#[hw,KK,Hz _ KK,HA _ hw,?_];have em:=HR p0 w;generalize p0%w=s at em;generalize p0/w=t at em;obtain⟨m,n,k,l,hd,e1,e2,e3,e4⟩:=hu;rcases hs with e|e
 .refine#[k,l,m-t*k,n-t*l,?_,Md,Md,Md,Md];rcases hd with h|h
  .right;grind
  .left;grind
 .refine#[-k,-l,m+t*k,n+t*l,?_,Md,Md,Md,Md];rcases hd with h|h
  .left;grind
  .right;grind
variable{h i j:Int}
def in_fam(hh:0<h)(ex:x=i*w+j*s)(ey:y=j*h):y%h=0/\(x-y/h*s)%w=0:=by
 subst ex ey;rw[Hn _ KK];refine#[JP _ _,?_];have e:i*w+j*s-j*s=i*w:=KK
 rw[e];exact JP _ _
variable{u v:Int}
def tV(eu:u=i*a+j*c)(ev:v=i*b+j*d):(u*d-v*c).fmod (a*d-b*c)=0/\(a*v-b*u).fmod (a*d-b*c)=0:=by
 subst eu ev;refine#[Jb #[i,Md],Jb #[j,Md]]
def FamOf.cells(f:FamOf a b c d w h s):w*h=a*d-b*c\/w*h=-(a*d-b*c):=by
 have:=f.2.2.2.2.det;simpa using this
def bQ{A B:Nat}(h1:a.natAbs<=A)(h2:d.natAbs<=B):(a*d).natAbs<=A*B:=by
 rw[HQ];exact IF h1 h2
variable{g:Int}
def Bq{gap:Int}{N:Nat}(hg:0<g)(c0:0<=c)(cg:c<=g)(h:gap.natAbs<=N):(c*gap/g).natAbs<=N:=by
 have h1:(c*gap).natAbs<=g.natAbs*N:=by rw[HQ];exact IF K_ h
 have e:((g.natAbs*N:Nat):Int)=N*g:=by rw[Jc,Int.natAbs_of_nonneg K_,Hd]
 have l1:=Int.le_ediv_of_mul_le (a:=-(N:Int)) (b:=c*gap) hg (by rw[Jd];omega);have l2:=Int.ediv_le_of_le_mul (a:=c*gap) (b:=(N:Int)) hg K_;omega
def dh(hw:0<w)(hh:0<h):w<=w*h/\h<=w*h:=by
 have h1:=JQ (show 1<=h by lia) (show 0<=w by lia);have h2:=Hk (show 1<=w by lia) (show 0<=h by lia);lia
def FamOf.bd(f:FamOf a b c d w h s){N:Nat}(hN:(a*d-b*c).natAbs<=N):w<=N/\h<=N/\s<N:=by
 obtain⟨h1,h2⟩:=dh f.1 f.2.1;have h3:=f.cells;have h4:=f.2.2.2.1;lia
def Meas(x y g u:Int):Prop:=0<=g/\(∃i,x=i*g)/\(∃j,y=j*g)/\∃n,g=u*x+n*y
variable{q:Int}
def tW(h:0<=g/\∃m n k l:Int,(m*l-n*k=1\/m*l-n*k=-1)/\u=m*1+n*0/\g=m*x+n*y/\q=k*1+l*0/\0=k*x+l*y):Meas x y g u:=by
 obtain⟨h0,m,n,k,l,hd,e1,e2,e3,e4⟩:=h;refine#[h0,?_,?_,n,Md]
 .rcases hd with h|h
  .exact#[l,Md]
  .exact#[-l,Md]
 .rcases hd with h|h
  .exact#[-k,Md]
  .exact#[k,Md]
def Meas.pos(h:Meas x y g u)(hx:0<x):0<g:=by
 obtain⟨h0,⟨i,hi⟩,_⟩:=h;rcases(KK:g=0\/0<g)with e|e
 .subst e;simp at hi;lia
 .exact e
def Meas.le(h:Meas x y g u)(hx:0<x):g<=x:=by
 have hg:=h.pos hx;obtain⟨h0,⟨i,hi⟩,_⟩:=h;have S3:0<i:=by
  rcases(KK:i<=0\/0<i)with e|e
  .have:=HS e h0;lia
  .exact e
 have:=Hk (show 1<=i by lia) h0;lia
structure MetR(w1 h1 s1 w2 h2 s2 w h s A:Int):Prop where
 w0:0<w
 h0:0<h
 s0:0<=s
 sw:s<w
 in1:∃i,w=i*w1
 in2:∃i,w=i*w2
 up1:∃i j,s=i*w1+j*s1/\h=j*h1
 up2:∃i j,s=i*w2+j*s2/\h=j*h2
 A0:0<A
 cells:w*h*A=w1*h1*w2*h2
 d11:A∣w1*h1
 d12:A∣w1*h2
 d21:A∣w2*h1
 d22:A∣w2*h2
 ds:A∣s1*h2-h1*s2
 all:∀x y:Int,(∃i j,x=i*w1+j*s1/\y=j*h1)->(∃i j,x=i*w2+j*s2/\y=j*h2)->∃i j,x=i*w+j*s/\y=j*h
 comb:∀G:Int,G∣w1*h1->G∣w1*h2->G∣w2*h1->G∣w2*h2->G∣s1*h2-h1*s2->G∣A
def dL(h:0<x*y)(hy:0<y):0<x:=by
 rcases(KK:x<=0\/0<x)with e|e
 .have:=HS e (show 0<=y by lia);lia
 .exact e
def kW(ha:0<a)(h:a*b=a*c):b=c:=Je KK h
def r1(k j c:Int):k*(j*c)=j*(c*k):=Md
def r2(j u c n d:Int):j*(u*c+n*d)=u*(j*c)+n*d*j:=Md
def r3(u j d n j1:Int):u*(j*d)+n*d*j1=d*(u*j+n*j1):=Md
def r4(j u c n d:Int):j*(u*c+n*d)=u*c*j+n*(j*d):=Md
def r5(u c j n j1:Int):u*c*j+n*(j1*c)=c*(u*j+n*j1):=Md
def r6(g e i1 a i2 b d T s1 c s2:Int)(q:i1*(a*(e*g))+d*T*s1=i2*(b*(e*g))+c*T*s2):g*(e*(i1*a-i2*b))=T*(c*s2-d*s1):=Md
def r7(g T f:Int):g*(T*f)=T*(f*g):=Md
def r8(T v e q f:Int):T*(v*e+q*f)=v*T*e+q*(T*f):=Md
def r9(v T e q m:Int):v*T*e+q*(e*m)=e*(v*T+q*m):=Md
def r10(e r f:Int):e*r*f=e*(r*f):=Md
def r11(i u a n b:Int):i*(u*a+n*b)=u*(i*a)+n*b*i:=Md
def r12(u r f i2 b n i1:Int):u*(r*f+i2*b)+n*b*i1=u*(r*f)+b*(u*i2+n*i1):=Md
def r13(u r f b M a e g d s1 t:Int):(u*(r*f)+b*M)*(a*(e*g))+d*(e*r)*s1=(M+r*t)*(a*b*(e*g))+r*(e*(d*s1)+f*u*(a*(e*g))-a*b*(e*g)*t):=Md
def r14(d e r c k:Int):d*(e*r)*(c*k)=r*(c*d*k*e):=Md
variable{k e f gg u' s1 s2:Int}
def Br{n n' t i1 j1 i2 j2:Int}(hk:0<k)(Kt:0<gg)(he:0<e)
  (t5:u*a+n*b=1) (o9:u'*c+n'*d=1) (gap:c*s2-d*s1=f*gg) (t6:v*e+q*f=1)
  (hs:s=e*(d*s1)+f*u*(a*(e*gg))-a*b*(e*gg)*t) (x1:x=i1*(a*(e*gg))+j1*s1) (y1:y=j1*(c*k)) (x2:x=i2*(b*(e*gg))+j2*s2) (y2:y=j2*(d*k)):
  ∃i j,x=i*(a*b*(e*gg))+j*s/\y=j*(c*d*k*e):=by
 have h1:j1*c=j2*d:=kW hk (by rw[r1 k j1 c,r1 k j2 d,<-y1,<-y2]);have Nu:j1=d*(u'*j2+n'*j1):=by
  have p:=r2 j1 u' c n' d;rw[o9,h1,r3]at p;lia
 have Qv:j2=c*(u'*j2+n'*j1):=by
  have p:=r4 j2 u' c n' d;rw[o9,<-h1,r5]at p;lia
 generalize u'*j2+n'*j1=T at Nu Qv;have q1:i1*(a*(e*gg))+d*T*s1=i2*(b*(e*gg))+c*T*s2:=by rw[<-Nu,<-Qv,<-x1,<-x2]
 have h2:e*(i1*a-i2*b)=T*f:=kW Kt (by rw[r6 gg e i1 a i2 b d T s1 c s2 q1,r7,gap]);have eT:T=e*(v*T+q*(i1*a-i2*b)):=by
  have p:=r8 T v e q f;rw[t6,<-h2,r9]at p;lia
 generalize hr:v*T+q*(i1*a-i2*b)=r at eT;have h3:i1*a-i2*b=r*f:=kW he (by rw[h2,eT,r10]);have h4:i1=u*(r*f)+b*(u*i2+n*i1):=by
  have p:=r11 i1 u a n b;have q3:i1*a=r*f+i2*b:=KK
  rw[t5,q3,r12]at p;lia
 generalize u*i2+n*i1=M at h4;refine#[M+r*t,r,?_,?_]
 .rw[hs,x1,Nu,eT,<-r13,<-h4]
 .rw[y1,Nu,eT,r14]
def Bs{n n' t:Int}(ha:0<a)(hb:0<b)(hc:0<c)(hd:0<d)(he:0<e)(hk:0<k)(Kt:0<gg)
  (t5:u*a+n*b=1) (o9:u'*c+n'*d=1) (gap:c*s2-d*s1=f*gg) (t6:v*e+q*f=1)
  (hs:s=e*(d*s1)+f*u*(a*(e*gg))-a*b*(e*gg)*t) (m1:0<=s) (m2:s<a*b*(e*gg)):
  MetR (a*(e*gg)) (c*k) s1 (b*(e*gg)) (d*k) s2 (a*b*(e*gg)) (c*d*k*e) s (k*gg):=by
 have hg:0<e*gg:=G5 he Kt;have hW:0<a*b*(e*gg):=G5 (G5 ha hb) hg;have OF:d*s1=c*s2-f*gg:=KK
 have ua:u*a=1-n*b:=KK
 refine#[hW,G5 (G5 (G5 hc hd) hk) he,m1,m2,#[b,?_],#[a,?_],#[f*u-t*b,d*e,?_,?_],#[-(f*n)-t*a,c*e,?_,?_],G5 hk Kt,?_,#[a*e*c,?_],#[a*e*d,?_],#[b*e*c,?_],#[b*e*d,?_],#[-f,?_],?_,?_]
 .grind
 .grind
 .grind
 .grind
 .rw[hs,OF];have x2:f*u*(a*(e*gg))=f*(u*a)*(e*gg):=by grind
  rw[x2,ua];grind
 .grind
 .grind
 .grind
 .grind
 .grind
 .grind
 .have:s1*(d*k)-c*k*s2=-(k*(c*s2-d*s1)):=by grind
  rw[this,gap];grind
 .rintro x y⟨i1,j1,x1,z1⟩ ⟨i2,j2,x2,z2⟩;exact Br hk Kt he t5 o9 gap t6 hs x1 z1 x2 z2
 .rintro G⟨y1,z1⟩ ⟨y2,z2⟩ ⟨y3,z3⟩ ⟨y4,z4⟩ ⟨y5,z5⟩;refine#[v*(u'*u*y1+n'*u*y2+u'*n*y3+n'*n*y4)-q*y5,?_];have k1:k*(e*gg)=G*(u'*u*y1+n'*u*y2+u'*n*y3+n'*n*y4):=by
   have p1:k*(e*gg)=(u'*c+n'*d)*(u*a+n*b)*(k*(e*gg)):=by rw[t5,o9];grind
   have p2:(u'*c+n'*d)*(u*a+n*b)*(k*(e*gg))=u'*u*(a*(e*gg)*(c*k))+n'*u*(a*(e*gg)*(d*k))+u'*n*(b*(e*gg)*(c*k))+n'*n*(b*(e*gg)*(d*k)):=Md
   rw[p1,p2,z1,z2,z3,z4];grind
  have k2:k*(f*gg)=-(G*y5):=by
   rw[<-z5,<-gap];grind
  have k3:k*gg=(v*e+q*f)*(k*gg):=by rw[t6];grind
  have k4:(v*e+q*f)*(k*gg)=v*(k*(e*gg))+q*(k*(f*gg)):=Md
  rw[k3,k4,k1,k2];grind
variable{w1 h1 w2 h2:Int}
def kX{u8:Int}(Nv:0<w1)(Mw:0<w2)(Qw:0<h1)(B_:0<h2)
  (M1:Meas w1 w2 g u) (M2:Meas h1 h2 k u')
  (M3:Meas g (h1*h2/k/h2*s2-h1*h2/k/h1*s1) gg u8):
  MetR w1 h1 s1 w2 h2 s2 (w1*w2/g) (h1*h2/k*(g/gg)) ((g/gg*(h1*h2/k/h1*s1)+g/gg*(h1*h2/k/h2*s2-h1*h2/k/h1*s1)/g*u*w1)%(w1*w2/g)) (k*gg):=by
 have hg:=M1.pos Nv;have hk:=M2.pos Qw;have Kt:=M3.pos hg;obtain⟨_,⟨a,ea⟩,⟨b,eb⟩,n,en⟩:=M1;obtain⟨_,⟨c,ec⟩,⟨d,ed⟩,n',S4⟩:=M2;have ha:0<a:=dL (ea ▸ Nv) hg;have hb:0<b:=dL (eb ▸ Mw) hg;have hc:0<c:=dL (ec ▸ Qw) hk;have hd:0<d:=dL (ed ▸ B_) hk;have t5:u*a+n*b=1:=by
  have p:(u*a+n*b)*g=1*g:=by
   have:(u*a+n*b)*g=u*(a*g)+n*(b*g):=by grind
   rw[this,<-ea,<-eb];lia
  exact Ic KK p
 have o9:u'*c+n'*d=1:=by
  have p:(u'*c+n'*d)*k=1*k:=by
   have:(u'*c+n'*d)*k=u'*(c*k)+n'*(d*k):=by grind
   rw[this,<-ec,<-ed];lia
  exact Ic KK p
 have eW:w1*w2/g=a*b*g:=by
  have:w1*w2=(a*b*g)*g:=by rw[ea,eb];grind
  rw[this];exact Hn _ KK
 have eR:h1*h2/k=c*d*k:=by
  have:h1*h2=(c*d*k)*k:=by rw[ec,ed];grind
  rw[this];exact Hn _ KK
 have RU:h1*h2/k/h1=d:=by
  rw[eR];have:c*d*k=d*h1:=by rw[ec];grind
  rw[this];exact Hn _ KK
 have RV:h1*h2/k/h2=c:=by
  rw[eR];have:c*d*k=c*h2:=by rw[ed];grind
  rw[this];exact Hn _ KK
 rw[RU,RV]at M3 ⊢;obtain⟨_,⟨e,ee⟩,⟨f,ef⟩,q,eq⟩:=M3;have he:0<e:=dL (ee ▸ hg) Kt;have t6:u8*e+q*f=1:=by
  have p:(u8*e+q*f)*gg=1*gg:=by
   have:(u8*e+q*f)*gg=u8*(e*gg)+q*(f*gg):=by grind
   rw[this,<-ee,<-ef];lia
  exact Ic KK p
 have eC:g/gg=e:=by rw[ee];exact Hn _ KK
 have eS:e*(c*s2-d*s1)/g=f:=by
  have:e*(c*s2-d*s1)=f*g:=by rw[ef,ee];grind
  rw[this];exact Hn _ KK
 rw[eC,eS,eW,eR];have hW:0<a*b*g:=G5 (G5 ha hb) hg;have em:=HR (e*(d*s1)+f*u*w1) (a*b*g);have m1:=Hz (e*(d*s1)+f*u*w1) (show a*b*g≠0 by lia);have m2:=HA (e*(d*s1)+f*u*w1) hW;generalize (e*(d*s1)+f*u*w1)%(a*b*g)=s at em m1 m2 ⊢;generalize (e*(d*s1)+f*u*w1)/(a*b*g)=t at em;subst ea eb ec ed;subst ee;exact Bs ha hb hc hd he hk Kt t5 o9 ef t6 em m1 m2
def kY(hx:0<x)(hy:0<y)(M:Meas x y g u):0<x*y/g/\x*y/g<=x*y/\x*y/g/x*1<=y/\0<=x*y/g/x/\x*y/g/y<=x/\0<=x*y/g/y:=by
 have hg:=M.pos hx;obtain⟨_,⟨a,ea⟩,⟨b,eb⟩,_⟩:=M;have ha:0<a:=dL (ea ▸ hx) hg;have hb:0<b:=dL (eb ▸ hy) hg;have e1:x*y/g=a*b*g:=by
  have:x*y=(a*b*g)*g:=by rw[ea,eb];grind
  rw[this];exact Hn _ KK
 have e2:a*b*g/x=b:=by
  have:a*b*g=b*x:=by rw[ea];grind
  rw[this];exact Hn _ KK
 have e3:a*b*g/y=a:=by
  have:a*b*g=a*y:=by rw[eb];grind
  rw[this];exact Hn _ KK
 have p1:0<a*b*g:=G5 (G5 ha hb) hg;have q1:=(dh (w:=b) (h:=g) hb hg).1;have q2:=(dh (w:=a) (h:=g) ha hg).1;have q3:x*y=a*b*g*g:=by rw[ea,eb];grind
 have q4:=(dh (w:=a*b*g) (h:=g) p1 hg).1;rw[e1,e2,e3];lia
def cell(ns:List Int)(k:Int):Int:=ns.getD k.toNat 0
variable{ns:List Int}
def tX(h0:0<=k)(h1:k<(ns.length:Int)):atI (ns.map D.int) k=be (.int (cell ns k)):=by
 obtain⟨j,rfl⟩:∃j:Nat,k=(j:Int):=#[k.toNat,KK];have hk:j<ns.length:=KK
 refine bH ?_;rw[GY,G4 hk];simp[cell,Hw,G4 hk]
def Bt(h1:(ns.length:Int)<=k):cell ns k=0:=by
 have hk:ns.length<=k.toNat:=KK
 simp[cell,Hw,Ho hk]
def GL(k:Int):∃m,atI [D.int 12,D.int 720] (k%2)=be (.int m)/\(m=12\/m=720):=by
 rcases(KK:k%2=0\/k%2=1)with e|e
 .rw[e];exact#[12,rfl,.inl rfl]
 .rw[e];exact#[720,rfl,.inr rfl]
def cQ(h:0<b):0<=a%b:=Hz a KK
def cR(h:0<b):a%b<b:=HA a h
def Bu:SpD:=λds R=>∃(ns:List Int) (k:Int),ds=[.rol (ns.map D.int),.int k]/\0<=k/\R (.int (cell ns k))
def Bv:SpD:=λds R=>∃i:Int,ds=[.int i]/\R (.bl true)
def Bw:SpD:=λds R=>∃w h s x y:Int,ds=[.tup [.int w,.int h,.int s],.int x,.int y]/\0<w/\0<h/\h<1073741824/\0<=s/\s<1073741824/\
 R (.bl (decide (y%h=0/\(x-y/h*s)%w=0)))
def By:SpD:=λds R=>∃a b c d u v:Int,ds=[.tup [.int a,.int b],.tup [.int c,.int d],.int u,.int v]/\a.natAbs<1073741824/\b.natAbs<1073741824/\c.natAbs<1073741824/\d.natAbs<1073741824/\
 ¬a*d=b*c/\R (.bl (decide ((u*d-v*c).fmod (a*d-b*c)=0/\(a*v-b*u).fmod (a*d-b*c)=0)))
def Bz:SpD:=λds R=>∃x y:Int,ds=[.int x,.int y]/\∀g:Int,0<=g->g∣x->g∣y->(∀e,e∣x->e∣y->e∣g)->R (.int g)
def tY:e∣(if x<0 then -x else x)↔e∣x:=by
 split
 .exact Int.dvd_neg
 .exact Iff.rfl
def tZ(hb:e∣b):e∣a%b↔e∣a:=by
 have e1:=HR a b;rw[e1];constructor
 .intro h;have:=Jf h (JR (c:=a/b) hb);simpa using this
 .intro h;exact Int.dvd_sub h (JR hb)
def BA:SpD:=λds R=>∃w h s x y:Int,ds=[.tup [.int w,.int h,.int s],.int x,.int y]/\0<w/\0<h/\h<1073741824/\0<=s/\s<1073741824/\
 R (.tup [.int ((x-y/h*s)%w),.int (y%h)])
def BB:SpD:=λds R=>∃a b c d:Int,ds=[.tup [.int a,.int b],.tup [.int c,.int d]]/\b.natAbs<4611686018427387904/\d.natAbs<4611686018427387904/\
 ∀p0 p1 q0,Lev a b c d p0 p1 q0->R (.tup [.tup [.int p0,.int p1],.tup [.int q0,.int 0]])
def BC:SpD:=λds R=>∃a b c d:Int,ds=[.tup [.int a,.int b],.tup [.int c,.int d]]/\a.natAbs<4611686018427387904/\b.natAbs<4611686018427387904/\c.natAbs<4611686018427387904/\d.natAbs<4611686018427387904/\
 (a*d=b*c->R .non)/\(¬a*d=b*c->∀w h s,FamOf a b c d w h s->R (.tup [.int w,.int h,.int s]))
def BD:SpD:=λds R=>∃w h s:Int,ds=[.tup [.int w,.int h,.int s]]/\0<w/\R (.tup [.int w,.int h,.int (-s%w)])
def BE:SpD:=λds R=>∃w h s:Int,ds=[.tup [.int w,.int h,.int s]]/\0<w/\0<h/\w<4611686018427387904/\h<4611686018427387904/\0<=s/\s<4611686018427387904/\
 ∀w' h' s',FamOf 0 w (-h) s w' h' s'->R (.tup [.int w',.int h',.int s'])
def BF:SpD:=λds R=>∃x y:Int,ds=[.int x,.int y]/\x.natAbs<4611686018427387904/\y.natAbs<4611686018427387904/\∀g u,Meas x y g u->R (.tup [.int g,.int u])
def BG:SpD:=λds R=>∃w1 h1 s1 w2 h2 s2:Int,ds=[.tup [.int w1,.int h1,.int s1],.tup [.int w2,.int h2,.int s2]]/\0<w1/\w1<=33554432/\0<h1/\h1<=33554432/\0<=s1/\s1<w1/\0<w2/\w2<=33554432/\0<h2/\h2<=33554432/\0<=s2/\s2<w2/\
 ∀w h s A,MetR w1 h1 s1 w2 h2 s2 w h s A->R (.tup [.int w,.int h,.int s])
def Drawn(xs:List Int):Prop:=∀x∈xs,0<=x/\x<5040
variable{xs:List Int}
def Drawn.at(h:Drawn xs)(k:Int):0<=cell xs k/\cell xs k<5040:=by
 by_cases hk:k.toNat<xs.length
 .have:cell xs k=xs[k.toNat]:=by simp[cell,Hw,G4 hk]
  rw[this];exact h _ (Hg hk)
 .have:cell xs k=0:=by simp[cell,Hw,Ho (IC hk)]
  lia
def cH(h0:0<=k)(h:k.toNat<xs.length):atI (xs.map D.int) k=be (.int (cell xs k)):=tX h0 KK
def ub:xs.map D.int++[D.int v]=(xs++[v]).map D.int:=K'
def uc(h:Drawn xs)(h1:0<=v)(h2:v<5040):Drawn (xs++[v]):=by
 intro x hx;rcases Hi.mp hx with q|q
 .exact h x q
 .rw[GM.mp q];exact#[h1,h2]
def BH:SpD:=λds R=>∃(ns:List Int) (k:Int) (n:Nat),ds=[.rol (ns.map D.int),.int k,.int n]/\0<=k/\n<=100/\∀xs:List Int,xs.length=n->Drawn xs->R (.lst (xs.map D.int))
def BI:SpD:=λds R=>∃xs:List Int,ds=[.lst (xs.map D.int)]/\8<=xs.length/\Drawn xs/\
 ∀a b c d:Int,(-12<=a/\a<=12)->(-12<=b/\b<=12)->(-12<=c/\c<=12)->(-12<=d/\d<=12)->¬a*d=b*c->R (.lst [.tup [.int a,.int b],.tup [.int c,.int d]])
abbrev cs(x:F_):List Nat:=x.cps.toList
def bj(x:F_):(cs x).length=x.length:=by simp[Str.length]
def ud:cs ""=[]:=rfl
def bF(x y:F_):cs (x++y)=cs x++cs y:=by
 show((x++y:F_)).cps.toList=_;rw[show(x++y:F_).cps=x.cps++y.cps from rfl,Array.toList_append]
def aG(x y:F_):(x++y).length=x.length+y.length:=by rw[<-bj,bF,G2,bj,bj]
def aZ(c:Nat):Prop:=c=46\/(49<=c/\c<=54)
def kZ:∀(L:List F_),cO (L.map D.str)=be L
 |[]=>rfl
 |x::L=>by simp[cO,kZ L]
def eZ(x:F_):Prop:=0<x.length/\x.length<=7/\∀c∈cs x,aZ c
def BJ{x:F_}(h:eZ x)(v:Int):∃c,(x.length<=1000000/\atI (cs x) (v%(x.length:Int))=be c)/\aZ c:=by
 have h1:=cQ (a:=v) (show 0<(x.length:Int)by have:=h.1;lia);have h2:=cR (a:=v) (show 0<(x.length:Int)by have:=h.1;lia);obtain⟨j,ej⟩:∃j:Nat,v%(x.length:Int)=(j:Int):=#[(v%(x.length:Int)).toNat,KK];have hj:j<(cs x).length:=by rw[bj];lia
 refine#[(cs x)[j],#[by have:=h.2.1;lia,?_],h.2.2 _ (Hg hj)];rw[ej];exact bH (G4 hj)
def BK:eZ "1.23456":=#[K7,K7,by unfold aZ;decide+kernel]
def BL:eZ "12":=#[K7,K7,by unfold aZ;decide+kernel]
def BM:eZ "1.":=#[K7,K7,by unfold aZ;decide+kernel]
def BN:eZ "...2":=#[K7,K7,by unfold aZ;decide+kernel]
def BO(k:Int):∃x,atI [D.str "1.23456",D.str "12",D.str "1.",D.str "...2"] (k%4)=be (.str x)/\eZ x:=by
 rcases(KK:k%4=0\/k%4=1\/k%4=2\/k%4=3)with e|e|e|e<;>rw[e]
 .exact#[_,rfl,BK]
 .exact#[_,rfl,BL]
 .exact#[_,rfl,BM]
 .exact#[_,rfl,BN]
def BP(k:Int):∃m,atI [D.int 1,D.int 70] (k%2)=be (.int m)/\(m=1\/m=70):=by
 rcases(KK:k%2=0\/k%2=1)with e|e<;>rw[e]
 .exact#[1,rfl,.inl rfl]
 .exact#[70,rfl,.inr rfl]
structure Rows(L:List Str):Prop where
 many:1<=L.length/\L.length<=8
 wide:∃w,(1<=w/\w<=8)/\∀l∈L,l.length=w/\∀c∈cs l,aZ c
variable{L:List F_}
def Rows.of{w t:Nat}(h1:1<=t)(h2:t<=8)(hl:L.length=t)(w1:1<=w)(w2:w<=8)(h:∀l∈L,l.length=w/\∀c∈cs l,aZ c):Rows L:=#[KK,w,#[w1,w2],h]
def BQ{x:F_}{c:Nat}{i:Nat}(h1:x.length=i)(h2:∀c∈cs x,aZ c)(hc:aZ c):(x++#[[c].toArray]:F_).length=i+1/\∀c'∈cs (x++#[[c].toArray]),aZ c':=by
 refine#[by rw[aG,h1];rfl,λc' q=>?_];rw[bF]at q;rcases Hi.mp q with q|q
 .exact h2 _ q
 .have:c'=c:=by simpa[cs]using q
  rw[this];exact hc
def BR{x:F_}:L.map D.str++[D.str x]=(L++[x]).map D.str:=K'
def dm(L:List F_)(a b c d:Int):Str:=("["++Txt.join "/" L)++((((((((";":F_)++(toString a:String))++",")++(toString b:String))++";")++(toString c:String))++",")++(toString d:String))++"]"
def bJ(h:-12<=a/\a<=12):((toString a:String):F_).length<=3:=by
 have key:∀k:Fin 25,((toString (((k.val:Nat):Int)-12):String):F_).length<=3:=K7
 have:=key #[(a+12).toNat,KK];have e:(((a+12).toNat:Nat):Int)-12=a:=KK
 rw[e]at this;exact this
def B12(a:Int):Prop:=-12<=a/\a<=12
def B12.lt(h:B12 a):a.natAbs<1073741824:=by unfold B12 at h;lia
def ue{w:Nat}(h:∀l∈L,l.length=w):(L.map (·.length)).sum=L.length*w:=by
 induction L with
 |nil=>simp
 |cons x L ih=>
  rw[G7,List.sum_cons,ih (λl hl=>h l (GQ _ hl)),h x GS,GU,Ir,Jg]
def uf(h:Rows L):(L.map (·.length)).sum+L.length*("/":F_).length<=72:=by
 obtain⟨h1,w,hw,h2⟩:=h;rw[ue (λl hl=>(h2 l hl).1)];have e:("/":F_).length=1:=rfl;rw[e];have:=IF h1.2 hw.2;lia
def BS:SpD:=λds R=>∃xs:List Int,ds=[.lst (xs.map D.int)]/\40<=xs.length/\Drawn xs/\∀L:List F_,Rows L->R (.lst (L.map D.str))
def BT:SpD:=λds R=>∃(L:List F_) (a b c d:Int),ds=[.lst (L.map D.str),.tup [.int a,.int b],.tup [.int c,.int d]]/\Rows L/\B12 a/\B12 b/\B12 c/\B12 d/\R (.str (dm L a b c d))
structure Leaf where
 rows:List F_
 a:Int
 b:Int
 c:Int
 d:Int
 w0:Int
 w1:Int
 w2:Int
 w3:Int
 w4:Int
 w5:Int
 hues:List Int
def Leaf.D(l:Leaf):My.D:=.tup [.lst (l.rows.map D.str),.tup [.int l.a,.int l.b],.tup [.int l.c,.int l.d],.tup [.int l.w0,.int l.w1,.int l.w2,.int l.w3,.int l.w4,.int l.w5],.lst (l.hues.map D.int)]
structure Leaf.Ok(l:Leaf):Prop where
 rows:Rows l.rows
 a:B12 l.a
 b:B12 l.b
 c:B12 l.c
 d:B12 l.d
 ne:¬l.a*l.d=l.b*l.c
 w0:l.w0.natAbs<=1
 w1:l.w1.natAbs<=1
 w2:l.w2.natAbs<=1
 w3:l.w3.natAbs<=1
 w4:l.w4.natAbs<=1000
 w5:l.w5.natAbs<=1000
 many:l.hues.length=7
 hue:∀h∈l.hues,0<=h/\h<=6
def onB(a b c d u v:Int):Bool:=decide ((u*d-v*c).fmod (a*d-b*c)=0/\(a*v-b*u).fmod (a*d-b*c)=0)
def scanRow(f:Int->Bool):Nat->List Nat->Option Nat
 |_,[]=>t9
 |i,c::r=>if c≠46/\f i=true then be c else scanRow f (i+1) r
def bR(f:Int->Int->Bool):Nat->List F_->Option Nat
 |_,[]=>t9
 |j,l::r=>match scanRow (λi=>f i j) 0 (cs l)with|some c=>be c|none=>bR f (j+1) r
def Leaf.hit(l:Leaf)(x y:Int):Option Nat:=bR (λi j=>onB l.a l.b l.c l.d (l.w0*x+l.w1*y+l.w4-i) (l.w2*x+l.w3*y+l.w5-j)) 0 l.rows
def Leaf.shows(l:Leaf)(x y:Int):Int:=match l.hit x y with|some c=>cell l.hues ((c:Int)-48)|none=>0
def one_sign{c:Nat}:(#[[c].toArray]:F_)="."↔c=46:=by
 constructor
 .intro h;have:([c].toArray:Array Nat)=(".":F_).cps:=congrArg Str.cps h;have e:([c].toArray:Array Nat).toList=(".":F_).cps.toList:=by rw[this]
  have e2:(".":F_).cps.toList=[46]:=rfl;rw[e2]at e;simpa using e
 .rintro rfl;rfl
def digit_of{c:Nat}(h:49<=c/\c<=54):PySem.intText? (#[[c].toArray]:F_)=be ((c:Int)-48):=by
 rcases(KK:c=49\/c=50\/c=51\/c=52\/c=53\/c=54)with e|e|e|e|e|e<;>subst e<;>decide+kernel
def at_str{j:Nat}{x:F_}(h:L[j]?=be x):atI (L.map D.str) (j:Int)=be (.str x):=bH (by rw[GY,h];rfl)
def bS{n:Int}{k:Nat}{x:D}(h:((GO n.toNat).map λk=>D.int ((k:Nat):Int))[k]?=be x):k<n.toNat/\x=.int (k:Int):=by
 have hk:k<n.toNat:=by simpa using(GZ.mp h).1
 refine#[hk,?_];simp[hk]at h;exact h.symm
def bA{n:Int}:((GO n.toNat).map λk=>D.int ((k:Nat):Int)).length=n.toNat:=K'
def aV:List Leaf->Int->Int->Int
 |[],_,_=>0
 |l::r,x,y=>if l.shows x y≠0 then l.shows x y else aV r x y
variable{hs:List Int}
def BU(h:∀h∈hs,0<=h/\h<=6)(k:Int):0<=cell hs k/\cell hs k<=6:=by
 by_cases hk:k.toNat<hs.length
 .have:cell hs k=hs[k.toNat]:=by simp[cell,Hw,G4 hk]
  rw[this];exact h _ (Hg hk)
 .have:cell hs k=0:=by simp[cell,Hw,Ho (IC hk)]
  lia
variable{l:Leaf}
def Leaf.shows_le(h:l.Ok)(x y:Int):0<=l.shows x y/\l.shows x y<=6:=by
 unfold Leaf.shows;split
 .exact BU h.hue _
 .lia
def uh:∀{ls:List Leaf} (x y:Int),(∀l∈ls,l.Ok)->0<=aV ls x y/\aV ls x y<=6
 |[],_,_,_=>by simp[aV]
 |l::r,x,y,h=>by
  unfold aV;split
  .exact Leaf.shows_le (h l GS) x y
  .exact uh x y λl' q=>h l' (GQ _ q)
def bu(L:List F_)(a b c d:Int):Leaf:=#[L,a,b,c,d,1,0,0,1,0,0,[0,1,2,3,4,5,6]]
def BV:SpD:=λds R=>∃(ns:List Int) (k:Int),ds=[.rol (ns.map D.int),.int k]/\0<=k/\
 ∀(L:List F_) (a b c d:Int),Rows L->B12 a->B12 b->B12 c->B12 d->¬a*d=b*c->R (.lst [.str (dm L a b c d),.int 0,.lst [(bu L a b c d).D]])
def BW:SpD:=λds R=>∃(l:Leaf) (x y:Int),ds=[l.D,.int x,.int y]/\l.Ok/\R (.int (l.shows x y))
def BX:SpD:=λds R=>∃(ls:List Leaf) (x y:Int),ds=[.lst (ls.map Leaf.D),.int x,.int y]/\(∀l∈ls,l.Ok)/\R (.int (aV ls x y))
inductive Pat where
 |mot (L:List Str) (a b c d:Int)
 |over (p q:Pat)
 |sh (a b:Int) (p:Pat)
 |mir (p:Pat)
 |tur (p:Pat)
 |hue (f g:Int) (p:Pat)
def Pat.text:Pat->F_
 |.mot L a b c d=>dm L a b c d
 |.over p q=>(((("(":F_)++p.text)++"|")++q.text)++")"
 |.sh a b p=>((((("s":F_)++(toString a:String))++",")++(toString b:String))++":")++p.text
 |.mir p=>("m":F_)++p.text
 |.tur p=>("t":F_)++p.text
 |.hue f g p=>((("h":F_)++(toString f:String))++(toString g:String))++p.text
def Pat.depth:Pat->Nat
 |.mot ..=>0
 |.over p q=>1+max p.depth q.depth
 |.sh _ _ p=>p.depth+1
 |.mir p=>p.depth+1
 |.tur p=>p.depth+1
 |.hue _ _ p=>p.depth+1
def Leaf.by(l:Leaf)(b0 b1 b2 b3 b4 b5:Int):Leaf:=
 {l with w0:=l.w0*b0+l.w1*b2,w1:=l.w0*b1+l.w1*b3,w2:=l.w2*b0+l.w3*b2,w3:=l.w2*b1+l.w3*b3,w4:=l.w4+l.w0*b4+l.w1*b5,w5:=l.w5+l.w2*b4+l.w3*b5}
def bK(f g h:Int):Int:=if h=f then g else h
def Leaf.dye(l:Leaf)(f g:Int):Leaf:={l with hues:=l.hues.map (bK f g)}
def Pat.leaves:Pat->List Leaf
 |.mot L a b c d=>[bu L a b c d]
 |.over p q=>p.leaves++q.leaves
 |.sh a b p=>p.leaves.map (λl=>l.by 1 0 0 1 (-a) (-b))
 |.mir p=>p.leaves.map (λl=>l.by (-1) 0 0 1 0 0)
 |.tur p=>p.leaves.map (λl=>l.by 0 1 (-1) 0 0 0)
 |.hue f g p=>p.leaves.map (λl=>(l.by 1 0 0 1 0 0).dye f g)
def Pat.show:Pat->Int->Int->Int
 |.mot L a b c d,x,y=>(bu L a b c d).shows x y
 |.over p q,x,y=>if p.show x y≠0 then p.show x y else q.show x y
 |.sh a b p,x,y=>p.show (x-a) (y-b)
 |.mir p,x,y=>p.show (-x) y
 |.tur p,x,y=>p.show y (-x)
 |.hue f g p,x,y=>bK f g (p.show x y)
def Pat.Wf:Pat->Prop
 |.mot L a b c d=>Rows L/\B12 a/\B12 b/\B12 c/\B12 d/\¬a*d=b*c
 |.over p q=>p.Wf/\q.Wf
 |.sh a b p=>B12 a/\B12 b/\p.Wf
 |.mir p=>p.Wf
 |.tur p=>p.Wf
 |.hue f g p=>(1<=f/\f<=6)/\(1<=g/\g<=6)/\p.Wf
def Leaf.by_shows(l:Leaf)(b0 b1 b2 b3 b4 b5 x y:Int):(l.by b0 b1 b2 b3 b4 b5).shows x y=l.shows (b0*x+b1*y+b4) (b2*x+b3*y+b5):=by
 have e1:(l.w0*b0+l.w1*b2)*x+(l.w0*b1+l.w1*b3)*y+(l.w4+l.w0*b4+l.w1*b5)=l.w0*(b0*x+b1*y+b4)+l.w1*(b2*x+b3*y+b5)+l.w4:=Md
 have e2:(l.w2*b0+l.w3*b2)*x+(l.w2*b1+l.w3*b3)*y+(l.w5+l.w2*b4+l.w3*b5)=l.w2*(b0*x+b1*y+b4)+l.w3*(b2*x+b3*y+b5)+l.w5:=Md
 simp only[Leaf.shows,Leaf.hit,Leaf.by,e1,e2]
def gc(b0 b1 b2 b3 b4 b5 x y:Int):∀ls:List Leaf,aV (ls.map (λl=>l.by b0 b1 b2 b3 b4 b5)) x y=aV ls (b0*x+b1*y+b4) (b2*x+b3*y+b5)
 |[]=>rfl
 |l::r=>by
  rw[G7,aV,aV,Leaf.by_shows,gc b0 b1 b2 b3 b4 b5 x y r]
def scanRow_sign{f:Int->Bool}:∀{cs:List Nat} {i c:Nat},(∀c∈cs,aZ c)->scanRow f i cs=be c->49<=c/\c<=54
 |[],_,_,_,h=>by cases h
 |a::r,i,c,hs,h=>by
  rw[scanRow]at h;split at h
  .rename_i q;cases h;have:=hs a GS;unfold aZ at this;have:=q.1;lia
  .exact scanRow_sign (λc q=>hs c (GQ _ q)) h
def lf{f:Int->Int->Bool}:∀{L:List F_} {j c:Nat},(∀l∈L,∀c∈cs l,aZ c)->bR f j L=be c->49<=c/\c<=54
 |[],_,_,_,h=>by cases h
 |a::r,j,c,hs,h=>by
  rw[bR]at h;split at h
  .rename_i q;cases h;exact scanRow_sign (hs a GS) q
  .exact lf (λl q=>hs l (GQ _ q)) h
def BY(h:k.toNat<hs.length):cell (hs.map (bK f g)) k=bK f g (cell hs k):=by
 simp[cell,Hw,GY,G4 h]
def Leaf.dye_shows(ok:l.Ok)(hf:1<=f)(x y:Int):(l.dye f g).shows x y=bK f g (l.shows x y):=by
 have e:(l.dye f g).hit x y=l.hit x y:=rfl;unfold Leaf.shows;rw[e];cases h:l.hit x y with
 |none=>simp[bK];lia
 |some c=>
  have hc:49<=c/\c<=54:=lf (λl' q=>let ⟨_,_,_,h⟩:=ok.rows;(h l' q).2) h;exact BY (by rw[ok.many];lia)
def ui(hf:1<=f)(hg:1<=g):bK f g h=0↔h=0:=by
 unfold bK;split<;>lia
def uj{f g:Int}(hf:1<=f)(hg:1<=g)(x y:Int):∀ls:List Leaf,(∀l∈ls,l.Ok)->aV (ls.map (λl=>l.dye f g)) x y=bK f g (aV ls x y)
 |[],_=>by simp[aV,bK];lia
 |l::r,h=>by
  rw[G7,aV,aV,Leaf.dye_shows (h l GS) hf,uj hf hg x y r λl q=>h l (GQ _ q)];by_cases z:l.shows x y=0
  .rw[if_neg (λq=>q ((ui hf hg).mpr z)),if_neg (λq=>q z)]
  .rw[if_pos (λq=>z ((ui hf hg).mp q)),if_pos z]
def uk(x y:Int):∀(a b:List Leaf),aV (a++b) x y=if aV a x y≠0 then aV a x y else aV b x y
 |[],b=>by simp[aV]
 |l::r,b=>by
  rw[List.cons_append,aV,aV];by_cases z:l.shows x y≠0
  .rw[if_pos z,if_pos z,if_pos z]
  .rw[if_neg z,if_neg z,uk x y r b]
structure Leaf.Near(l:Leaf)(n:Nat):Prop where
 u0:(l.w0.natAbs=1/\l.w1=0/\l.w2=0/\l.w3.natAbs=1)\/(l.w0=0/\l.w1.natAbs=1/\l.w2.natAbs=1/\l.w3=0)
 w4:l.w4.natAbs<=24*n
 w5:l.w5.natAbs<=24*n
variable{n:Nat}
def Leaf.Near.mono{m:Nat}(h:l.Near n)(k:n<=m):l.Near m:=#[h.u0,by have:=h.w4;lia,by have:=h.w5;lia]
def Leaf.Near.unit(h:l.Near n):(l.w0=1\/l.w0=-1\/l.w0=0)/\(l.w1=1\/l.w1=-1\/l.w1=0)/\(l.w2=1\/l.w2=-1\/l.w2=0)/\(l.w3=1\/l.w3=-1\/l.w3=0):=by
 have:=h.u0;lia
def ul(h:e.natAbs<=24*n)(hw:w=1\/w=-1\/w=0)(hv:v=1\/v=-1\/v=0)(ha:B12 a)(hb:B12 b):(e+w* -a+v* -b).natAbs<=24*(n+1):=by
 have m:∀{w a:Int},(w=1\/w=-1\/w=0)->B12 a->(w* -a).natAbs<=12:=λhw ha=>by
  unfold B12 at ha;rcases hw with rfl|rfl|rfl<;>lia
 have:=m hw ha;have:=m hv hb;generalize w* -a=x at*;generalize v* -b=y at*;clear m hw hv ha hb;lia
def BZ(h:l.Near n)(ha:B12 a)(hb:B12 b):(l.by 1 0 0 1 (-a) (-b)).Near (n+1):=by
 obtain⟨h0,h1,h2,h3⟩:=h.unit;exact#[by simpa[Leaf.by]using h.u0,ul h.w4 h0 h1 ha hb,ul h.w5 h2 h3 ha hb]
def B0(h:l.Near n):(l.by (-1) 0 0 1 0 0).Near (n+1):=by
 have p:=h.w4;have q:=h.w5;exact#[by simpa[Leaf.by]using h.u0,by simp[Leaf.by];lia,by simp[Leaf.by];lia]
def B1(h:l.Near n):(l.by 0 1 (-1) 0 0 0).Near (n+1):=by
 have p:=h.w4;have q:=h.w5;refine#[?_,by simp[Leaf.by];lia,by simp[Leaf.by];lia];rcases h.u0 with⟨a,b,c,d⟩|⟨a,b,c,d⟩
 .exact .inr (by simp[Leaf.by,a,b,c,d])
 .exact .inl (by simp[Leaf.by,a,b,c,d])
def um(h:l.Near n):((l.by 1 0 0 1 0 0).dye f g).Near (n+1):=by
 have p:=h.w4;have q:=h.w5;exact#[by simpa[Leaf.by,Leaf.dye]using h.u0,by simp[Leaf.by,Leaf.dye];lia,by simp[Leaf.by,Leaf.dye];lia]
structure Leaf.Good(l:Leaf):Prop where
 rows:Rows l.rows
 a:B12 l.a
 b:B12 l.b
 c:B12 l.c
 d:B12 l.d
 ne:¬l.a*l.d=l.b*l.c
 many:l.hues.length=7
 hue:∀h∈l.hues,0<=h/\h<=6
def Leaf.ok_of(g:l.Good)(h:l.Near n)(hn:n<=40):l.Ok:=by
 have:=h.u0;have:=h.w4;have:=h.w5;exact#[g.rows,g.a,g.b,g.c,g.d,g.ne,KK,KK,KK,KK,KK,KK,g.many,g.hue]
def Pat.leaf_good:∀{p:Pat},p.Wf->∀l∈p.leaves,l.Good/\l.Near p.depth
 |.mot L a b c d,h,l,q=>by
  have:l=bu L a b c d:=by simpa[Pat.leaves]using q
  subst this;obtain⟨h1,h2,h3,h4,h5,h6⟩:=h;exact#[#[h1,h2,h3,h4,h5,h6,rfl,by intro h q;simp[bu]at q;lia],#[by simp[bu],by simp[bu],by simp[bu]]]
 |.over p r,h,l,q=>by
  rcases Hi.mp q with q|q
  .obtain⟨g,n⟩:=Pat.leaf_good h.1 l q;exact#[g,n.mono (by simp only[Pat.depth];lia)]
  .obtain⟨g,n⟩:=Pat.leaf_good h.2 l q;exact#[g,n.mono (by simp only[Pat.depth];lia)]
 |.sh a b p,h,l,q=>by
  obtain⟨l',q',rfl⟩:=Hc.mp q;obtain⟨g,n⟩:=Pat.leaf_good h.2.2 l' q';exact#[#[g.rows,g.a,g.b,g.c,g.d,g.ne,g.many,g.hue],BZ n h.1 h.2.1]
 |.mir p,h,l,q=>by
  obtain⟨l',q',rfl⟩:=Hc.mp q;obtain⟨g,n⟩:=Pat.leaf_good (p:=p) h l' q';exact#[#[g.rows,g.a,g.b,g.c,g.d,g.ne,g.many,g.hue],B0 n]
 |.tur p,h,l,q=>by
  obtain⟨l',q',rfl⟩:=Hc.mp q;obtain⟨g,n⟩:=Pat.leaf_good (p:=p) h l' q';exact#[#[g.rows,g.a,g.b,g.c,g.d,g.ne,g.many,g.hue],B1 n]
 |.hue f k p,h,l,q=>by
  obtain⟨l',q',rfl⟩:=Hc.mp q;obtain⟨g,n⟩:=Pat.leaf_good (p:=p) h.2.2 l' q';refine#[#[g.rows,g.a,g.b,g.c,g.d,g.ne,?_,λv hv=>?_],um n]
  .show(l'.hues.map _).length=7;rw[GT];exact g.many
  .obtain⟨u,hu,rfl⟩:=Hc.mp hv;have:=g.hue u hu;have:=h.2.1;unfold bK;split<;>lia
variable{p:Pat}
def Pat.leaf_ok(h:p.Wf)(hd:p.depth<=40):∀l∈p.leaves,l.Ok:=λl q=>Leaf.ok_of (Pat.leaf_good h l q).1 (Pat.leaf_good h l q).2 hd
def Pat.show_leaves:∀{p:Pat},p.Wf->p.depth<=40->∀x y,aV p.leaves x y=p.show x y
 |.mot L a b c d,_,_,x,y=>by
  simp only[Pat.leaves,Pat.show,aV];split
  .rfl
  .lia
 |.over p q,h,hd,x,y=>by
  simp only[Pat.depth]at hd;rw[Pat.leaves,uk,Pat.show_leaves h.1 KK,Pat.show_leaves h.2 KK,Pat.show]
 |.sh a b p,h,hd,x,y=>by
  simp only[Pat.depth]at hd;rw[Pat.leaves,gc,Pat.show_leaves h.2.2 KK,Pat.show];congr 1<;>lia
 |.mir p,h,hd,x,y=>by
  simp only[Pat.depth]at hd;rw[Pat.leaves,gc,Pat.show_leaves (p:=p) h KK,Pat.show];congr 1<;>lia
 |.tur p,h,hd,x,y=>by
  simp only[Pat.depth]at hd;rw[Pat.leaves,gc,Pat.show_leaves (p:=p) h KK,Pat.show];congr 1<;>lia
 |.hue f g p,h,hd,x,y=>by
  simp only[Pat.depth]at hd;have e:p.leaves.map (λl=>(l.by 1 0 0 1 0 0).dye f g)=(p.leaves.map (λl=>l.by 1 0 0 1 0 0)).map (λl=>l.dye f g):=by rw[Ie];rfl
  rw[Pat.leaves,e,uj h.1.1 h.2.1.1,gc,Pat.show_leaves h.2.2 KK,Pat.show]
  .congr 2<;>lia
  .intro l q;obtain⟨l',q',rfl⟩:=Hc.mp q;obtain⟨g',n⟩:=Pat.leaf_good h.2.2 l' q';have n':=um (f:=f) (g:=g) n;have:(l'.by 1 0 0 1 0 0).Near (p.depth+1):=#[n'.u0,n'.w4,n'.w5];exact Leaf.ok_of #[g'.rows,g'.a,g'.b,g'.c,g'.d,g'.ne,g'.many,g'.hue] this KK
def Pat.D(p:Pat):My.D:=.lst [.str p.text,.int p.depth,.lst (p.leaves.map Leaf.D)]
def Leaf.T(dy:Bool)(d6 new b0 b1 b2 b3 b4 b5:Int)(l:Leaf):Leaf:=if dy then(l.by b0 b1 b2 b3 b4 b5).dye d6 new else l.by b0 b1 b2 b3 b4 b5
def fg(h:1<=a/\a<=6):((toString a:String):F_).length<=3:=bJ KK
def Wraps(p:Pat)(H:Prop)(R:My.D->Prop):Prop:=(5<=p.depth->R p.D)/\(p.depth<5->R (Pat.mir p).D/\R (Pat.tur p).D/\(∀a b,B12 a->B12 b->R (Pat.sh a b p).D)/\(H->∀f g:Int,(1<=f/\f<=6)->(1<=g/\g<=6)->R (Pat.hue f g p).D))
variable{A:Int}{R:My.D->Prop}
def B2(h:Wraps p (j=3) R)(hd:p.depth<5){k B d6 new:Int}(hA:B12 A)(hB:B12 B)(ho:1<=d6/\d6<=6)(hn:1<=new/\new<=6)(hj:0<=j/\j<4):
  ∃(hs:F_) (b0 b1 b2 b3 b4 b5:Int),atI [D.str "m",D.str "t",D.str ((((("s":F_)++(toString A:String))++",")++(toString B:String))++":"),D.str ((("h":F_)++(toString d6:String))++(toString new:String))] j=be (.str hs)/\
   atI ([D.tup [.int (-1),.int 0,.int 0,.int 1,.int 0,.int 0],D.tup [.int 0,.int 1,.int (-1),.int 0,.int 0,.int 0]]++[D.tup [.int 1,.int 0,.int 0,.int 1,.int (-A),.int (-B)],D.tup [.int 1,.int 0,.int 0,.int 1,.int 0,.int 0]]) j=be (.tup [.int b0,.int b1,.int b2,.int b3,.int b4,.int b5])/\
   (b0.natAbs<=1/\b1.natAbs<=1/\b2.natAbs<=1/\b3.natAbs<=1/\b4.natAbs<=12/\b5.natAbs<=12)/\hs.length<=20/\
   R (.lst [.str (hs++p.text),.int (p.depth+1),.lst ((p.leaves.map (Leaf.T (decide (j=3)) d6 new b0 b1 b2 b3 b4 b5)).map Leaf.D)]):=by
 obtain⟨h1,h2,h3,h4⟩:=h.2 hd;have l1:("s":F_).length=1:=rfl;have l2:(",":F_).length=1:=rfl;have l3:(":":F_).length=1:=rfl;have l4:("h":F_).length=1:=rfl;have lA:=bJ hA;have lB:=bJ hB;have lo:=fg ho;have ln:=fg hn;have eD:∀n:Nat,D.int ((n+1:Nat):Int)=D.int ((n:Int)+1):=λn=>by congr 1
 unfold B12 at hA hB;rcases(KK:j=0\/j=1\/j=2\/j=3)with rfl|rfl|rfl|rfl
 .exact#[_,_,_,_,_,_,_,rfl,rfl,KK,K3,h1]
 .exact#[_,_,_,_,_,_,_,rfl,rfl,KK,K3,h2]
 .refine#[_,_,_,_,_,_,_,rfl,rfl,KK,?_,h3 A B hA hB]
  repeat rw[aG]
  lia
 .refine#[_,_,_,_,_,_,_,rfl,rfl,KK,?_,h4 rfl d6 new ho hn]
  repeat rw[aG]
  lia
def B3(h d6 new:Int):atI [D.int h,D.int new] (if decide (h=d6)=true then(1:Int)else 0)=be (.int (bK d6 new h)):=by
 unfold bK;by_cases e:h=d6
 .rw[if_pos e,if_pos (by simpa using e)];rfl
 .rw[if_neg e,if_neg (by simpa using e)];rfl
def lm{α:Type}{xs:List α}{k:Nat}{x:α}(h:xs[k]?=be x):xs.take (k+1)=xs.take k++[x]:=by
 have hk:k<xs.length:=(GZ.mp h).1;rw[JH,h];rfl
def Pat.leaves_len:∀(p:Pat),p.leaves.length<=2^p.depth
 |.mot ..=>GN _
 |.over p q=>by
  have h1:=p.leaves_len;have h2:=q.leaves_len;have m1:2^p.depth<=2^(max p.depth q.depth):=Ig K3 (JS _ _);have m2:2^q.depth<=2^(max p.depth q.depth):=Ig K3 (JT _ _);rw[Pat.leaves,G2,Pat.depth,JU];lia
 |.sh a b p=>by rw[Pat.leaves,GT,Pat.depth,HG];have:=p.leaves_len;lia
 |.mir p=>by rw[Pat.leaves,GT,Pat.depth,HG];have:=p.leaves_len;lia
 |.tur p=>by rw[Pat.leaves,GT,Pat.depth,HG];have:=p.leaves_len;lia
 |.hue f g p=>by rw[Pat.leaves,GT,Pat.depth,HG];have:=p.leaves_len;lia
def Pat.leaves_32(h:p.depth<=5):p.leaves.length<=32:=GW p.leaves_len (Ig K3 h)
def B4:SpD:=λds R=>∃(p:Pat) (draw:Int),ds=[p.D,.int draw]/\p.Wf/\p.depth<=5/\p.text.length<=100000/\Wraps p (draw%4=3) R
def uo(hn:¬a*d=b*c)(h:(u*d-v*c).fmod (a*d-b*c)=0/\(a*v-b*u).fmod (a*d-b*c)=0):∃i j,u=i*a+j*c/\v=i*b+j*d:=by
 have hz:a*d-b*c≠0:=K_
 obtain⟨i,ei⟩:(a*d-b*c)∣(u*d-v*c):=#[_,(JV h.1).symm];obtain⟨j,ej⟩:(a*d-b*c)∣(a*v-b*u):=#[_,(JV h.2).symm];refine#[i,j,?_,?_]
 .have:(a*d-b*c)*u=(a*d-b*c)*(i*a+j*c):=by
   have q1:(a*d-b*c)*u=a*(u*d-v*c)+c*(a*v-b*u):=Md
   rw[q1,ei,ej];grind
  exact Je hz this
 .have:(a*d-b*c)*v=(a*d-b*c)*(i*b+j*d):=by
   have q1:(a*d-b*c)*v=b*(u*d-v*c)+d*(a*v-b*u):=Md
   rw[q1,ei,ej];grind
  exact Je hz this
def Uni.trans{x0 x1 y0 y1:Int}(h:Uni a b c d p0 p1 q0 q1)(k:Uni p0 p1 q0 q1 x0 x1 y0 y1):Uni a b c d x0 x1 y0 y1:=by
 obtain⟨m,n,k1,l,hd,rfl,rfl,rfl,rfl⟩:=h;obtain⟨m',n',k',l',e_,rfl,rfl,rfl,rfl⟩:=k;have dt:(m'*m+n'*k1)*(k'*n+l'*l)-(m'*n+n'*l)*(k'*m+l'*k1)=(m'*l'-n'*k')*(m*l-n*k1):=Md
 refine#[m'*m+n'*k1,m'*n+n'*l,k'*m+l'*k1,k'*n+l'*l,?_,Md,Md,Md,Md];rw[dt];rcases hd with e|e<;>rcases e_ with e'|e'<;>rw[e,e']<;>decide
def fj:∀(n:Nat) (a b c d:Int),d.natAbs<=n->∃p0 p1 q0,Lev a b c d p0 p1 q0
 |n,a,b,c,d,hn=>by
  by_cases hd:d=0
  .subst hd;by_cases hb:0<=b
   .exact#[a,b,c,hb,Uni.refl a b c 0]
   .exact#[-a,-b,c,KK,(Uni.refl a b c 0).neg]
  .match n,hn with
   |0,hn=>exact absurd (KK:d=0) hd
   |n+1,hn=>
    have lt:=(fdm b d hd).1;obtain⟨p0,p1,q0,h0,hu⟩:=fj n c d (a-b.fdiv d*c) (b-b.fdiv d*d) KK;exact#[p0,p1,q0,h0,((Uni.refl a b c d).step (b.fdiv d)).trans hu]
def B5(hn:¬a*d=b*c)(g0:0<=g)(g1:g∣b)(g2:g∣d)(g3:∀e,e∣b->e∣d->e∣g):
  ∃w s,FamOf a b c d w g s:=by
 obtain⟨p0,p1,q0,hL⟩:=fj d.natAbs a b c d (GN _);have hF:=fZ hn hL;have hp:=hF.2.1;obtain⟨m,n,k,l,_,e1,e2,e3,e4⟩:=hL.2;obtain⟨m',n',k',l',_,f1,f2,f3,f4⟩:=hL.2.inv;have d1:p1∣g:=g3 p1 #[m',by rw[f2];grind] #[k',by rw[f4];grind];have d2:g∣p1:=by
  rw[e2];exact Jf (IG g1) (IG g2)
 have:p1=g:=JW KK g0 d1 d2;subst this;exact#[_,_,hF]
def FamOf.uniq_lean(f:FamOf a b c d w h s)(e1:x=i*a+j*c)(e2:h=i*b+j*d)(h0:0<=x)(h1:x<=s):x=s:=by
 obtain⟨hw,hh,hs,Ki,hu⟩:=f;obtain⟨m,n,k,l,_,f1,f2,f3,f4⟩:=hu.inv;have ex:x=(i*m+j*k)*w+(i*n+j*l)*s:=by rw[e1,f1,f3];grind
 have eh:h=(i*n+j*l)*h:=by
  have:i*b+j*d=(i*n+j*l)*h:=by rw[f2,f4];grind
  rw[<-this];exact e2
 have one:i*n+j*l=1:=by
  have:(i*n+j*l)*h=1*h:=by lia
  exact Ic KK this
 rw[one]at ex;generalize i*m+j*k=t at ex;have:t*w=x-s:=KK
 rcases(KK:t<=-1\/t=0\/1<=t)with z|z|z
 .have:=Hk z (show 0<=w by lia);lia
 .subst z;lia
 .have:=Hk z (show 0<=w by lia);lia
def notT{c:Prop}[Decidable c](h:(!decide c)=true):¬c:=by
 intro q;rw[decide_eq_true q]at h;cases h
def notF{c:Prop}[Decidable c](h:¬(!decide c)=true):c:=by
 rcases Classical.em c with q|q
 .exact q
 .rw[decide_eq_false q]at h;exact absurd rfl h
def Leaf.o0(l:Leaf):Int:=l.w0*l.a+l.w2*l.b
def Leaf.o1(l:Leaf):Int:=l.w1*l.a+l.w3*l.b
def Leaf.t0(l:Leaf):Int:=l.w0*l.c+l.w2*l.d
def Leaf.t1(l:Leaf):Int:=l.w1*l.c+l.w3*l.d
def du(h:w=1\/w=-1\/w=0)(ha:B12 a):(w*a).natAbs<=12:=by
 unfold B12 at ha;rcases h with e|e|e<;>rw[e]<;>lia
def mul12(ha:B12 a)(hb:B12 b):(a*b).natAbs<=144:=by
 unfold B12 at ha hb;rw[HQ];exact GW (IF (show a.natAbs<=12 by lia) (show b.natAbs<=12 by lia)) K3
def Leaf.sizes(g:l.Good)(h:l.Near n):l.o0.natAbs<=24/\l.o1.natAbs<=24/\l.t0.natAbs<=24/\l.t1.natAbs<=24/\¬l.o0*l.t1=l.o1*l.t0/\(l.o0*l.t1-l.o1*l.t0).natAbs<=288:=by
 obtain⟨h0,h1,h2,h3⟩:=h.unit;have a0:=du h0 g.a;have a1:=du h1 g.a;have b2:=du h2 g.b;have b3:=du h3 g.b;have c0:=du h0 g.c;have c1:=du h1 g.c;have d2:=du h2 g.d;have d3:=du h3 g.d;have dt:l.o0*l.t1-l.o1*l.t0=(l.w0*l.w3-l.w1*l.w2)*(l.a*l.d-l.b*l.c):=by unfold Leaf.o0 Leaf.o1 Leaf.t0 Leaf.t1;grind
 have dw:(l.w0*l.w3-l.w1*l.w2).natAbs=1:=by
  rcases h.u0 with⟨p,q,r,t⟩|⟨p,q,r,t⟩
  .rw[q,JX,Int.sub_zero,HQ,p,t]
  .rw[p,JX,Int.zero_sub,Int.natAbs_neg,HQ,q,r]
 have da:(l.o0*l.t1-l.o1*l.t0).natAbs=(l.a*l.d-l.b*l.c).natAbs:=by rw[dt,HQ,dw,Nat.one_mul]
 refine#[ab24 a0 b2,ab24 a1 b3,ab24 c0 d2,ab24 c1 d3,λz=>g.ne ?_,?_]
 .rw[z,Int.sub_self]at da;exact Int.sub_eq_zero.mp (JF.mp da.symm)
 .rw[da];have m1:=mul12 g.a g.d;have m2:=mul12 g.b g.c;generalize l.a*l.d=x at*;generalize l.b*l.c=y at*;clear da dw dt d3 d2 c1 c0 b3 b2 a1 a0 h3 h2 h1 h0 h g;lia
def B6:SpD:=λds R=>∃(l:Leaf) (n:Nat),ds=[l.D]/\l.Good/\l.Near n/\∀w h s:Int,FamOf l.o0 l.o1 l.t0 l.t1 w h s->w*h<=288->R (.tup [.int w,.int h,.int s])
def B7(h1:y%h=0/\(x-y/h*s)%w=0):∃i j,x=i*w+j*s/\y=j*h:=by
 refine#[(x-y/h*s)/w,y/h,?_,?_]
 .have:=Ih (x-y/h*s) w;rw[h1.2]at this;rw[Hd w]at this;lia
 .have:=Ih y h;rw[h1.1,Hd h]at this;lia
def fk(x y:Int):∃g u,Meas x y g u:=by
 obtain⟨p0,p1,q0,hL⟩:=fj y.natAbs 1 x 0 y (GN _);exact#[p1,p0,tW #[hL.1,hL.2]]
def Meas.gcd{G:Int}(h:Meas x y g u)(g0:0<=G)(g1:G∣x)(g2:G∣y)(g3:∀e,e∣x->e∣y->e∣G):G=g:=by
 obtain⟨h0,⟨i,ei⟩,⟨j,ej⟩,n,en⟩:=h;refine JW g0 h0 ?_ (g3 g #[i,by rw[ei,Hd]] #[j,by rw[ej,Hd]]);rw[en];exact Jf (IG g1) (IG g2)
structure Fm(w h s:Int):Prop where
 w0:0<w
 w1:w<=720
 h0:0<h
 h1:h<=720
 s0:0<=s
 sw:s<w
def B8(f:Fm w1 h1 s1)(k:Fm w2 h2 s2):∃g u w h s A,Meas w1 w2 g u/\w=w1*w2/g/\MetR w1 h1 s1 w2 h2 s2 w h s A:=by
 obtain⟨g,u,M1⟩:=fk w1 w2;obtain⟨k',u',M2⟩:=fk h1 h2;obtain⟨gg,u8,M3⟩:=fk g (h1*h2/k'/h2*s2-h1*h2/k'/h1*s1);exact#[g,u,_,_,_,_,M1,rfl,kX f.w0 k.w0 f.h0 k.h0 M1 M2 M3]
def MetR.high(M:MetR w1 h1 s1 w2 h2 s2 w h s A)(hh:0<h1)(hj:1<=j)(e1:∃i,x=i*w1+j*s1)(e2:∃i k,x=i*w2+k*s2/\j*h1=k*h2):h<=j*h1/\(j*h1=h->0<=x->x<w->x=s):=by
 obtain⟨i,e1⟩:=e1;obtain⟨i',k,e3,e4⟩:=e2;obtain⟨a,b,e5,e6⟩:=M.all x (j*h1) #[i,j,e1,rfl] #[i',k,e3,e4];have hp:0<j*h1:=G5 KK hh;have hb:1<=b:=by
  rcases(KK:b<=0\/1<=b)with z|z
  .have:=HS z (show 0<=h by have:=M.h0;lia);lia
  .exact z
 refine#[?_,λe x0 x1=>?_]
 .have:=Hk hb (show 0<=h by have:=M.h0;lia);lia
 .have ob:b=1:=by
   have:b*h=1*h:=by lia
   exact Ic (by have:=M.h0;lia) this
  rw[ob]at e5;have s0:=M.s0;have sw:=M.sw;have:a*w=x-s:=KK
  rcases(KK:a<=-1\/a=0\/1<=a)with z|z|z
  .have:=Hk z (show 0<=w by lia);lia
  .subst z;lia
  .have:=Hk z (show 0<=w by lia);lia
def B9:SpD:=λds R=>∃w1 h1 s1 w2 h2 s2:Int,ds=[.tup [.int w1,.int h1,.int s1],.tup [.int w2,.int h2,.int s2]]/\Fm w1 h1 s1/\Fm w2 h2 s2/\
 ∀w h s A,MetR w1 h1 s1 w2 h2 s2 w h s A->(w*h<=720->R (.tup [.int w,.int h,.int s]))/\(720<w*h->R .non)
def Ca{S:Int}(hw:0<w1)(hx:x<w1)(x0:0<=x)(hS:0<=S)(e:S=i*w1+s)(e2:∃i',x=i'*w1+s):∃k,S=x+k*w1/\0<=k:=by
 obtain⟨i',e2⟩:=e2;refine#[i-i',Md,?_];rcases(KK:i-i'<=-1\/0<=i-i')with z|z
 .have:=Hk z (show 0<=w1 by lia);have:(i-i')*w1=S-x:=by grind
  lia
 .exact z
def InF(w h s x y:Int):Prop:=∃i j,x=i*w+j*s/\y=j*h
def Leaf.Lat(l:Leaf)(x y:Int):Prop:=∃i j,x=i*l.o0+j*l.t0/\y=i*l.o1+j*l.t1
def FamOf.lat(f:FamOf a b c d w h s)(x y:Int):InF w h s x y↔∃i j,x=i*a+j*c/\y=i*b+j*d:=by
 obtain⟨_,_,_,_,hu⟩:=f;obtain⟨m,n,k,l,_,e1,e2,e3,e4⟩:=id hu;obtain⟨m',n',k',l',_,f1,f2,f3,f4⟩:=hu.inv;constructor
 .rintro⟨i,j,rfl,rfl⟩;refine#[i*m+j*k,i*n+j*l,by rw[e1,e3];grind,?_];have z:i*0+j*h=(i*m+j*k)*b+(i*n+j*l)*d:=by rw[e2,e4];grind
  lia
 .rintro⟨i,j,rfl,rfl⟩;refine#[i*m'+j*k',i*n'+j*l',by rw[f1,f3];grind,by rw[f2,f4];grind]
def MetR.lat(M:MetR w1 h1 s1 w2 h2 s2 w h s A)(x y:Int):InF w h s x y↔InF w1 h1 s1 x y/\InF w2 h2 s2 x y:=by
 constructor
 .rintro⟨i,j,rfl,rfl⟩;obtain⟨a1,e1⟩:=M.in1;obtain⟨a2,e2⟩:=M.in2;obtain⟨b1,c1,e3,e4⟩:=M.up1;obtain⟨b2,c2,e5,e6⟩:=M.up2;refine#[#[i*a1+j*b1,j*c1,?_,?_],#[i*a2+j*b2,j*c2,?_,?_]]
  .rw[e1,e3];grind
  .rw[e4];grind
  .rw[e2,e5];grind
  .rw[e6];grind
 .rintro⟨h1,h2⟩;exact M.all x y h1 h2
variable{w' h' s':Int}
def InF.le(hw:0<w)(hh:0<h)(OG:0<w')(OH:0<h')(sub:∀x y,InF w' h' s' x y->InF w h s x y):w*h<=w'*h'/\w<=w'/\h<=h':=by
 obtain⟨i,j,e1,e2⟩:=sub w' 0 #[1,0,KK,KK];have j0:j=0:=by
  rcases Jh.mp e2.symm with z|z
  .exact z
  .lia
 subst j0;have i1:1<=i:=by
  rcases(KK:i<=0\/1<=i)with z|z
  .have:=HS z (show 0<=w by lia);lia
  .exact z
 obtain⟨i',j',e3,e4⟩:=sub s' h' #[0,1,KK,KK];have j1:1<=j':=by
  rcases(KK:j'<=0\/1<=j')with z|z
  .have:=HS z (show 0<=h by lia);lia
  .exact z
 have a1:=Hk i1 (show 0<=w by lia);have a2:=Hk j1 (show 0<=h by lia);have b1:w<=w':=KK
 have b2:h<=h':=KK
 exact#[Int.mul_le_mul b1 b2 KK KK,b1,b2]
def InF.uniq(hw:0<w)(hh:0<h)(hs:0<=s)(Ki:s<w)(OG:0<w')(OH:0<h')(KJ:0<=s')(RW:s'<w')(e:∀x y,InF w h s x y↔InF w' h' s' x y):w=w'/\h=h'/\s=s':=by
 obtain⟨_,a1,a2⟩:=InF.le hw hh OG OH (λx y q=>(e x y).mpr q);obtain⟨_,b1,b2⟩:=InF.le OG OH hw hh (λx y q=>(e x y).mp q);have ew:w=w':=KK
 have eh:h=h':=KK
 subst ew eh;refine#[rfl,rfl,?_];obtain⟨i,j,e1,e2⟩:=(e s h).mp #[0,1,KK,KK];have j1:j=1:=by
  have:j*h=1*h:=by lia
  exact Ic KK this
 subst j1;have:i*w=s-s':=KK
 rcases(KK:i<=-1\/i=0\/1<=i)with z|z|z
 .have:=Hk z (show 0<=w by lia);lia
 .subst z;lia
 .have:=Hk z (show 0<=w by lia);lia
structure Fam0(w h s:Int):Prop where
 w0:0<w
 h0:0<h
 s0:0<=s
 sw:s<w
def uq(f:Fam0 w1 h1 s1)(k:Fam0 w2 h2 s2):∃w h s,Fam0 w h s/\∀x y,InF w h s x y↔InF w1 h1 s1 x y/\InF w2 h2 s2 x y:=by
 obtain⟨g,u,M1⟩:=fk w1 w2;obtain⟨k',u',M2⟩:=fk h1 h2;obtain⟨gg,u8,M3⟩:=fk g (h1*h2/k'/h2*s2-h1*h2/k'/h1*s1);have M:=kX f.w0 k.w0 f.h0 k.h0 M1 M2 M3;exact#[_,_,_,#[M.w0,M.h0,M.s0,M.sw],M.lat]
def Leaf.fam_ex(g:l.Good)(h:l.Near n):∃w k s,Fam0 w k s/\∀x y,InF w k s x y↔l.Lat x y:=by
 obtain⟨_,_,_,_,ne,_⟩:=Leaf.sizes g h;obtain⟨p0,p1,q0,hL⟩:=fj l.t1.natAbs l.o0 l.o1 l.t0 l.t1 (GN _);have f:=fZ ne hL;exact#[_,_,_,#[f.1,f.2.1,f.2.2.1,f.2.2.2.1],f.lat]
def bT(ls:List Leaf)(x y:Int):Prop:=∀l∈ls,l.Lat x y
def ut{n:Nat}:∀(ls:List Leaf) (w h s:Int),Fam0 w h s->(∀l∈ls,l.Good/\l.Near n)->∃w' h' s',Fam0 w' h' s'/\∀x y,InF w' h' s' x y↔InF w h s x y/\bT ls x y
 |[],w,h,s,f,_=>#[w,h,s,f,λx y=>#[λq=>#[q,λl z=>by cases z],λq=>q.1]]
 |l::r,w,h,s,f,g=>by
  obtain⟨w1,h1,s1,f1,e1⟩:=Leaf.fam_ex (g l GS).1 (g l GS).2;obtain⟨w2,h2,s2,f2,e2⟩:=uq f f1;obtain⟨w3,h3,s3,f3,e3⟩:=ut r w2 h2 s2 f2 λl' q=>g l' (GQ _ q);refine#[w3,h3,s3,f3,λx y=>?_];rw[e3,e2,e1];constructor
  .rintro⟨⟨a,b⟩,c⟩;exact#[a,λl' q=>(GP.mp q).elim (λz=>z ▸ b) (c l')]
  .rintro⟨a,b⟩;exact#[#[a,b l GS],λl' q=>b l' (GQ _ q)]
def cut1(d:D)(ds:List D):cutD (d::ds) (be 1) t9=ds:=by
 unfold cutD;have e1:HT.sIx (d::ds).length 0 (be 1)=1:=by simp[HT.sIx]
 have e2:HT.sIx (d::ds).length (d::ds).length t9=(d::ds).length:=by simp[HT.sIx]
 rw[e1,e2,List.drop_one,List.tail_cons,GU,JY,IH]
def lr:SpD:=λds R=>∃(ls:List Leaf) (n:Nat),ds=[.lst (ls.map Leaf.D)]/\ls≠[]/\(∀l∈ls,l.Good/\l.Near n)/\
 ∀w h s:Int,Fam0 w h s->(∀x y,InF w h s x y↔bT ls x y)->(w*h<=720->R (.tup [.int w,.int h,.int s]))/\(720<w*h->R .non)
def Pat.Lat:Pat->Int->Int->Prop
 |.mot _ a b c d,x,y=>∃i j,x=i*a+j*c/\y=i*b+j*d
 |.over p q,x,y=>p.Lat x y/\q.Lat x y
 |.sh _ _ p,x,y=>p.Lat x y
 |.mir p,x,y=>p.Lat (-x) y
 |.tur p,x,y=>p.Lat y (-x)
 |.hue _ _ p,x,y=>p.Lat x y
def Leaf.by_lat(l:Leaf)(b0 b1 b2 b3 b4 b5 x y:Int):(l.by b0 b1 b2 b3 b4 b5).Lat x y↔∃u v,l.Lat u v/\x=b0*u+b2*v/\y=b1*u+b3*v:=by
 have e0:(l.by b0 b1 b2 b3 b4 b5).o0=b0*l.o0+b2*l.o1:=by simp only[Leaf.o0,Leaf.o1,Leaf.by];grind
 have e1:(l.by b0 b1 b2 b3 b4 b5).o1=b1*l.o0+b3*l.o1:=by simp only[Leaf.o0,Leaf.o1,Leaf.by];grind
 have e2:(l.by b0 b1 b2 b3 b4 b5).t0=b0*l.t0+b2*l.t1:=by simp only[Leaf.t0,Leaf.t1,Leaf.by];grind
 have e3:(l.by b0 b1 b2 b3 b4 b5).t1=b1*l.t0+b3*l.t1:=by simp only[Leaf.t0,Leaf.t1,Leaf.by];grind
 unfold Leaf.Lat;rw[e0,e1,e2,e3];generalize l.o0=o0;generalize l.o1=o1;generalize l.t0=t0;generalize l.t1=t1;constructor
 .rintro⟨i,j,rfl,rfl⟩;exact#[_,_,#[i,j,rfl,rfl],Md,Md]
 .rintro⟨_,_,⟨i,j,rfl,rfl⟩,rfl,rfl⟩;exact#[i,j,Md,Md]
def Leaf.dye_lat(l:Leaf)(f g x y:Int):(l.dye f g).Lat x y↔l.Lat x y:=Iff.rfl
def Cb(a b:List Leaf)(x y:Int):bT (a++b) x y↔bT a x y/\bT b x y:=by
 constructor
 .intro h;exact#[λl q=>h l (HV _ q),λl q=>h l (Ha _ q)]
 .rintro⟨h1,h2⟩ l q;rcases Hi.mp q with q|q
  .exact h1 l q
  .exact h2 l q
def latAll_map{f:Leaf->Leaf}(hf:∀l:Leaf,(f l).Lat x y↔l.Lat u v)(ls:List Leaf):bT (ls.map f) x y↔bT ls u v:=by
 constructor
 .intro h l q;exact(hf l).mp (h _ (Hc.mpr #[l,q,rfl]))
 .intro h l q;obtain⟨l',q',rfl⟩:=Hc.mp q;exact(hf l').mpr (h l' q')
def uu(l:Leaf)(e f x y:Int):(l.by 1 0 0 1 e f).Lat x y↔l.Lat x y:=by
 rw[Leaf.by_lat];constructor
 .rintro⟨u,v,h,e1,e2⟩;have e1:x=u:=by lia
  have e2:y=v:=KK
  rw[e1,e2];exact h
 .intro h;exact#[x,y,h,KK,KK]
def Pat.lat_leaves:∀(p:Pat) (x y:Int),bT p.leaves x y↔p.Lat x y
 | .mot L a b c d,x,y=>by
  have e0:(bu L a b c d).o0=a:=by simp[Leaf.o0,bu]
  have e1:(bu L a b c d).o1=b:=by simp[Leaf.o1,bu]
  have e2:(bu L a b c d).t0=c:=by simp[Leaf.t0,bu]
  have e3:(bu L a b c d).t1=d:=by simp[Leaf.t1,bu]
  have e:(bu L a b c d).Lat x y↔(Pat.mot L a b c d).Lat x y:=by
   unfold Leaf.Lat;rw[e0,e1,e2,e3];exact Iff.rfl
  rw[<-e];constructor
  .intro h;exact h _ GS
  .intro h l q;rw[GM.mp q];exact h
 |.over p q,x,y=>by rw[Pat.leaves,Cb,Pat.lat_leaves p,Pat.lat_leaves q,Pat.Lat]
 |.sh a b p,x,y=>by rw[Pat.leaves,latAll_map (λl=>uu l _ _ x y),Pat.lat_leaves p,Pat.Lat]
 | .mir p,x,y=>by
  have e:∀l:Leaf,(l.by (-1) 0 0 1 0 0).Lat x y↔l.Lat (-x) y:=λl=>by
   rw[Leaf.by_lat];constructor
   .rintro⟨u,v,h,e1,e2⟩;have e1:-x=u:=by lia
    have e2:y=v:=KK
    rw[e1,e2];exact h
   .intro h;exact#[-x,y,h,KK,KK]
  rw[Pat.leaves,latAll_map e,Pat.lat_leaves p,Pat.Lat]
 | .tur p,x,y=>by
  have e:∀l:Leaf,(l.by 0 1 (-1) 0 0 0).Lat x y↔l.Lat y (-x):=λl=>by
   rw[Leaf.by_lat];constructor
   .rintro⟨u,v,h,e1,e2⟩;have e1:-x=v:=by lia
    have e2:y=u:=KK
    rw[e1,e2];exact h
   .intro h;exact#[y,-x,h,KK,KK]
  rw[Pat.leaves,latAll_map e,Pat.lat_leaves p,Pat.Lat]
 |.hue f g p,x,y=>by
  rw[Pat.leaves,latAll_map (λl=>(Leaf.dye_lat _ f g x y).trans (uu l _ _ x y)),Pat.lat_leaves p,Pat.Lat]
structure Pat.Fam(p:Pat)(w h s:Int):Prop where
 f:Fam0 w h s
 lat:∀x y,InF w h s x y↔p.Lat x y
def Pat.Fam.uniq(a:p.Fam w h s)(b:p.Fam w' h' s'):w=w'/\h=h'/\s=s':=
 InF.uniq a.f.w0 a.f.h0 a.f.s0 a.f.sw b.f.w0 b.f.h0 b.f.s0 b.f.sw λx y=>(a.lat x y).trans (b.lat x y).symm
def Pat.Fam.mot(k:FamOf a b c d w h s):(Pat.mot L a b c d).Fam w h s:=#[#[k.1,k.2.1,k.2.2.1,k.2.2.2.1],k.lat]
def Pat.Fam.sh(a b:Int)(k:p.Fam w h s):(Pat.sh a b p).Fam w h s:=#[k.f,k.lat]
def Pat.Fam.hue(a b:Int)(k:p.Fam w h s):(Pat.hue a b p).Fam w h s:=#[k.f,k.lat]
def Pat.Fam.mir(k:p.Fam w h s):(Pat.mir p).Fam w h (-s%w):=by
 refine#[#[k.f.w0,k.f.h0,cQ k.f.w0,cR k.f.w0],λx y=>?_];show _↔p.Lat (-x) y;rw[<-k.lat];have e:=HR (-s) w;generalize -s%w=r at e;generalize -s/w=t at e;constructor
 .rintro⟨i,j,rfl,rfl⟩;exact#[j*t-i,j,by rw[e];grind,rfl]
 .rintro⟨i,j,ex,rfl⟩;exact#[j*t-i,j,by rw[e];grind,rfl]
def Pat.Fam.tur(k:p.Fam w h s)(f:FamOf 0 w (-h) s w' h' s'):(Pat.tur p).Fam w' h' s':=by
 refine#[#[f.1,f.2.1,f.2.2.1,f.2.2.2.1],λx y=>?_];show _↔p.Lat y (-x);rw[<-k.lat,f.lat];constructor
 .rintro⟨i,j,rfl,rfl⟩;exact#[i,j,Md,Md]
 .rintro⟨i,j,ex,ey⟩;exact#[i,j,Md,Md]
def Pat.Fam.over{q:Pat}(k1:p.Fam w1 h1 s1)(k2:q.Fam w2 h2 s2)(M:MetR w1 h1 s1 w2 h2 s2 w h s A):(Pat.over p q).Fam w h s:=by
 refine#[#[M.w0,M.h0,M.s0,M.sw],λx y=>?_];rw[M.lat,k1.lat,k2.lat];exact Iff.rfl
def lu(hw:0<w)(hh:0<h):∃w' h' s',FamOf 0 w (-h) s w' h' s'/\w'*h'=w*h:=by
 have hp:0<w*h:=G5 hw hh;have hn:¬0*s=w* -h:=by rw[II];lia
 obtain⟨p0,p1,q0,hL⟩:=fj s.natAbs 0 w (-h) s (GN _);have f:=fZ hn hL;refine#[_,_,_,f,?_];have Ly:=G5 f.1 f.2.1;have c:=f.cells;rw[II]at c;lia
def uw(hn:¬a*d=b*c):∃w h s,FamOf a b c d w h s/\(Pat.mot L a b c d).Fam w h s:=by
 obtain⟨p0,p1,q0,hL⟩:=fj d.natAbs a b c d (GN _);have f:=fZ hn hL;exact#[_,_,_,f,.mot f]
def Pat.fam_ex:∀{p:Pat},p.Wf->∃w h s,p.Fam w h s
 |.mot L a b c d,h=>by
  obtain⟨w,k,s,_,f⟩:=uw (L:=L) h.2.2.2.2.2;exact#[w,k,s,f]
 |.over p q,h=>by
  obtain⟨w1,h1,s1,f1⟩:=Pat.fam_ex h.1;obtain⟨w2,h2,s2,f2⟩:=Pat.fam_ex h.2;obtain⟨w,k,s,f,e⟩:=uq f1.f f2.f;refine#[w,k,s,f,λx y=>?_];rw[e,f1.lat,f2.lat];exact Iff.rfl
 |.sh a b p,h=>by
  obtain⟨w,k,s,f⟩:=Pat.fam_ex h.2.2;exact#[w,k,s,f.sh a b]
 |.mir p,h=>by
  obtain⟨w,k,s,f⟩:=Pat.fam_ex (p:=p) h;exact#[w,k,_,f.mir]
 |.tur p,h=>by
  obtain⟨w,k,s,f⟩:=Pat.fam_ex (p:=p) h;obtain⟨w',k',s',f',_⟩:=lu (s:=s) f.f.w0 f.f.h0;exact#[w',k',s',f.tur f']
 |.hue a b p,h=>by
  obtain⟨w,k,s,f⟩:=Pat.fam_ex h.2.2;exact#[w,k,s,f.hue a b]
def Pat.Fits(p:Pat):Prop:=∃w h s,p.Fam w h s/\w*h<=720
def Pat.fits_mot(ha:B12 a)(hb:B12 b)(hc:B12 c)(hd:B12 d)(hn:¬a*d=b*c):(Pat.mot L a b c d).Fits:=by
 obtain⟨w,h,s,k,f⟩:=uw (L:=L) hn;refine#[w,h,s,f,?_];have kc:=k.cells;unfold B12 at*;have m1:=bQ (a:=a) (d:=d) (A:=12) (B:=12) KK KK;have m2:=bQ (a:=b) (d:=c) (A:=12) (B:=12) KK KK;lia
def Pat.Fits.sh(a b:Int)(k:p.Fits):(Pat.sh a b p).Fits:=by
 obtain⟨w,h,s,f,q⟩:=k;exact#[w,h,s,f.sh a b,q]
def Pat.Fits.hue(a b:Int)(k:p.Fits):(Pat.hue a b p).Fits:=by
 obtain⟨w,h,s,f,q⟩:=k;exact#[w,h,s,f.hue a b,q]
def Pat.Fits.mir(k:p.Fits):(Pat.mir p).Fits:=by
 obtain⟨w,h,s,f,q⟩:=k;exact#[w,h,_,f.mir,q]
def Pat.Fits.tur(k:p.Fits):(Pat.tur p).Fits:=by
 obtain⟨w,h,s,f,q⟩:=k;obtain⟨w',k',s',f',e⟩:=lu (s:=s) f.f.w0 f.f.h0;exact#[w',k',s',f.tur f',KK]
def Cd(hL:Rows L)(ha:B12 a)(hb:B12 b)(hc:B12 c)(hd:B12 d):(dm L a b c d).length<=100:=by
 have la:=bJ ha;have lb:=bJ hb;have lc:=bJ hc;have ld:=bJ hd;have l1:(";":F_).length=1:=rfl;have l2:(",":F_).length=1:=rfl;have l3:("[":F_).length=1:=rfl;have l4:("]":F_).length=1:=rfl;have ls:=uf hL;have lj:=StrLaws.join_length_le "/" L;have lg:(Txt.join "/" L).length<=72:=by
  have e:Txt.join "/" L=Str.join "/" L:=StrLaws.glued_eq_join _ _;rw[e];exact GW lj ls
 unfold dm
 repeat rw[aG]
 lia
def Pat.text_len:∀{p:Pat},p.Wf->p.text.length+10<=110*2^p.depth
 |.mot L a b c d,h=>by
  have:=Cd h.1 h.2.1 h.2.2.1 h.2.2.2.1 h.2.2.2.2.1;show(dm L a b c d).length+10<=110*2^0;lia
 |.over p q,h=>by
  have h1:=Pat.text_len h.1;have h2:=Pat.text_len h.2;have m1:2^p.depth<=2^(max p.depth q.depth):=Ig K3 (JS _ _);have m2:2^q.depth<=2^(max p.depth q.depth):=Ig K3 (JT _ _);have l1:("(":F_).length=1:=rfl;have l2:("|":F_).length=1:=rfl;have l3:(")":F_).length=1:=rfl;rw[Pat.text,Pat.depth,JU]
  repeat rw[aG]
  lia
 |.sh a b p,h=>by
  have h1:=Pat.text_len h.2.2;have la:=bJ h.1;have lb:=bJ h.2.1;have l1:("s":F_).length=1:=rfl;have l2:(",":F_).length=1:=rfl;have l3:(":":F_).length=1:=rfl;have:0<2^p.depth:=IJ K3;rw[Pat.text,Pat.depth,HG]
  repeat rw[aG]
  lia
 |.mir p,h=>by
  have h1:=Pat.text_len (p:=p) h;have l1:("m":F_).length=1:=rfl;have:0<2^p.depth:=IJ K3;rw[Pat.text,Pat.depth,HG,aG];lia
 |.tur p,h=>by
  have h1:=Pat.text_len (p:=p) h;have l1:("t":F_).length=1:=rfl;have:0<2^p.depth:=IJ K3;rw[Pat.text,Pat.depth,HG,aG];lia
 |.hue f g p,h=>by
  have h1:=Pat.text_len h.2.2;have la:=fg h.1;have lb:=fg h.2.1;have l1:("h":F_).length=1:=rfl;have:0<2^p.depth:=IJ K3;rw[Pat.text,Pat.depth,HG]
  repeat rw[aG]
  lia
def Pat.leaves_pos:∀p:Pat,0<p.leaves.length
 |.mot ..=>Nat.zero_lt_one
 |.over p q=>by rw[Pat.leaves,G2];have:=p.leaves_pos;lia
 |.sh _ _ p=>by rw[Pat.leaves,GT];exact p.leaves_pos
 |.mir p=>by rw[Pat.leaves,GT];exact p.leaves_pos
 |.tur p=>by rw[Pat.leaves,GT];exact p.leaves_pos
 |.hue _ _ p=>by rw[Pat.leaves,GT];exact p.leaves_pos
def Pat.text_short(h:p.Wf)(hd:p.depth<=5):p.text.length<=3510:=by
 have h1:=Pat.text_len h;have h2:2^p.depth<=2^5:=Ig K3 hd;lia
structure Pat.Ok(p:Pat):Prop where
 wf:p.Wf
 deep:p.depth<=5
 fits:p.Fits
def Wraps.of{H:Prop}(h:p.Ok)(hR:∀q:Pat,q.Ok->R q.D):Wraps p H R:=by
 refine#[λ_=>hR p h,λhd=>#[hR _ #[h.wf,?_,h.fits.mir],hR _ #[h.wf,?_,h.fits.tur],λa b ha hb=>hR _ #[#[ha,hb,h.wf],?_,h.fits.sh a b],λ_ f g hf hg=>hR _ #[#[hf,hg,h.wf],?_,h.fits.hue f g]]]<;>(simp only[Pat.depth];lia)
def ux:SpD:=λds R=>∃p q:Pat,ds=[p.D,q.D]/\p.Wf/\q.Wf/\p.depth<=5/\q.depth<=5/\R p.D/\(p.depth<5->q.depth<5->(Pat.over p q).Fits->R (Pat.over p q).D)
def Ce:SpD:=λds R=>∃(ns:List Int) (k:Int),ds=[.rol (ns.map D.int),.int k]/\0<=k/\∀p:Pat,p.Ok->R p.D
end My
end
section
open PySem PySem.Spec PyProof.Rows L2
namespace My
def Cf:TMS:=λ_ _ _=>False
def ir{X:Cx}[Jm]{st:SL}:MSt X st Cf:=⟨ps_never.anti λE s H q=>by
 obtain⟨F0,F,z,M,k,rs,ED,h,e⟩:=q;exact h.elim⟩
end My
end
section
namespace My
open PySem PySem.Spec PyProof.Rows L2
abbrev isSg(c:Nat):Bool:=c==46||(49<=c&&c<=54)
def numL(a:Int):List Nat:=cs (toString a:String)
variable{a:Int}
def uy(h:B12 a){P:Int->Prop}(hP:∀k:Fin 25,P (((k.val:Nat):Int)-12)):P a:=by
 unfold B12 at h;have:=hP #[(a+12).toNat,KK];have e:(((a+12).toNat:Nat):Int)-12=a:=KK
 rw[e]at this;exact this
def isNumL(l:List Nat):Prop:=(∃c,(48<=c/\c<=57)/\l=[c])\/(∃c,(48<=c/\c<=50)/\l=[49,c])\/(∃c,(49<=c/\c<=57)/\l=[45,c])\/∃c,(48<=c/\c<=50)/\l=[45,49,c]
def numL_is(h:B12 a):isNumL (numL a):=by
 have key:∀k:Fin 25,(numL (((k.val:Nat):Int)-12))∈([[45,49,50],[45,49,49],[45,49,48],[45,57],[45,56],[45,55],[45,54],[45,53],[45,52],[45,51],[45,50],[45,49],[48],[49],[50],[51],[52],[53],[54],[55],[56],[57],[49,48],[49,49],[49,50]]:List (List Nat)):=K7
 have h1:=uy (P:=λa=>numL a∈([[45,49,50],[45,49,49],[45,49,48],[45,57],[45,56],[45,55],[45,54],[45,53],[45,52],[45,51],[45,50],[45,49],[48],[49],[50],[51],[52],[53],[54],[55],[56],[57],[49,48],[49,49],[49,50]]:List (List Nat))) h key;revert h1;generalize numL a=l;intro h1;unfold isNumL;simp only[GP,Ii,or_false]at h1;rcases h1 with e|e|e|e|e|e|e|e|e|e|e|e|e|e|e|e|e|e|e|e|e|e|e|e|e<;>subst e
 all_goals first
  |exact .inl ⟨_,K3,rfl⟩
  |exact .inr (.inl ⟨_,K3,rfl⟩)
  |exact .inr (.inr (.inl ⟨_,K3,rfl⟩))
  |exact .inr (.inr (.inr ⟨_,K3,rfl⟩))
def endS(c:Nat):Prop:=c=44\/c=59\/c=58\/c=93
def rowsL:List (List Nat)->List Nat
 |[]=>[]
 |[x]=>x
 |x::y::r=>x++47::rowsL (y::r)
variable{c:Nat}
def Cg(h:aZ c):isSg c=true:=by
 unfold aZ at h;unfold isSg;rcases h with h|h
 .subst h;rfl
 .have:(decide (49<=c)&&decide (c<=54))=true:=by simp[h]
  rw[this,ID]
def motL(L:List (List Nat))(a b c d:Int):List Nat:=91::(rowsL L++59::(numL a++44::(numL b++59::(numL c++44::(numL d++[93])))))
def Pat.tl:Pat->List Nat
 |.mot L a b c d=>motL (L.map cs) a b c d
 |.over p q=>40::(p.tl++124::(q.tl++[41]))
 |.sh a b p=>115::(numL a++44::(numL b++58::p.tl))
 |.mir p=>109::p.tl
 |.tur p=>116::p.tl
 |.hue f g p=>104::(numL f++(numL g++p.tl))
def uz:∀L:List F_,cs (Str.join "/" L)=rowsL (L.map cs)
 |[]=>rfl
 |[x]=>rfl
 |x::y::L=>by
  show cs (x++"/"++Str.join "/" (y::L))=cs x++47::rowsL ((y::L).map cs);rw[bF,bF,uz (y::L),HB];rfl
def cr:∀p:Pat,cs p.text=p.tl
 |.mot L a b c d=>by
  show cs (dm L a b c d)=motL (L.map cs) a b c d;unfold dm motL;have e:Txt.join "/" L=Str.join "/" L:=StrLaws.glued_eq_join _ _;rw[e]
  repeat rw[bF]
  rw[uz];simp only[HB];rfl
 |.over p q=>by
  rw[Pat.text,Pat.tl]
  repeat rw[bF]
  rw[cr p,cr q];simp only[HB];rfl
 |.sh a b p=>by
  rw[Pat.text,Pat.tl]
  repeat rw[bF]
  rw[cr p];simp only[HB];rfl
 |.mir p=>by
  rw[Pat.text,Pat.tl,bF,cr p];rfl
 |.tur p=>by
  rw[Pat.text,Pat.tl,bF,cr p];rfl
 |.hue f g p=>by
  rw[Pat.text,Pat.tl]
  repeat rw[bF]
  rw[cr p];simp only[HB];rfl
def hueL{f:Int}(h:1<=f/\f<=6):numL f=[(48+f).toNat]:=by
 have key:∀k:Fin 6,numL (((k.val:Nat):Int)+1)=[49+k.val]:=K7
 have:=key #[(f-1).toNat,KK];have e:(((f-1).toNat:Nat):Int)+1=f:=KK
 rw[e]at this;rw[this];congr 1;show 49+(f-1).toNat=(48+f).toNat;lia
def rowsT(L:List (List Nat)):List Nat:=L.flatMap λy=>47::y
def va:∀(x:List Nat) (L:List (List Nat)),rowsL (x::L)=x++rowsT L
 |x,[]=>by simp[rowsL,rowsT]
 |x,y::L=>by
  rw[rowsL,va y L];simp[rowsT]
def gf{x y:F_}(h:cs x=cs y):x=y:=by
 obtain⟨a⟩:=x;obtain⟨b⟩:=y;have:a=b:=JZ.mp h;rw[this]
variable{x:Int}
def numS(h:B12 x):numL x=[48]\/∃pre c y,(pre=[]\/pre=[45])/\(49<=c/\c<=57)/\numL x=pre++c::y/\(y=[]\/(c=49/\∃d,(48<=d/\d<=50)/\y=[d])):=by
 rcases numL_is h with⟨c,hc,e⟩|⟨c,hc,e⟩|⟨c,hc,e⟩|⟨c,hc,e⟩
 .by_cases z:c=48
  .exact .inl (by rw[e,z])
  .exact .inr #[[],c,[],.inl rfl,KK,e,.inl rfl]
 .exact .inr #[[],49,[c],.inl rfl,K3,e,.inr #[rfl,c,hc,rfl]]
 .exact .inr #[[45],c,[],.inr rfl,hc,e,.inl rfl]
 .exact .inr #[[45],49,[c],.inr rfl,K3,e,.inr #[rfl,c,hc,rfl]]
variable{A B:Prop}
def ifT{c:Prop}[Decidable c](h:c)(a:A):if c then A else B:=by rw[if_pos h];exact a
def ifdT{p:Prop}[Decidable p](h:p)(a:A):if decide p=true then A else B:=by rw[if_pos (decide_eq_true h)];exact a
def ifdF{p:Prop}[Decidable p](h:¬p)(b:B):if decide p=true then A else B:=by rw[if_neg (by simpa using h)];exact b
def rdF(t:F_)(k:Nat):List (F_×D):=[("text",.str t),("place",.int k)]
def RdM(a:KF)(t:F_)(k:Nat):MS:=[(a,.ins "Reading" (rdF t k))]
variable{o:MO}
def dM{a:KF}:mget [(a,o)] a=be o:=by unfold mget;rw[if_pos rfl]
def iu{a:KF}{o':MO}:mput [(a,o)] a o'=[(a,o')]:=by unfold mput;rw[if_pos rfl]
variable{t:F_}{k:Nat}
def aW{a:KF}:mget (RdM a t k) a=be (.ins "Reading" (rdF t k)):=dM
def lv:(rdF t k).lookup ("text":F_)=be (.str t):=rfl
def fo:(rdF t k).lookup ("place":F_)=be (.int k):=by
 unfold rdF;rw[G3,show(("place":F_)==("text":F_))=false by decide+kernel];rfl
def Ch:putD ("place":F_) (.int ((k:Int)+1)) (rdF t k)=rdF t (k+1):=by
 unfold rdF putD;rw[if_neg K7];unfold putD;rw[if_pos rfl];rfl
def dv:(rdF t k).lookup ("may_take":F_)=none:=by
 unfold rdF;rw[G3,show(("may_take":F_)==("text":F_))=false by decide+kernel,G3,show(("may_take":F_)==("place":F_))=false by decide+kernel];rfl
def cu:(rdF t k).lookup ("take":F_)=none:=by
 unfold rdF;rw[G3,show(("take":F_)==("text":F_))=false by decide+kernel,G3,show(("take":F_)==("place":F_))=false by decide+kernel];rfl
structure At(t:Str)(k:Nat)(l:List Nat):Prop where
 eq:(cs t).drop k=l
 le:k<=t.length
 sz:t.length<=100000
def At.nil(h:At t k []):k=t.length:=by
 have h1:=congrArg Il h.eq;rw[HL,bj]at h1;have:=h.le;simp at h1;lia
variable{l:List Nat}
def At.lt(h:At t k (c::l)):k<t.length:=by
 have h1:=congrArg Il h.eq;rw[HL,bj]at h1;simp at h1;lia
def At.get(h:At t k (c::l)):(cs t)[k]?=be c:=by
 have h1:=congrArg (·[0]?) h.eq;simpa using h1
def At.next(h:At t k (c::l)):At t (k+1) l:=by
 refine#[?_,h.lt,h.sz];have h1:=congrArg (HN 1) h.eq;rw[List.drop_drop]at h1;simpa using h1
def At.app{t:F_}:∀{x l:List Nat} {k:Nat},At t k (x++l)->At t (k+x.length) l
 |[],_,_,h=>h
 |c::x,l,k,h=>by
  have h1:At t (k+1+x.length) l:=At.app (At.next h);have e:k+1+x.length=k+(c::x).length:=by rw[GU];lia
  rw[e]at h1;exact h1
variable{al:F_}
def vb:(!(!(Builtin.Str.occurrences al #[[c].toArray] 0 al.length 1).isEmpty))=!decide (c∈cs al):=by
 rw[StrLaws.found_one]
def mayS(al:F_):List Nat->F_|c::_=>if c∈cs al then#[[c].toArray]else ""|[]=>""
def mayN(al:F_):List Nat->Nat|c::_=>if c∈cs al then 1 else 0|[]=>0
def fq(h:c∈cs al):mayS al (c::l)=#[[c].toArray]:=if_pos h
def fu(h:c∈cs al):mayN al (c::l)=1:=if_pos h
def dN(h:c∉cs al):mayS al (c::l)="":=if_neg h
def dO(h:c∉cs al):mayN al (c::l)=0:=if_neg h
def Ci:SiD:=λds R=>∃t:F_,ds=[.str t]/\R (rdF t 0)
def Cj:SpM:=λds M R RX=>∃(a:KF) (t:F_) (k:Nat) (l:List Nat) (al:F_),ds=[.ptr a,.str al]/\M=RdM a t k/\At t k l/\R (.str (mayS al l)) (RdM a t (k+mayN al l))
def Ck:SpM:=λds M R _=>∃(a:KF) (t:F_) (k c:Nat) (l:List Nat) (al:F_),ds=[.ptr a,.str al]/\M=RdM a t k/\At t k (c::l)/\c∈cs al/\R (.str #[[c].toArray]) (RdM a t (k+1))
def Cl(h:B12 x):PySem.intText? #[(numL x).toArray]=be x:=
 uy (P:=λx=>PySem.intText? #[(numL x).toArray]=be x) h K7
def gj(x y:List Nat):((#[x.toArray]:F_)++#[y.toArray]:F_)=#[(x++y).toArray]:=by
 apply gf;rw[bF]
def digits19:c∈cs "123456789"↔49<=c/\c<=57:=by
 have e:cs "123456789"=[49,50,51,52,53,54,55,56,57]:=rfl;rw[e];simp;lia
def digits02:c∈cs "012"↔48<=c/\c<=50:=by
 have e:cs "012"=[48,49,50]:=rfl;rw[e];simp;lia
def Cm(w:List Nat)(c:Nat):Txt.endswith #[(w++[c]).toArray] "1"=decide (c=49):=by
 unfold Txt.endswith;have e1:("1":F_).length=1:=rfl;have e2:(#[(w++[c]).toArray]:F_).length=w.length+1:=by simp[Str.length]
 rw[e1,e2];have e3:decide (0+1<=w.length+1)=true:=K'
 rw[e3,Bool.true_and,JY];unfold Builtin.Str.subAt;have e4:(#[(w++[c]).toArray]:F_).cps.extract w.length (w.length+("1":F_).length)=[c].toArray:=by
  apply JZ.mp;simp[Array.toList_extract,e1]
 rw[e4];have e5:("1":F_).cps=[49].toArray:=rfl;rw[e5];by_cases h:c=49
 .subst h;rfl
 .simp[h]
def Cn:SpM:=λds M R _=>∃(a:KF) (t:F_) (k:Nat) (x:Int) (e:Nat) (l:List Nat),ds=[.ptr a]/\M=RdM a t k/\B12 x/\endS e/\At t k (numL x++e::l)/\R (.int x) (RdM a t (k+(numL x).length))
def Co:SpM:=λds M R _=>∃(a:KF) (t:F_) (k:Nat) (x y:Int) (e:Nat) (l:List Nat),ds=[.ptr a]/\M=RdM a t k/\B12 x/\B12 y/\endS e/\At t k (numL x++44::(numL y++e::l))/\R (.tup [.int x,.int y]) (RdM a t (k+(numL x).length+1+(numL y).length))
def signs_is:c∈cs ".123456"↔isSg c=true:=by
 have e:cs ".123456"=[46,49,50,51,52,53,54]:=rfl;rw[e];simp;lia
def fv(x:List Nat):(#[x.toArray]:F_).length=x.length:=by simp[Str.length]
def vc(h:isSg c=false):c∉cs ".123456":=λz=>by rw[signs_is.mp z]at h;cases h
def S_line_from:SpM:=λds M R _=>∃(a:KF) (t:F_) (k n m:Nat) (x l:List Nat),ds=[.ptr a,.int n,.int m]/\M=RdM a t k/\At t k (x++l)/\(∀c∈x,aZ c)/\n<=x.length/\x.length<=m/\m<=8/\(x.length=m\/∃c l',l=c::l'/\isSg c=false)/\R (.str #[x.toArray]) (RdM a t (k+x.length))
def Cp{p a:KF}(h:p≠a):mget ((p,o)::RdM a t k) a=be (.ins "Reading" (rdF t k)):=by
 unfold mget;rw[if_neg h];exact dM
variable{M:MS}
def cS{p:KF}:mget ((p,o)::M) p=be o:=by unfold mget;rw[if_pos rfl]
def vd{p:KF}{o':MO}:mput ((p,o)::M) p o'=(p,o')::M:=by unfold mput;rw[if_pos rfl]
def lx{p:KF}:mdel ((p,o)::M) p=M:=by unfold mdel;rw[if_pos rfl]
structure RowsL(L:List (List Nat))(w:Nat):Prop where
 many:1<=L.length/\L.length<=8
 w1:1<=w
 w8:w<=8
 each:∀x∈L,x.length=w/\∀c∈x,aZ c
def lstD(L:List (List Nat)):List D:=L.map λx=>D.str #[x.toArray]
def Cq:SpM:=λds M R _=>∃(a:KF) (t:F_) (k:Nat) (L:List (List Nat)) (w:Nat) (l:List Nat),ds=[.ptr a]/\M=RdM a t k/\RowsL L w/\At t k (rowsL L++59::l)/\R (.lst (lstD L)) (RdM a t (k+(rowsL L).length))
def hmX(w h s:Int)(i j:Int):Int:=(i-j/h*s)%w
def hRow(w h s:Int)(j:Nat):Nat->List Nat->List ((Int×Int)×Int)->List ((Int×Int)×Int)
 |_,[],kv=>kv
 |i,c::r,kv=>hRow w h s j (i+1) r (if c=46 then kv else sdD kv (hmX w h s i j) ((j:Int)%h) ((c:Int)-48))
def hAll(w h s:Int):Nat->List (List Nat)->List ((Int×Int)×Int)->List ((Int×Int)×Int)
 |_,[],kv=>kv
 |j,x::r,kv=>hAll w h s (j+1) r (hRow w h s j 0 x kv)
def ve(kv:List ((Int×Int)×Int))(x y v:Int):(sdD kv x y v).length<=kv.length+1:=by
 unfold sdD;split
 .lia
 .rw[G2];simp
def Cr(h:49<=c/\c<=54):∃i rest,Builtin.Str.occurrences ".123456" #[[c].toArray] 0 (".123456":F_).length 1=i::rest/\((i:Nat):Int)=(c:Int)-48:=by
 rcases(KK:c=49\/c=50\/c=51\/c=52\/c=53\/c=54)with e|e|e|e|e|e<;>subst e
 .exact#[1,[],K7,K3]
 .exact#[2,[],K7,K3]
 .exact#[3,[],K7,K3]
 .exact#[4,[],K7,K3]
 .exact#[5,[],K7,K3]
 .exact#[6,[],K7,K3]
def Cs{x:List Nat}(h:∀c∈x,aZ c):(#[x.toArray]:F_).cps.all (·<128)=true:=by
 rw[<-IZ,Hy];intro c hc;have:=h c hc;unfold aZ at this;simp;lia
variable{d:My.D}
def Ct{L:List (List Nat)}{j:Nat}(h:(lstD L)[j]?=be d):∃x,L[j]?=be x/\d=.str #[x.toArray]:=by
 unfold lstD at h;rw[GY]at h;cases e:L[j]? with
 |none=>rw[e]at h;cases h
 |some x=>rw[e]at h;cases h;exact#[x,rfl,rfl]
variable{i:Nat}
def Cu{x:List Nat}(h:(bP #[x.toArray])[i]?=be d):∃c,x[i]?=be c/\d=.str #[[c].toArray]:=by
 unfold bP at h;rw[GY]at h;cases e:x[i]? with
 |none=>simp[e]at h
 |some c=>simp[e]at h;exact#[c,rfl,h.symm]
def vf{α:Type}{l:List α}{x:α}(h:l[i]?=be x):l.drop i=x::l.drop (i+1):=by
 have hi:i<l.length:=(GZ.mp h).1;rw[HU hi];congr 1;rw[G4 hi]at h;exact Option.some.inj h
def Cw:SpM:=λds M R RX=>∃(L:List (List Nat)) (wd:Nat) (w h s:Int),ds=[.lst (lstD L),.tup [.int w,.int h,.int s]]/\RowsL L wd/\0<w/\0<h/\h<1073741824/\0<=s/\s<1073741824/\R (.dti (hAll w h s 0 L [])) M
def moF(k:Nat)(sh:D)(hu:List ((Int×Int)×Int)):List (F_×D):=[("place",.int k),("shifts",sh),("hues",.dti hu)]
def Cy:SiD:=λds R=>∃(k:Nat) (L:List (List Nat)) (wd:Nat) (a b c d:Int),ds=[.int k,.lst (lstD L),.tup [.int a,.int b],.tup [.int c,.int d]]/\RowsL L wd/\B12 a/\B12 b/\B12 c/\B12 d/\¬a*d=b*c/\
 ∀w h s,FamOf a b c d w h s->R (moF k (.tup [.int w,.int h,.int s]) (hAll w h s 0 L []))
variable{v:My.D}
def Cz:putD ("place":F_) v []=([("place",v)]:List (F_×D)):=rfl
variable{u:My.D}
def CA:putD ("shifts":F_) v [("place",u)]=([("place",u),("shifts",v)]:List (F_×D)):=by
 unfold putD;rw[if_neg K7];rfl
def CB{t:D}:putD ("hues":F_) v [("place",t),("shifts",u)]=([("place",t),("shifts",u),("hues",v)]:List (F_×D)):=by
 unfold putD;rw[if_neg K7];unfold putD;rw[if_neg K7];rfl
def vg:([("place",u),("shifts",v)]:List (F_×D)).lookup ("shifts":F_)=be v:=by
 rw[G3,show(("shifts":F_)==("place":F_))=false by decide+kernel];rfl
def CC:SiD:=λds R=>∃(x y:F_) (fs gs:List (F_×D)),ds=[.obj x fs,.obj y gs]/\R [("above",.obj x fs),("below",.obj y gs)]
def CD:SiD:=λds R=>∃(x:F_) (fs:List (F_×D)) (a b:Int),ds=[.obj x fs,.int a,.int b]/\R [("form",.obj x fs),("x",.int a),("y",.int b)]
def CF:SiD:=λds R=>∃(x:F_) (fs:List (F_×D)),ds=[.obj x fs]/\R [("form",.obj x fs)]
def CG:SiD:=λds R=>∃(x:F_) (fs:List (F_×D)),ds=[.obj x fs]/\R [("form",.obj x fs)]
def CH:SiD:=λds R=>∃(x:F_) (fs:List (F_×D)) (a b:Int),ds=[.obj x fs,.int a,.int b]/\R [("form",.obj x fs),("old",.int a),("new",.int b)]
def FormOf:Pat->D->Prop
 |.mot L a b c d,v=>∃(k:Nat) (w h s:Int),v=.obj "Motif" (moF k (.tup [.int w,.int h,.int s]) (hAll w h s 0 (L.map cs) []))/\FamOf a b c d w h s
 |.over p q,v=>∃u u',v=.obj "Over" [("above",u),("below",u')]/\FormOf p u/\FormOf q u'
 |.sh a b p,v=>∃u,v=.obj "Shifted" [("form",u),("x",.int a),("y",.int b)]/\FormOf p u
 |.mir p,v=>∃u,v=.obj "Mirror" [("form",u)]/\FormOf p u
 |.tur p,v=>∃u,v=.obj "Turn" [("form",u)]/\FormOf p u
 |.hue f g p,v=>∃u,v=.obj "Rehue" [("form",u),("old",.int f),("new",.int g)]/\FormOf p u
def Pat.cls:Pat->F_
 |.mot ..=>"Motif"|.over ..=>"Over"|.sh ..=>"Shifted"|.mir ..=>"Mirror"|.tur ..=>"Turn"|.hue ..=>"Rehue"
variable{f g:F_}{r:List (F_×My.D)}
def bU(h:(f==g)=false)(hr:r.lookup f=t9):(((g,v)::r:List (F_×D))).lookup f=none:=by
 rw[G3,h];exact hr
structure ObjM(p:Pat)(fs:List (Str×D)):Prop where
 nl:noLF fs=true
 fam:fs.lookup ("family":F_)=t9
 shw:fs.lookup ("shows":F_)=t9
variable{p:Pat}
def FormOf.objm:∀{v:D},FormOf p v->∃fs,v=.obj p.cls fs/\ObjM p fs:=by
 have n1 {g:F_} {u:D} {f:F_} (h:(f==g)=false):([(g,u)]:List (F_×D)).lookup f=none:=bU h rfl;have nn {fs:List (F_×D)} {x:F_} (h:noLF fs=true):noL (.obj x fs)=true:=by simp[noL,h]
 induction p with
 |mot L a b c d=>
  rintro _⟨k,w,h,s,rfl,_⟩;exact#[_,rfl,by simp[noL,noLF,noLs,moF],bU K7 (bU K7 (n1 K7)),bU K7 (bU K7 (n1 K7))]
 |over p q i j=>
  rintro _⟨u,u',rfl,h1,h2⟩;obtain⟨fs,rfl,o1⟩:=i h1;obtain⟨gs,rfl,o2⟩:=j h2;exact#[_,rfl,by simp[noLF,nn o1.nl,nn o2.nl],bU K7 (n1 K7),bU K7 (n1 K7)]
 |sh a b p i=>
  rintro _⟨u,rfl,h1⟩;obtain⟨fs,rfl,o1⟩:=i h1;exact#[_,rfl,by simp[noL,noLF,o1.nl],bU K7 (bU K7 (n1 K7)),bU K7 (bU K7 (n1 K7))]
 |mir p i=>
  rintro _⟨u,rfl,h1⟩;obtain⟨fs,rfl,o1⟩:=i h1;exact#[_,rfl,by simp[noLF,nn o1.nl],n1 K7,n1 K7]
 |tur p i=>
  rintro _⟨u,rfl,h1⟩;obtain⟨fs,rfl,o1⟩:=i h1;exact#[_,rfl,by simp[noLF,nn o1.nl],n1 K7,n1 K7]
 |hue f g p i=>
  rintro _⟨u,rfl,h1⟩;obtain⟨fs,rfl,o1⟩:=i h1;exact#[_,rfl,by simp[noL,noLF,o1.nl],bU K7 (bU K7 (n1 K7)),bU K7 (bU K7 (n1 K7))]
variable{L:List F_}
def CI(h:Rows L):∃w,RowsL (L.map cs) w:=by
 obtain⟨h1,w,h2,h3⟩:=h;refine#[w,by rw[GT];exact h1,h2.1,h2.2,λx hx=>?_];obtain⟨l,hl,rfl⟩:=Hc.mp hx;rw[bj];exact h3 l hl
def vh{f:Int}(h:1<=f/\f<=6):(48+f).toNat∈cs "123456":=by
 have e:cs "123456"=[49,50,51,52,53,54]:=rfl;rw[e];simp;lia
def CJ:SpM:=λds M R _=>∃(g:KF) (t:F_) (k:Nat) (L:List F_) (a b c d:Int) (l:List Nat),ds=[.ptr g]/\M=RdM g t k/\At t k (motL (L.map cs) a b c d++l)/\(Pat.mot L a b c d).Wf/\∀v,FormOf (.mot L a b c d) v->R v (RdM g t (k+(motL (L.map cs) a b c d).length))
def dz(j:Nat):SpM:=λds M R _=>∃(a:KF) (t:F_) (k:Nat) (p:Pat) (l:List Nat) (d:Nat),ds=[.ptr a,.int d]/\M=RdM a t k/\At t k (p.tl++l)/\d+j=6/\1<=j/\p.Wf/\p.depth+d<=5/\∀v,FormOf p v->R v (RdM a t (k+p.tl.length))
variable{ds:List My.D}{RX:XDM}
def CK{R:D->MS->Prop}:¬dz 0 ds M R RX:=by
 rintro⟨_,_,_,_,_,_,_,_,_,_,h,_⟩;exact absurd h K3
def vi(j:Nat):SpM:=λds M R _=>∃(a:KF) (t:F_) (k:Nat) (p q:Pat) (l:List Nat) (d:Nat),ds=[.ptr a,.int d]/\M=RdM a t k/\At t k (p.tl++124::(q.tl++41::l))/\d+j=6/\1<=j/\p.Wf/\q.Wf/\p.depth+d<=5/\q.depth+d<=5/\∀u u',FormOf p u->FormOf q u'->R (.obj "Over" [("above",u),("below",u')]) (RdM a t (k+p.tl.length+1+q.tl.length+1))
def vj(j:Nat):SpM:=λds M R _=>∃(a:KF) (t:F_) (k:Nat) (x y:Int) (p:Pat) (l:List Nat) (d:Nat),ds=[.ptr a,.int d]/\M=RdM a t k/\At t k (numL x++44::(numL y++58::(p.tl++l)))/\d+j=6/\1<=j/\B12 x/\B12 y/\p.Wf/\p.depth+d<=5/\∀u,FormOf p u->R (.obj "Shifted" [("form",u),("x",.int x),("y",.int y)]) (RdM a t (k+(numL x).length+1+(numL y).length+1+p.tl.length))
def vk(j:Nat):SpM:=λds M R _=>∃(a:KF) (t:F_) (k:Nat) (f g:Int) (p:Pat) (l:List Nat) (d:Nat),ds=[.ptr a,.int d]/\M=RdM a t k/\At t k ((48+f).toNat::(48+g).toNat::(p.tl++l))/\d+j=6/\1<=j/\(1<=f/\f<=6)/\(1<=g/\g<=6)/\p.Wf/\p.depth+d<=5/\∀u,FormOf p u->R (.obj "Rehue" [("form",u),("old",.int f),("new",.int g)]) (RdM a t (k+2+p.tl.length))
def Pat.cls_mem(p:Pat):p.cls∈(["Motif","Over","Shifted","Mirror","Turn","Rehue"]:List F_):=by
 cases p<;>simp[Pat.cls]
variable{hu:List ((Int×Int)×Int)}
def mo_shifts{sh:D}:(moF k sh hu).lookup ("shifts":F_)=be sh:=by
 unfold moF;rw[G3,show(("shifts":F_)==("place":F_))=false by decide+kernel];rfl
def CL{sh:D}:(moF k sh hu).lookup ("hues":F_)=be (.dti hu):=by
 unfold moF;rw[G3,show(("hues":F_)==("place":F_))=false by decide+kernel,G3,show(("hues":F_)==("shifts":F_))=false by decide+kernel];rfl
def fz(h:(g==f)=false):(((f,u)::(g,v)::r:List (F_×D))).lookup g=be v:=by
 rw[G3,h,G3,beq_self_eq_true]
def ly{e:F_}{t:D}(h1:(g==e)=false)(h2:(g==f)=false):(((e,t)::(f,u)::(g,v)::r:List (F_×D))).lookup g=be v:=by
 rw[G3,h1];exact fz h2
variable{w s:Int}
def Pat.Fits.small(h:p.Fits){k:Int}(f:p.Fam w k s):0<w/\w<=720/\0<k/\k<=720/\0<=s/\s<w:=by
 obtain⟨w',k',s',f',hb⟩:=h;obtain⟨rfl,rfl,rfl⟩:=f.uniq f';obtain⟨h1,h2⟩:=dh f.f.w0 f.f.h0;exact#[f.f.w0,KK,f.f.h0,KK,f.f.s0,f.f.sw]
def Pat.Fits.over_parts{q:Pat}(hp:p.Wf)(hq:q.Wf)(h:(Pat.over p q).Fits):p.Fits/\q.Fits:=by
 obtain⟨w,k,s,f,hb⟩:=h;obtain⟨w1,k1,s1,f1⟩:=Pat.fam_ex hp;obtain⟨w2,k2,s2,f2⟩:=Pat.fam_ex hq;have l1:=(InF.le f1.f.w0 f1.f.h0 f.f.w0 f.f.h0 (λx y z=>(f1.lat x y).mpr ((f.lat x y).mp z).1)).1;have l2:=(InF.le f2.f.w0 f2.f.h0 f.f.w0 f.f.h0 (λx y z=>(f2.lat x y).mpr ((f.lat x y).mp z).2)).1;exact#[#[w1,k1,s1,f1,KK],#[w2,k2,s2,f2,KK]]
variable{b:Int}
def Pat.Fits.of_sh(h:(Pat.sh a b p).Fits):p.Fits:=by
 obtain⟨w,k,s,f,hb⟩:=h;exact#[w,k,s,#[f.f,f.lat],hb]
def Pat.Fits.of_hue(h:(Pat.hue a b p).Fits):p.Fits:=by
 obtain⟨w,k,s,f,hb⟩:=h;exact#[w,k,s,#[f.f,f.lat],hb]
def Pat.Fits.of_mir(hp:p.Wf)(h:(Pat.mir p).Fits):p.Fits:=by
 obtain⟨w,k,s,f,hb⟩:=h;obtain⟨w1,k1,s1,f1⟩:=Pat.fam_ex hp;obtain⟨rfl,rfl,_⟩:=f.uniq f1.mir;exact#[_,_,_,f1,hb]
def Pat.Fits.of_tur(hp:p.Wf)(h:(Pat.tur p).Fits):p.Fits:=by
 obtain⟨w,k,s,f,hb⟩:=h;obtain⟨w1,k1,s1,f1⟩:=Pat.fam_ex hp;obtain⟨w',k',s',f',e⟩:=lu (s:=s1) f1.f.w0 f1.f.h0;obtain⟨rfl,rfl,_⟩:=f.uniq (f1.tur f');exact#[_,_,_,f1,KK]
def bZ(j:Nat)(x:F_):SpX:=λds R _=>∃(p:Pat) (v:D),ds=[v]/\FormOf p v/\p.Wf/\p.depth<j/\p.cls=x/\p.Fits/\∀w h s,p.Fam w h s->R (.tup [.int w,.int h,.int s])
def fA{x:F_}{R:D->MS->Prop}:¬ofX (bZ 0 x) ds M R RX:=by
 rintro⟨_,_,_,_,_,h,_⟩;exact absurd h (IK _)
def lookD_app(x y v X Y:Int):∀kv:List ((Int×Int)×Int),lookD (kv++[((x,y),v)]) X Y=match lookD kv X Y with|some u=>be u|none=>if x=X/\y=Y then be v else t9
 |[]=>rfl
 |((a,b),h)::r=>by
  show lookD (((a,b),h)::(r++[((x,y),v)])) X Y=_;unfold lookD;by_cases e:a=X/\b=Y
  .rw[if_pos e,if_pos e]
  .rw[if_neg e,if_neg e];exact lookD_app x y v X Y r
def CM(kv:List ((Int×Int)×Int))(x y v X Y:Int):lookD (sdD kv x y v) X Y=match lookD kv X Y with|some u=>be u|none=>if x=X/\y=Y then be v else none:=by
 unfold sdD;split
 .rename_i hs;cases e:lookD kv X Y with
  |some u=>rfl
  |none=>
   show t9=_;rw[if_neg];rintro⟨rfl,rfl⟩;rw[e]at hs;cases hs
 .exact lookD_app x y v X Y kv
def look_row(w h s:Int)(j:Nat)(X Y:Int):∀(x:List Nat) (i:Nat) (kv:List ((Int×Int)×Int)),lookD (hRow w h s j i x kv) X Y=match lookD kv X Y with|some u=>be u|none=>(scanRow (λi=>decide (hmX w h s i j=X/\(j:Int)%h=Y)) i x).map λc=>(c:Int)-48
 |[],i,kv=>by
  rw[hRow,scanRow];cases lookD kv X Y<;>rfl
 |c::r,i,kv=>by
  rw[hRow,look_row w h s j X Y r (i+1),scanRow];by_cases u9:c=46
  .rw[if_pos u9,if_neg (c:=c≠46/\_) (λz=>z.1 u9)]
  .rw[if_neg u9,CM];cases lookD kv X Y with
   |some u=>rfl
   |none=>
    by_cases e:hmX w h s i j=X/\(j:Int)%h=Y
    .rw[if_pos (c:=c≠46/\_) #[u9,decide_eq_true e]];show(match (if hmX w h s i j=X/\(j:Int)%h=Y then be ((c:Int)-48)else t9)with|some u=>be u|none=>_)=_;rw[if_pos e];rfl
    .rw[if_neg (c:=c≠46/\_) (λz=>e (of_decide_eq_true z.2))];show(match (if hmX w h s i j=X/\(j:Int)%h=Y then be ((c:Int)-48)else t9)with|some u=>be u|none=>_)=_;rw[if_neg e]
def vm(w h s X Y:Int):∀(L:List F_) (j:Nat) (kv:List ((Int×Int)×Int)),lookD (hAll w h s j (L.map cs) kv) X Y=match lookD kv X Y with|some u=>be u|none=>(bR (λi j=>decide (hmX w h s i j=X/\j%h=Y)) j L).map λc=>(c:Int)-48
 |[],j,kv=>by
  rw[HX,hAll,bR];cases lookD kv X Y<;>rfl
 |x::r,j,kv=>by
  rw[G7,hAll,vm w h s X Y r (j+1),look_row,bR];cases lookD kv X Y with
  |some u=>rfl
  |none=>
   show(match (scanRow (λi=>decide (hmX w h s i j=X/\(j:Int)%h=Y)) 0 (cs x)).map (λc=>(c:Int)-48)with|some u=>be u|none=>_)=_;cases scanRow (λi=>decide (hmX w h s i j=X/\(j:Int)%h=Y)) 0 (cs x)<;>rfl
variable{h:Int}
def CN{c d:Int}(F:FamOf a b c d w h s)(hn:¬a*d=b*c)(x y i j:Int):decide (hmX w h s i j=hmX w h s x y/\j%h=y%h)=onB a b c d (x-i) (y-j):=by
 have hw:=F.1;have hh:=F.2.1;have key:(hmX w h s i j=hmX w h s x y/\j%h=y%h)↔InF w h s (x-i) (y-j):=by
  unfold hmX;constructor
  .rintro⟨e1,e2⟩;have dy:=Ih y h;have dj:=Ih j h;have m1:=Ih (x-y/h*s) w;have m2:=Ih (i-j/h*s) w;refine#[(x-y/h*s)/w-(i-j/h*s)/w,y/h-j/h,?_,?_]
   .rw[Ji,Ji,Hd ((x-y/h*s)/w) w,Hd ((i-j/h*s)/w) w];lia
   .rw[Ji,Hd (y/h) h,Hd (j/h) h];lia
  .rintro⟨m,q,ex,ey⟩;have RY:y=j+q*h:=by lia
   have PZ:x=i+(m*w+q*s):=KK
   subst PZ RY;rw[J0,J1 _ _ KK];refine#[?_,rfl];have e:i+(m*w+q*s)-(j/h+q)*s=i-j/h*s+m*w:=by rw[Jj];lia
   rw[e,J0]
 unfold onB;congr 1;apply propext;rw[key,F.lat];constructor
 .rintro⟨m,q,eu,ev⟩;exact tV eu ev
 .exact λz=>uo hn z
def CO(h:49<=c/\c<=54):cell [0,1,2,3,4,5,6] ((c:Int)-48)=(c:Int)-48:=by
 rcases(KK:c=49\/c=50\/c=51\/c=52\/c=53\/c=54)with e|e|e|e|e|e<;>subst e<;>rfl
def motif_shows{c d:Int}(hL:Rows L)(F:FamOf a b c d w h s)(hn:¬a*d=b*c)(x y:Int):(lookD (hAll w h s 0 (L.map cs) []) (hmX w h s x y) (y%h)).getD 0=(bu L a b c d).shows x y:=by
 rw[vm];show((bR (λi j=>decide (hmX w h s i j=hmX w h s x y/\j%h=y%h)) 0 L).map λc=>(c:Int)-48).getD 0=_;have e:(λi j=>decide (hmX w h s i j=hmX w h s x y/\j%h=y%h))=λi j=>onB a b c d (1*x+0*y+0-i) (0*x+1*y+0-j):=by
  funext i j;rw[CN F hn];congr 1<;>lia
 rw[e];show _=match bR (λi j=>onB a b c d (1*x+0*y+0-i) (0*x+1*y+0-j)) 0 L with|some c=>cell [0,1,2,3,4,5,6] ((c:Int)-48)|none=>0
 cases q:bR (λi j=>onB a b c d (1*x+0*y+0-i) (0*x+1*y+0-j)) 0 L with
 |none=>rfl
 |some c=>
  have hc:49<=c/\c<=54:=lf (λl' q=>let ⟨_,_,_,h⟩:=hL;(h l' q).2) q;exact(CO hc).symm
def ca(j:Nat)(x:F_):SpX:=λds R _=>∃(p:Pat) (v:D) (X Y:Int),ds=[v,.int X,.int Y]/\FormOf p v/\p.Wf/\p.depth<j/\p.cls=x/\R (.int (p.show X Y))
def fB{x:F_}{R:D->MS->Prop}:¬ofX (ca 0 x) ds M R RX:=by
 rintro⟨_,_,_,_,_,_,_,h,_⟩;exact absurd h (IK _)
structure PatOf(p:Pat)(w h s:Int)(fs:List (Str×D)):Prop extends Pat.Fam p w h s where
 form:∃v,fs.lookup ("form":F_)=be v/\FormOf p v
 nl:noLF fs=true
def bn(p:Pat)(d:D):Prop:=∃w h s fs,d=.obj "Pattern" fs/\fs.lookup ("text":F_)=be (.str p.text)/\fs.lookup ("shifts":F_)=be (.tup [.int w,.int h,.int s])/\PatOf p w h s fs
def aU(x:Int):Prop:=-1000000000000<=x/\x<=1000000000000
def Pat.show_le(h:p.Wf)(hd:p.depth<=40)(x y:Int):0<=p.show x y/\p.show x y<=6:=by
 rw[<-Pat.show_leaves h hd];exact uh x y (Pat.leaf_ok h hd)
def aP(h:Int):Nat:=if h=0 then 46 else(48+h).toNat
def aK(p:Pat)(x y:Int)(n:Nat):Str:=#[((GO n).map λ(k:Nat)=>aP (p.show (x+(k:Int)) y)).toArray]
def cA(p:Pat)(x y:Int)(n:Nat):(aK p x y n).length=n:=by simp[aK,Str.length]
def vn(h0:0<=h)(h6:h<=6):atI (cs ".123456") h=be (aP h):=by
 rcases(KK:h=0\/h=1\/h=2\/h=3\/h=4\/h=5\/h=6)with e|e|e|e|e|e|e<;>subst e<;>decide+kernel
def range2_int{i j:Int}{x:D}(h:((GO (j-i).toNat).map λk=>D.int (i+((k:Nat):Int)))[k]?=be x):k<(j-i).toNat/\x=.int (i+(k:Int)):=by
 have hk:k<(j-i).toNat:=by simpa using(GZ.mp h).1
 refine#[hk,?_];simp[hk]at h;exact h.symm
def vo:∀L:List F_,cs (Str.join "" L)=L.flatMap cs
 |[]=>rfl
 |[x]=>by simp[Str.join]
 |x::y::r=>by
  show cs (x++""++Str.join "" (y::r))=_;rw[bF,bF,vo (y::r),ud];simp
def CP(f:Nat->Nat)(n:Nat):Str.join "" ((GO n).map λi=>(#[[f i].toArray]:F_))=#[((GO n).map f).toArray]:=by
 apply gf;rw[vo,List.flatMap_map];show(GO n).flatMap (λi=>[f i])=(GO n).map f;rw[List.map_eq_flatMap]
def CQ:SiD:=λds R=>∃(t:F_) (w h s:Int) (x:F_) (fs:List (F_×D)),ds=[.str t,.tup [.int w,.int h,.int s],.obj x fs]/\R [("text",.str t),("shifts",.tup [.int w,.int h,.int s]),("form",.obj x fs)]
def S_read:SpX:=λds R _=>∃p:Pat,ds=[.str p.text]/\p.Ok/\∀d,bn p d->R d
variable{R:My.D->Prop}
def CS(ok:p.Ok)(h:∀d,bn p d->R d):ic S_read [.str p.text] R:=#[p,rfl,ok,h]
def S_read.mono{R':D->Prop}{RX RX':XD}(h:S_read ds R RX)(hR:∀d,R d->R' d):S_read ds R' RX':=by
 obtain⟨p,e,ok,h⟩:=h;exact#[p,e,ok,λd i=>hR d (h d i)]
def vp{RX:XD}(ok:p.Ok)(h:∀d,bn p d->R d):S_read [.str p.text] R RX:=#[p,rfl,ok,h]
def CT:SpX:=λds R RX=>∃x y:Int,ds=[.int x,.int y]/\(aU x/\aU y->R .non)/\(¬(aU x/\aU y)->RX "TooFar" [])
def CU:SpX:=λds R RX=>∃(p:Pat) (d:D) (x y:Int),ds=[d,.int x,.int y]/\bn p d/\p.Ok/\(aU x/\aU y->R (.int (p.show x y)))/\(¬(aU x/\aU y)->RX "TooFar" [])
def CV:SpD:=λds R=>∃(p:Pat) (d:D) (x y:Int) (n:Nat),ds=[d,.int x,.int y,.int n]/\bn p d/\p.Ok/\n<=1000/\aU x/\aU (x+n-1)/\aU y/\R (.str (aK p x y n))
def rowD(p:Pat)(x y:Int)(n:Nat):List D:=(GO n).map λ(i:Nat)=>D.str #[[aP (p.show (x+(i:Int)) y)].toArray]
def vq(p:Pat)(x y:Int)(k:Nat):rowD p x y k++[D.str #[[aP (p.show (x+(k:Int)) y)].toArray]]=rowD p x y (k+1):=by
 unfold rowD;rw[H9,Hj];rfl
variable{n:Nat}
def vt(p:Pat)(x y:Int)(hn:n<=1000):∃ys,cO (rowD p x y n)=be ys/\(ys.map (·.length)).sum+ys.length*("":F_).length<=1000000/\Txt.join "" ys=aK p x y n:=by
 have e1:rowD p x y n=((GO n).map λ(i:Nat)=>(#[[aP (p.show (x+(i:Int)) y)].toArray]:F_)).map D.str:=by unfold rowD;rw[Ie];rfl
 rw[e1];refine#[_,kZ _,?_,(StrLaws.glued_eq_join _ _).trans (CP (λi=>aP (p.show (x+(i:Int)) y)) n)];rw[ue (w:=1) (λl hl=>by obtain⟨i,_,rfl⟩:=Hc.mp hl;rfl),GT,Jk,show("":F_).length=0 from rfl];lia
def CW{n:Int}:x.fmod n=0↔n∣x:=#[Int.dvd_of_fmod_eq_zero,Jb]
def CY(a b c d u v i j:Int):onB a b c d (u+(i*a+j*c)) (v+(i*b+j*d))=onB a b c d u v:=by
 unfold onB;have e1:(u+(i*a+j*c))*d-(v+(i*b+j*d))*c=(u*d-v*c)+(a*d-b*c)*i:=Md
 have e2:a*(v+(i*b+j*d))-b*(u+(i*a+j*c))=(a*v-b*u)+(a*d-b*c)*j:=Md
 rw[e1,e2];simp only[CW];have h1:(a*d-b*c∣u*d-v*c+(a*d-b*c)*i)↔a*d-b*c∣u*d-v*c:=J2 (J3 _ _);have h2:(a*d-b*c∣a*v-b*u+(a*d-b*c)*j)↔a*d-b*c∣a*v-b*u:=J2 (J3 _ _);simp only[h1,h2]
def Pat.Keeps(p:Pat)(X Y:Int):Prop:=∀x y,p.show (x+X) (y+Y)=p.show x y
def Pat.lat_keeps:∀{p:Pat} {X Y:Int},p.Lat X Y->p.Keeps X Y
 | .mot L a b c d,_,_,⟨i,j,rfl,rfl⟩,x,y=>by
  have e:∀u v:Int,onB a b c d (1*(x+(i*a+j*c))+0*(y+(i*b+j*d))+0-u) (0*(x+(i*a+j*c))+1*(y+(i*b+j*d))+0-v)=onB a b c d (1*x+0*y+0-u) (0*x+1*y+0-v):=λu v=>by
   rw[<-CY a b c d (1*x+0*y+0-u) (0*x+1*y+0-v) i j];congr 1<;>lia
  show Leaf.shows _ _ _=Leaf.shows _ _ _;unfold Leaf.shows Leaf.hit;simp only[bu,e]
 |.over p q,X,Y,h,x,y=>by
  simp only[Pat.show];rw[Pat.lat_keeps h.1 x y,Pat.lat_keeps h.2 x y]
 |.sh a b p,X,Y,h,x,y=>by
  have:=Pat.lat_keeps (p:=p) h (x-a) (y-b);simp only[Pat.show];rw[<-this];congr 1<;>lia
 |.mir p,X,Y,h,x,y=>by
  have:=Pat.lat_keeps (p:=p) h (-x) y;simp only[Pat.show];rw[<-this];congr 1;lia
 |.tur p,X,Y,h,x,y=>by
  have:=Pat.lat_keeps (p:=p) h y (-x);simp only[Pat.show];rw[<-this];congr 1;lia
 |.hue f g p,X,Y,h,x,y=>by
  simp only[Pat.show];rw[Pat.lat_keeps (p:=p) h x y]
def InF.one(w h s:Int):InF w h s w 0:=#[1,0,KK,KK]
def Pat.Fam.keeps{y:Int}(f:p.Fam w h s)(q:InF w h s x y):p.Keeps x y:=Pat.lat_keeps ((f.lat x y).mp q)
structure Pat.Kfam(p:Pat)(w h s:Int):Prop where
 f:Fam0 w h s
 keeps:∀{x y},InF w h s x y->p.Keeps x y
structure Pat.Least(p:Pat)(w h s:Int):Prop where
 f:Fam0 w h s
 lat:∀x y,InF w h s x y↔p.Keeps x y
def CZ(hw:0<w)(hh:0<h)(x y:Int):InF w h s (x-hmX w h s x y) (y-y%h):=by
 have e1:=HR y h;have e2:=HR (x-y/h*s) w;refine#[(x-y/h*s)/w,y/h,?_,by rw[e1,Hd];lia];unfold hmX;rw[e2,Hd w];lia
def Pat.show_home(hw:0<w)(hh:0<h)(k:∀x y,InF w h s x y->p.Keeps x y)(x y:Int):p.show (hmX w h s x y) (y%h)=p.show x y:=by
 have:=k _ _ (CZ (s:=s) hw hh x y) (hmX w h s x y) (y%h);rw[<-this];congr 1<;>lia
def C0(f:Nat->Nat){w:Nat}(h:c<w):((GO w).map f).drop c++((GO w).map f).take c=(GO w).map λk=>f ((c+k)%w):=by
 apply HZ;intro i;by_cases h1:i<w-c
 .rw[Ht (by simp;exact h1),J4,GY,GY,HC KK,HC KK];simp[J5 (show c+i<w by lia)]
 .rw[HF SN];simp only[HL,GT,Jk];by_cases h2:i<w
  .rw[IS KK,GY,GY,HC KK,HC KK];have e:(c+i)%w=i-(w-c):=by
    rw[show c+i=(i-(w-c))+w by lia,Nat.add_mod_right,J5 KK]
   simp[e]
  .rw[Ho SN,Ho SN]
def gk(l:List Nat):cs (#[l.toArray]:F_)=l:=K'
def C1{c:Int}(ht:cs t=l)(c0:0<=c)(cl:c<l.length):Txt.slice t (be c) t9++Txt.slice t t9 (be c)=(#[(l.drop c.toNat++l.take c.toNat).toArray]:F_):=by
 have hl:t.length=l.length:=by rw[<-ht,bj]
 apply gf;rw[bF,slice_cps,slice_cps,gk,gk,gk,show t.cps.toList=l from ht,hl];have e1:HT.sIx l.length 0 (be c)=c.toNat:=by show(if c<0 then _ else min c.toNat l.length)=_;rw[if_neg KK];lia
 have e2:HT.sIx l.length l.length t9=l.length:=rfl;have e3:HT.sIx l.length 0 t9=0:=rfl;have e4:HT.sIx l.length l.length (be c)=c.toNat:=by show(if c<0 then _ else min c.toNat l.length)=_;rw[if_neg KK];lia
 rw[e1,e2,e3,e4,IL,HP K'];rfl
def cT(p:Pat)(x y:Int)(n:Nat):cs (aK p x y n)=(GO n).map λ(k:Nat)=>aP (p.show (x+(k:Int)) y):=gk _
def C3(hw:0<w)(hh:0<h)(k:∀x y,InF w h s x y->p.Keeps x y)(x y:Int):
  Txt.slice (aK p 0 (y%h) w.toNat) (be (hmX w h s x y)) t9++Txt.slice (aK p 0 (y%h) w.toNat) t9 (be (hmX w h s x y))=aK p x y w.toNat:=by
 have c0:0<=hmX w h s x y:=Hz _ KK;have c1:hmX w h s x y<w:=HA _ hw;rw[C1 (cT p 0 (y%h) w.toNat) c0 SN,C0 _ KK];unfold aK;congr 2;apply Ia;intro i _;have e:=Pat.show_home hw hh k (x+(i:Int)) y;rw[<-e];congr 2;have q:hmX w h s (x+(i:Int)) y=(hmX w h s x y+i)%w:=by
  unfold hmX;rw[Int.emod_add_emod];congr 1;lia
 rw[q,HH,J6,Ij,Hq c0,Hq KK]
def gm(p:Pat)(w h:Int):D:=.lst ((GO h.toNat).map λ(y:Nat)=>D.str (aK p 0 (y:Int) w.toNat))
def C4:SpD:=λds R=>∃(p:Pat) (d:D),ds=[d]/\bn p d/\p.Ok/\∀w h s,p.Fam w h s->w*h<=720->w<=720->h<=720->R (gm p w h)
def C5:SpD:=λds R=>∃(p:Pat) (w h s x y:Int),ds=[.tup [.int w,.int h,.int s],gm p w h,.int x,.int y]/\p.Fam w h s/\w<=720/\h<=720/\R (.str (aK p x y w.toNat))
def C6(a0:0<=a)(a6:a<=6)(b0:0<=b)(b6:b<=6)(e:aP a=aP b):a=b:=by
 unfold aP at e;split at e<;>split at e<;>lia
structure Pat.LeastW(p:Pat)(w m:Int):Prop where
 lo:1<=m
 hi:m<=w
 md:w%m=0
 k:p.Keeps m 0
 l:∀d,1<=d->d<=w->w%d=0->p.Keeps d 0->m<=d
def C7(ok:p.Ok)(h:∀w h s,p.Fam w h s->w*h<=720->w<=720->h<=720->R (.tup [.int w,.int h,.int s])):lr [.lst (p.leaves.map Leaf.D)] R:=by
 refine#[p.leaves,p.depth,rfl,λz=>by have:=Pat.leaves_pos p;rw[z]at this;simp at this,λl hl=>Pat.leaf_good ok.wf l hl,λw k s f lat=>?_];have F:p.Fam w k s:=#[f,λx y=>(lat x y).trans (Pat.lat_leaves p x y)];have sm:=ok.fits.small F;have wh:w*k<=720:=by
  obtain⟨w',h',s',f',hb⟩:=ok.fits;obtain⟨rfl,rfl,_⟩:=F.uniq f';exact hb
 exact#[λ_=>h w k s F wh sm.2.1 sm.2.2.2.1,λz=>KK]
def FamD(p:Pat):D->Prop:=λx=>∃w h s:Int,x=.tup [.int w,.int h,.int s]/\p.Fam w h s/\w*h<=720/\w<=720/\h<=720
def C8(ok:p.Ok):lr [.lst (p.leaves.map Leaf.D)] (FamD p):=C7 ok λw h s F a b c=>#[w,h,s,rfl,F,a,b,c]
def sumN(g:Nat->Int):Nat->Int
 |0=>0
 |n+1=>sumN g n+g n
def dA{g f:Nat->Int}:∀{n:Nat},(∀k,k<n->g k=f k)->sumN g n=sumN f n
 |0,_=>rfl
 |n+1,h=>by rw[sumN,sumN,dA λk hk=>h k KK,h n KK]
def gq(g:Nat->Int)(n:Nat):∀m:Nat,sumN g (n+m)=sumN g n+sumN (λk=>g (n+k)) m
 |0=>by simp[sumN]
 |m+1=>by rw[<-Nat.add_assoc,sumN,sumN,gq g n m];lia
def vw(g f:Nat->Int):∀n:Nat,sumN (λk=>g k+f k) n=sumN g n+sumN f n
 |0=>rfl
 |n+1=>by simp only[sumN,vw g f n];lia
variable{N:Nat}
def C9{g:Nat->Int}(hN:0<N)(LB:∀k,g (k+N)=g k)(n:Nat):sumN (λj=>(((n:Int)-1-j)/N+1)*g j) (min n N)=sumN g n:=by
 induction n using Nat.strongRecOn with
 |ind n ih=>
  by_cases h:n<=N
  .rw[Ik h];refine dA λk hk=>?_;rw[J7 KK KK];simp
  .have e1:n=N+(n-N):=by lia
   have i:=ih (n-N) KK;have OI:sumN (λk=>g (N+k)) (n-N)=sumN g (n-N):=dA λk _=>by rw[Jg];exact LB k
   rw[IM KK];have e2:sumN g n=sumN g N+sumN g (n-N):=by
    conv=>lhs;rw[e1]
    rw[gq,OI]
   rw[e2,<-i];have e3:min (n-N) N+(N-min (n-N) N)=N:=KK
   have split:∀f:Nat->Int,sumN f N=sumN f (min (n-N) N)+sumN (λk=>f (min (n-N) N+k)) (N-min (n-N) N):=λf=>by
    conv=>lhs;rw[<-e3]
    exact gq _ _ _
   rw[split,split g];have a:sumN (λj=>(((n:Int)-1-j)/N+1)*g j) (min (n-N) N)=sumN g (min (n-N) N)+sumN (λj=>((((n-N:Nat):Int)-1-j)/N+1)*g j) (min (n-N) N):=by
    rw[<-vw];refine dA λk hk=>?_;have q:((n:Int)-1-k)/N=(((n-N:Nat):Int)-1-k)/N+1:=by
     rw[show((n:Int)-1-k)=(((n-N:Nat):Int)-1-k)+1*N by lia,J1 _ _ KK]
    rw[q,Jj];lia
   have b:sumN (λk=>(((n:Int)-1-((min (n-N) N+k:Nat):Int))/N+1)*g (min (n-N) N+k)) (N-min (n-N) N)=sumN (λk=>g (min (n-N) N+k)) (N-min (n-N) N):=by
    refine dA λk hk=>?_;rw[J7 KK KK];simp
   rw[a,b];lia
def cntN(f:Nat->Int)(v:Int)(n:Nat):Int:=sumN (λk=>if f k=v then 1 else 0) n
def vx(f:Nat->Int)(v:Int):∀n,0<=cntN f v n/\cntN f v n<=n
 |0=>by simp[cntN,sumN]
 |n+1=>by
  have:=vx f v n;unfold cntN at this ⊢;rw[sumN];split<;>lia
def Da{f:Nat->Int}{w:Nat}(hw:0<w)(LB:∀k,f (k+w)=f k)(v:Int)(m:Nat):((m/w:Nat):Int)*cntN f v w+cntN f v (m%w)=cntN f v m:=by
 have key:∀q r:Nat,cntN f v (w*q+r)=(q:Int)*cntN f v w+cntN f v r:=λq=>by
  have sh:∀q k,f (w*q+k)=f k:=λq=>by
   induction q with
   |zero=>intro k;rw[Nat.mul_zero,Jl]
   |succ q ih=>intro k;rw[J8,show w*q+w+k=w*q+k+w by lia,LB];exact ih k
  induction q with
  |zero=>intro r;simp
  |succ q ih=>
   intro r;rw[J8,show w*q+w+r=w*q+(w+r)by lia,ih,Ij,Jj];have e:cntN f v (w+r)=cntN f v w+cntN f v r:=by
    unfold cntN;rw[gq];congr 1;refine dA λk _=>?_;rw[Jg w k,LB]
   rw[e];simp;lia
 have:=key (m/w) (m%w);rw[Nat.div_add_mod]at this;exact this.symm
def iy(y:F_)(c:Nat):∀(m a:Nat) (st:Array Nat×Nat),a+m=y.length+1->st.2<=a->st.1.size<=a->(forIn (List.range' a m) st (StrLaws.occBody y #[[c].toArray] y.length (y.length+1))).run.fst.size=st.1.size+(((cs y).drop a).filter (·==c)).length
 |0,a,st,h,_,_=>by
  rw[Jn (by rw[bj];lia)];rfl
 |m+1,a,st,h,h1,h2=>by
  have l1:(#[[c].toArray]:F_).length=1:=rfl;have q:=StrLaws.subAt_eq y #[[c].toArray] a;rw[List.range'_succ,IV];by_cases ha:a<y.length
  .have hd:(cs y).drop a=(cs y)[a]'(by rw[bj];exact ha)::(cs y).drop (a+1):=HU (by rw[bj];exact ha);rw[show y.cps.toList.drop a=_ from hd,l1]at q;rw[hd,List.filter_cons];by_cases e:(cs y)[a]'(by rw[bj];exact ha)=c
   .have eb:StrLaws.occBody y #[[c].toArray] y.length (y.length+1) a st=pure (.yield (st.1.push a,a+1)):=by
     unfold StrLaws.occBody;rw[if_pos #[#[#[KK,h1],by rw[l1];lia],by rw[q];simp[e]],l1]
    rw[eb];have:=iy y c m (a+1) (st.1.push a,a+1) KK (GN _) SN;simp only[e,beq_self_eq_true,if_true,GU];refine Eq.trans this ?_;simp only[Array.size_push];lia
   .have eb:StrLaws.occBody y #[[c].toArray] y.length (y.length+1) a st=pure (.yield (st.1,st.2)):=by
     unfold StrLaws.occBody;rw[if_neg];rintro⟨_,z⟩;rw[q]at z;simp at z;exact e z
    rw[eb];have:=iy y c m (a+1) st KK KK KK;rw[if_neg (by simpa using e)];exact this
  .have eb:StrLaws.occBody y #[[c].toArray] y.length (y.length+1) a st=pure (.yield (st.1,st.2)):=by
    unfold StrLaws.occBody;rw[if_neg];rintro⟨⟨_,z⟩,_⟩;rw[l1]at z;lia
   rw[eb];have:=iy y c m (a+1) st KK KK KK;rw[Jn (by rw[bj];lia)];rw[Jn (by rw[bj];lia)]at this;exact this
def Db(y:F_)(c:Nat):(Builtin.Str.occurrences y #[[c].toArray] 0 y.length (y.length+1)).length=((cs y).filter (·==c)).length:=by
 rw[StrLaws.occ_eq,Iy,iy y c _ 0 _ KK (GN _) (GN _)];simp
def vy(f:Nat->Int)(b:∀k,0<=f k/\f k<=6){v:Int}(v0:0<=v)(v6:v<=6):∀n:Nat,(((((GO n).map λk=>aP (f k)).filter (·==aP v)).length:Nat):Int)=cntN f v n
 |0=>rfl
 |n+1=>by
  rw[H9,Hj,List.filter_append,G2,Ij,vy f b v0 v6 n];show _=cntN f v n+_;congr 1;by_cases e:f n=v
  .simp[e]
  .have:¬aP (f n)=aP v:=λz=>e (C6 (b n).1 (b n).2 v0 v6 z);simp[this,e]
def Dc(ok:p.Ok)(x y:Int){v:Int}(v0:0<=v)(v6:v<=6)(n:Nat):(((cs (aK p x y n)).filter (·==aP v)).length:Int)=cntN (λk=>p.show (x+k) y) v n:=by
 rw[cT];exact vy _ (λk=>Pat.show_le ok.wf (by have:=ok.deep;lia) _ _) v0 v6 n
def Dd(p:Pat)(x y:Int){r:Nat}(h:r<=n):Txt.slice (aK p x y n) t9 (be (r:Int))=aK p x y r:=by
 apply gf;rw[slice_cps,gk,cT,show(aK p x y n).cps.toList=_ from cT p x y n,cA];have e1:HT.sIx n 0 t9=0:=rfl;have e2:HT.sIx n n (be (r:Int))=r:=by show(if(r:Int)<0 then((r:Int)+n).toNat else min (r:Int).toNat n)=r;rw[if_neg KK];lia
 rw[e1,e2,IL,Jo,<-J9,Ka,Ik h]
def occC(t:F_)(c:Nat):Int:=((Builtin.Str.occurrences t #[[c].toArray] 0 t.length (t.length+1)).length:Nat)
def vz(ok:p.Ok)(x y:Int){v:Int}(v0:0<=v)(v6:v<=6)(n:Nat):occC (aK p x y n) (aP v)=cntN (λk=>p.show (x+k) y) v n:=by
 unfold occC;rw[Db,Dc ok x y v0 v6]
def bB(p:Pat)(v left top:Int)(m n:Nat):Int:=sumN (λj=>cntN (λk=>p.show (left+k) (top+j)) v m) n
def bC(p:Pat)(left top:Int)(m n:Nat):List Int:=(GO 7).map λ(v:Nat)=>bB p v left top m n
def De:SpD:=λds R=>∃(p:Pat) (x y v m:Int) (w:Nat),ds=[.str (aK p x y w),.str #[[aP v].toArray],.int m]/\p.Ok/\0<=v/\v<=6/\0<w/\w<=720/\0<=m/\m<2^63/\p.Keeps w 0/\R (.int (cntN (λk=>p.show (x+k) y) v m.toNat))
def Pat.Fam.across(F:p.Fam w h s):p.Keeps w 0:=F.keeps (InF.one w h s)
def Pat.Fam.down(F:p.Fam w h s):p.Keeps 0 (w*h):=F.keeps #[-s,w,by rw[Jd,Hd w s];lia,rfl]
def Df(hN:0<N)(k:p.Keeps 0 N)(v left top:Int)(m n:Nat):sumN (λj=>(((n:Int)-1-j)/N+1)*cntN (λk=>p.show (left+k) (top+j)) v m) (min n N)=bB p v left top m n:=by
 refine C9 (g:=λj=>cntN (λk=>p.show (left+k) (top+j)) v m) hN (λj=>?_) n;unfold cntN;refine dA λi _=>?_;have e:p.show (left+i) (top+((j+N:Nat):Int))=p.show (left+i) (top+j):=by
  have:=k (left+i) (top+j);rw[Iu]at this;rw[<-this,Ij,IN]
 simp only[e]
def vA{α:Type}(f g:Nat->α)(h:∀v,v<n->v≠i->g v=f v):((GO n).map f).set i (g i)=(GO n).map g:=by
 apply HZ;intro k;rw[HM];by_cases hk:i=k
 .subst hk;simp only[if_true,GT,Jk];by_cases hi:i<n
  .simp[hi]
  .simp[hi]
 .rw[if_neg hk];by_cases hi:k<n
  .simp[hi,h k hi (Ne.symm hk)]
  .simp[hi]
def Dg:bP ".123456"=(GO 7).map λ(v:Nat)=>D.str #[[aP (v:Int)].toArray]:=by
 unfold bP;rw[show(".123456":F_).cps.toList=[46,49,50,51,52,53,54]by decide+kernel];rfl
def cj(p:Pat)(left top:Int)(m n N k:Nat)(v:Int):Int:=sumN (λj=>(((n:Int)-1-j)/N+1)*cntN (λi=>p.show (left+i) (top+j)) v m) k
variable{top a_:Int}
def Dh{W:Int}(hn:(a_-top+1).toNat=n)(wN:W=(N:Int)):((if top+W<a_+1 then top+W else a_+1)-top).toNat=min n N:=by split<;>lia
def Di{W:Int}(a:-1000000000000<=top/\top<=1000000000000)(c:-1000000000000<=a_/\a_<=1000000000000)(w0:0<W)(w1:W<=720):-(2^62)<=top/\top<2^62/\-(2^62)<=(if top+W<a_+1 then top+W else a_+1)/\(if top+W<a_+1 then top+W else a_+1)<2^62:=by split<;>lia
def Dj(hn:(a_-top+1).toNat=n)(hk:k<min n N):a_-(top+k)=(n:Int)-1-k:=KK
def vB{l r:Int}{m:Nat}(a:-1000000000000<=l/\l<=1000000000000)(b:-1000000000000<=r/\r<=1000000000000)(h:(r-l+1).toNat=m):m<=2000000000001:=KK
def Dk(x:Int):(if 0>x then 0 else x)=(x.toNat:Int):=by split<;>lia
def lz:SpX:=λds R RX=>∃(p:Pat) (d:D) (left top right a_:Int),ds=[d,.int left,.int top,.int right,.int a_]/\bn p d/\p.Ok/\(aU left/\aU top/\aU right/\aU a_->R (.lst ((bC p left top (right-left+1).toNat (a_-top+1).toNat).map D.int)))/\(¬(aU left/\aU top/\aU right/\aU a_)->RX "TooFar" [])
def Dl{l t r:Int}(hd:bn p d)(ok:p.Ok)(n:aU l/\aU t/\aU r/\aU b)(h:R (.lst ((bC p l t (r-l+1).toNat (b-t+1).toNat).map D.int))):ic lz [d,.int l,.int t,.int r,.int b] R:=#[p,d,l,t,r,b,rfl,hd,ok,λ_=>h,λz=>z n]
structure Mv(p q:Pat)(b0 b1 b2 b3:Int):Prop where
 keeps:∀X Y,q.Keeps X Y↔p.Keeps (b0*X+b1*Y) (b2*X+b3*Y)
 leaf:∀l ls,p.leaves=l::ls->∃l' ls',q.leaves=l'::ls'/\l'.w0=l.w0*b0+l.w1*b2/\l'.w1=l.w0*b1+l.w1*b3/\l'.w2=l.w2*b0+l.w3*b2/\l'.w3=l.w2*b1+l.w3*b3
 area:∀w h s,p.Least w h s->∃w' h' s',q.Least w' h' s'/\w'*h'=w*h
structure Side(a w:Int)(A t:Nat):Prop where
 n:aU a
 A4:A<=4000000000000
 t1:t<=1000
 e:aU (a+A*w+t-1)
end My
end
section
open PySem PySem.Spec PyProof.Rows L2
namespace My
open Exc
section
variable {X:Cx}[J:Jm]{a b c e:Tn}{ta tb te:TME}{pos:Tw}
def Dm(hu:X.A.units+1<UM)(ha:ME X a ta)(hb:ME X b tb):ME X (.Compare a [.Eq] [b] pos) (mOp rdEqT ta tb):=Ae (yZ hu) za ha hb (nomark _)
def mTru(te:TME):TMT:=λz M R=>te z M λd M1=>match d with|.bl k=>R k M1|_=>False
abbrev TMO:=SD->MS->(Option Int->MS->Prop)->Prop
def Dn:TMO:=λ_ M R=>R t9 M
def Do(te:TME):TMO:=λz M R=>te z M λx M1=>match x with|.int i=>R (be i) M1|_=>False
def mO(K:Ex)[J:Jm](t:TMO):TO:=λs H Q=>∃F z M,Kept J.B J.F0 F H/\RepZ K J.B F H z s M/\∃R:Option Int->MS->Prop,t z M R/\∀o M' F' H',GrowM M M' F H F' H'->R o M'->RepM K F' H' M'->Q o H'
structure MPO(X:Cx)[Jm](e:Option Tn)(t:TMO):Prop where
 out:PO X e (mO X.K t)
def vC:MPO X t9 Dn:=⟨PO.anti jX λs H Q q=>by
 obtain⟨F,z,M,k,rs,R,h1,h2⟩:=q;exact h2 t9 M F H (GrowM.refl k.fh) h1 rs.rm⟩
def vD(he:ME X e te):MPO X (be e) (Do te):=⟨PO.anti (jY he.out) λs H Q q=>by
 obtain⟨F,z,M,k,rs,R,h1,h2⟩:=q;refine#[F,z,M,k,rs,_,h1,λx u M1 F1 H1 g1 hx rx m1=>?_];split at hx
 .exact#[_,rep_int.mp rx,h2 _ M1 F1 H1 g1 hx m1]
 .exact hx.elim⟩
def mSl(ta:TME)(tl th:TMO):TME:=λz M R=>ta z M λx M1=>tl z M1 λlo M2=>th z M2 λhi M3=>rdSl x lo hi λd=>R d M3
def Dp{lo hi:Option Tn}{tl th:TMO}{p2:Tw}(ha:ME X a ta)(hl:MPO X lo tl)(hu:MPO X hi th):ME X (.Subscript a (.Slice lo hi t9 p2) pos) (mSl ta tl th):=⟨(gN (SlR.or sY (SlR.or gO rj)) ha.out hl.out hu.out).anti λs H Q q=>by
 obtain⟨F,z,M,k,rs,R,h1,h2⟩:=q;refine#[F,z,M,k,rs,_,h1,λx u M1 F1 H1 g1 hx rx m1=>?_];have k1:=k.growM rs.mb g1;have r1:=rs.growM k.bh g1 m1;refine#[F1,z,M1,k1,r1,_,hx,λlo M2 F2 H2 g2 hy m2=>?_];refine#[F2,z,M2,k1.growM r1.mb g2,r1.growM k1.bh g2 m2,_,hy,λhi M3 F3 H3 g3 hw m3=>?_];have g:=g1.trans (g2.trans g3);have Kr:=(rx.mono g2.ff).mono g3.ff;unfold rdSl at hw;split at hw
 .exact .inl #[_,rep_str.mp Kr,GW hw.1 K3,h2 _ _ M3 F3 H3 g hw.2 (rep_str.mpr rfl) m3]
 .obtain⟨l,vs,rfl,hq,rr⟩:=rep_lst.mp Kr;refine .inr (.inl #[l,vs,rfl,SqL.of (g3.fh _ _ hq),λp hp=>?_]);exact h2 _ _ M3 _ _ (g.trans (Grow.new g3.fh hp _).toM) hw (rep_lst.mpr #[p,_,rfl,az,(rr.cut _ _).mono (aN (g3.fh.free hp) _)]) (m3.grow (Grow.new g3.fh hp _))
 .obtain⟨l,vs,rfl,hq,rr⟩:=rep_rol.mp Kr;refine .inr (.inl #[l,vs,rfl,g3.fh.seq hq,λp hp=>?_]);exact h2 _ _ M3 _ _ (g.trans (Grow.new g3.fh hp _).toM) hw (rep_lst.mpr #[p,_,rfl,az,(rr.cut _ _).mono (aN (g3.fh.free hp) _)]) (m3.grow (Grow.new g3.fh hp _))
 .obtain⟨l,vs,rfl,hq,rr⟩:=rep_tup_mp Kr;refine .inr (.inr #[l,vs,rfl,g3.fh.tup hq,by rw[rr.length];exact hw.1,λp hp=>?_]);exact h2 _ _ M3 _ _ (g.trans (Grow.new g3.fh hp _).toM) hw.2 (rep_tupS.mpr #[p,_,rfl,az,(rr.cut _ _).mono (aN (g3.fh.free hp) _)]) (m3.grow (Grow.new g3.fh hp _))
 .exact hw.elim⟩
end
end My
namespace Exc
open PySem PySem.Spec PyProof.Rows PySem.W L2
section
variable {prog:SZ}{w:Tp}{A:Tq}{E:KB->Os->Prop}{s:Os}{K:Ex}{x C dx:KF}{ox:TL}{cd:U0}{name:F_}{v:KB}{vs:Array KB}{mA:F_->Option KB}{ns:List F_}
def Dq{Q:Unit->Os->Prop}(X:K.In s.heap)(hx:s.heap.get? x=be ox)(g9:ox.cls=.ref C)(w_:ox.data=.fields vs)(hd:ox.dict=be dx)(Qx:s.heap.Ns1 dx mA)(hw:PySem.Within mA ns)(hz:ns.length<=1000)(hc:clsIn K C=be cd)(hm:aM cd.mro=true)(hh:cd.hasDict=true)
  (hs:findIn K (.ref C) "__setattr__"=be (be (.builtin "object.__setattr__"))) (hf:findIn K (.ref C) name=be t9)
  (h:∀h',h'.Ns1 dx (λy=>if y=name then be v else mA y)->Heap.SameBut dx s.heap h'->∀tk,Q () {s with heap:=h',toks:=tk}):
  To (SB prog w) A (Vq (.ref x) name v) Q E s:=by
 have hn:notCls ox=true:=by unfold notCls;rw[w_]
 obtain⟨od,es,ep,OJ,KN⟩:=id Qx;have I:InstAt s.heap x ox C (be od):=#[hx,g9,hn,by rw[hd];exact OJ];refine set_plain X I hs ?_;have SF:=PySem.F.store_object;have ne:cd.mro.isEmpty=false:=Ni
 have sub:Looks (SB prog w) s.heap (UE (.ref x) (.type "object")) true:=I.type.andThen (looks_mroIn X SO);refine Ug SF.slot.plain SF.entry (@check_slot (SB prog w) _ _ _ "object.__setattr__" "object" "__setattr__" (.ref x) [.str name s.toks,v] [] _ SF.kind SF.split sub (SF.args (.ref x) (.str name s.toks) v) ?_);have K8:Looks (SB prog w) s.heap (mroOf (.ref C)) cd.mro:=(looks_clsIn X hc).andThen .now;rw[osa_eq,refuse_eq];refine KM (KM (I.type.here (s:={s with toks:=s.toks+1}) (KM (K8.here (s:={s with toks:=s.toks+1}) ?_))));rw[ki _ hm];refine P3 (KM (I.type.here (s:={s with toks:=s.toks+1}) (KM ((looks_findIn X hf).here (s:={s with toks:=s.toks+1}) (KM (Looks.now.here (s:={s with toks:=s.toks+1}) ?_))))));obtain⟨oc,Qf,Qg,osl⟩:=ox;dsimp only at g9 hd w_;subst g9 hd w_;refine KM (P3 (KM (KM (UQ hx (KM ((looks_clsIn X hc).here (s:={s with toks:=s.toks+1}) ?_))))));rw[hh];rw[if_neg K3];refine P3 ?_;show To _ _ (Builtin.ObjectAttr.storeInDict dx (.str name s.toks) name v) _ _ _;unfold Builtin.ObjectAttr.storeInDict Builtin.ObjectAttr.newKeyGuard;refine KM (P3 (KM (U1 Qx λh' g8 hs=>?_)));obtain⟨oD,P7,P8,L4,L5,L6⟩:=g8.count (PySem.Within.cons name v hw);refine KM (UI L4 (by rw[L5];exact UK (GW L6 (by rw[GU,Ur];lia))) ?_);exact P3 (h h' g8 hs _)
end
end Exc
namespace My
open Exc
section
variable {X:Cx}[J:Jx]{x f:F_}{e:Tn}{te:TD}{pos b_ p:Tw}{rest:List SL}{tr:TID}
def vE{β:Type}{y:F_}{z:β}:∀{ws:List (F_×β)},ws.lookup y=be z->y∈ws.map (·.1)
 |[],h=>nomatch h
 |(g,d)::ws,h=>by
  rw[G3]at h;split at h
  .rename_i hg;rw[G7,show y=g by simpa using hg];exact GS
  .exact GQ _ (vE h)
def Dr(f:F_)(te:TD)(tr:TID):TID:=λz fs R=>(fs≠[]/\fs.length<=100)/\te z λd=>tr z ((f,d)::fs) R
def Ds{sx:F_}{ps:Tw}(hA:∃C cd,ErrA X.K x C cd)(hf:∀C,nsIn X.K Pi x=be (be (.ref C))->GR X.K (.ref C) f=be t9)(he:WDE X e te)(hr:WDX X x rest tr)(hN:autoParam (X.N[0]?=be sx) zA0)(hv:autoParam (Vis X.env.scope sx) zA5)(hd:autoParam (zND sx) zA1)
  (gV:autoParam (zNC sx) zA1) (hs:autoParam (TJ e (be (.Attribute (.Name sx ps) f b_)) pos.line X.env=pure false) zA0):WDX X x (.Assign [.Attribute (.Name sx ps) f b_] e pos::rest) (Dr f te tr):=⟨by
 have he:=he.out;have hr:=hr.out;obtain⟨C,cd,er⟩:=hA;have Lf:=hf C er.ns;have step:PS X (.Assign [.Attribute (.Name sx ps) f b_] e pos) (λE σ H=>∃e b ws,σ[0]?=be (be (.ref e))/\
   lE X.K te σ H (λv H1=>H1 e=be (XN e C (be b))/\H1 b=be (.xd ws)/\ws.length<=100/\E.nx σ (upd H1 b (.xd ((f,v)::ws))))):=by
  intro pins s σ H D I h;obtain⟨ea,b,ws,h0,h⟩:=h;refine T9 (thn (he pins s σ H _ I h) λu s1 ⟨y,H1,I1,ry,r_,hb,hl,Le⟩=>thn (cK (i:=0) hN hv hd gV pins s1 σ H1 (λv H'=>v=.ref ea/\H'=H1) I1 #[.ref ea,h0,rfl,rfl]) λov s2 hh=>?_) hs;obtain⟨v0,H2,I2,r0,e1,e2⟩:=hh;subst e1 e2;obtain rfl:ov=Value.ref ea:=r0;obtain⟨t0,sl,j3⟩:=XN.get I2.hok r_;obtain⟨mA,hns,t_⟩:=(show ObjOk X.prog X.w H2 s2.heap b (.xd ws)from I2.hok b _ hb);have hw:PySem.Within mA (ws.map (·.1)):=λy' hy=>by
   have:=t_ y';cases hq:ws.lookup y' with
   |none=>
    rw[hq]at this;cases hm:mA y' with
    |none=>exact absurd hm hy
    |some z=>rw[hm]at this;exact this.elim
   |some z=>exact vE hq
  refine Dq (K:=X.K) (C:=C) (cd:=cd) I2.kIn j3 rfl rfl rfl hns hw (by rw[GT];lia) er.cl er.mro er.hd er.sa Lf λh' g1 g2 tk=>?_;obtain⟨od,es,ep,OJ,S5⟩:=id g1;have OK:∀c,H2 c=t9->c≠b:=λc q z=>by rw[z,hb]at q;cases q
  have x9:∀c o,H2 c=be o->(∀fs,o≠.xd fs)->upd H2 b (.xd ((f,y)::ws)) c=be o:=λc o q n=>by
   have n1:c≠b:=λz=>by rw[z,hb]at q;cases q;exact n _ rfl
   rw[aq n1];exact q
  refine#[σ,_,?_,Le];refine I2.un (h':=h') (t':=tk) #[λc o q n _ _=>(g2.2 c (OK c n)).trans q,λc o q n _ _=>#[o.slots,(g2.2 c (OK c n)).trans q],λc o q n _=>?_,λc o q _=>?_,λc xs q=>x9 c _ q (λφ z=>nomatch z),λc o u q=>x9 c _ q (λφ z=>nomatch z),λc ps q=>#[[].toArray,by rw[x9 c _ q (λφ z=>nomatch z)];simp]] λa o q=>?_
  .rw[aq (OK c n)];exact n
  .by_cases hc:c=b
   .rw[hc];exact#[od,OJ]
   .exact#[o,(g2.2 c hc).trans q]
  .by_cases hc:a=b
   .subst hc;rw[az]at q;cases q;refine#[_,g1,λg=>?_];rw[G3];by_cases hg:g=f
    .subst hg;simp;exact ry
    .have:(g==f)=false:=by simpa using hg
     rw[this,if_neg hg];exact t_ g
   .rw[aq hc]at q;refine(I2.hok a o q).stay (λc u g5 r=>?_) (λc r=>x9 c _ r (λφ z=>nomatch z)) λc xs r=>x9 c _ r (λφ z=>nomatch z);refine(g2.2 c λz=>?_).trans r;rcases g5 with e1|e1
    .exact hc (e1 ▸ z)
    .rw[z,hb]at e1;cases e1
 refine(dW step hr).anti λE s H q=>?_;obtain⟨C',a,od,ws,F,z,fs,hn,h0,e8,hB,i8,k,rs,rf,e_,R,⟨⟨j8,hl⟩,hR⟩,kk⟩:=q;rw[er.ns]at hn;cases hn;rcases e_ with⟨_,rfl⟩|⟨b,rfl,h1,h2,h3,h4,h5⟩
 .cases fs with
  |nil=>exact absurd rfl j8
  |cons c fs=>obtain⟨g,d⟩:=c;obtain⟨v,r,h,_⟩:=repf_cons.mp rf;cases h
 refine#[a,b,ws,h0,_,F,z,k,rs,_,hR,λd v F1 H1 g hx rv=>#[g.hh a _ e8,g.hh b _ h1,?_,?_]]
 .have:∀{fs:List (F_×D)} {ws:List (F_×V)},RepF X.K F fs ws->ws.length=fs.length:=λ{fs}=>by
   induction fs with
   |nil=>intro ws r;rw[repf_nil.mp r];rfl
   |cons c fs ih=>obtain⟨g,d⟩:=c;intro ws r;obtain⟨v,r',rfl,_,h⟩:=repf_cons.mp r;rw[GU,GU,ih h]
  rw[this rf];exact hl
 .have RZ:=g.hh b _ h1;have Ld:F1 b=none:=g.out b h3 (by rw[h1];exact λz=>nomatch z);have Ko:F1 a=none:=g.out a i8 (by rw[e8];exact λz=>nomatch z);have k1:=k.grow g;have m9:=rs.grow g;have same:∀{G:Hp},G b=t9->Same G H1->Same G (upd H1 b (.xd ((f,v)::ws))):=λ{G} gb gs c o q=>by
   have n2:c≠b:=λz=>by rw[z,gb]at q;cases q
   rw[aq n2];exact gs c o q
  refine#[C,a,be b,(f,v)::ws,F1,z,(f,d)::fs,er.ns,h0,by rw[aq (Ne.symm h4)];exact g.hh a _ e8,hB,Ko,#[same h2 k1.bh,same Ld k1.fh,k1.f0,k1.out,k1.eb,k1.jf,k1.jo],?_,repf_cons.mpr #[v,ws,rfl,rv,RepF.mono g.ff fs ws rf],.inr #[b,rfl,az,h2,Ld,h4,λz=>nomatch z],R,hx,kk];refine#[m9.len,m9.val,λi ds e'=>?_,m9.apart];obtain⟨c,vs,q1,q2,q⟩:=m9.own i ds e';have n2:c≠b:=λz=>by rw[z,RZ]at q2;cases q2
  exact#[c,vs,q1,by rw[aq n2];exact q2,q]⟩
end
def subM(N M:MS):Prop:=(∀e,e∈N->e∈M)/\(au N).Nodup
variable{M:MS}
def subM.keys{N:MS}(s:subM N M){a:KF}(h:a∈au N):a∈au M:=by
 obtain⟨⟨b,o⟩,h1,rfl⟩:=Hc.mp h;exact bW (s.1 _ h1)
variable{H:Hp}
def RepM.sub{K:Ex}{F:Hp}{N:MS}(r:RepM K F H M)(s:subM N M):RepM K F H N:=#[s.2,λa o h=>r.ok a o (s.1 _ h),λa h=>r.fr a (s.keys h)]
def GrowM.sub{F F' H':Hp}{N M':MS}(g:GrowM M M' F H F' H')(s:subM N M'):GrowM M N F H F' H':=#[g.ff,g.fh,g.hh,g.out,λb h=>g.ks b (s.keys h)]
def gu(S:SpM):SpM:=λds M R RX=>∃(R0:D->MS->Prop) (Ks:XDM),S ds M R0 Ks/\R=(λd M'=>∃N,subM N M'/\R0 d N)/\RX=λx fs M'=>∃N,subM N M'/\Ks x fs N
def vF{K:Ex}{S:SpM}{vs:List V}{Q:VK}{E:XK}(h:lSpM K S vs H Q E):lSpM K (gu S) vs H Q E:=by
 obtain⟨F,ds,M,fh,rs,rm,R,RX,hS,q,qx⟩:=h;refine#[F,ds,M,fh,rs,rm,_,_,#[R,RX,hS,rfl,rfl],λd v M' F' H' g hd rd m'=>?_,λx fs C od M' F' H' g hR er m'=>?_]
 .obtain⟨N,s,hd⟩:=hd;exact q d v N F' H' (g.sub s) hd rd (m'.sub s)
 .obtain⟨N,s,hR⟩:=hR;exact qx x fs C od N F' H' (g.sub s) hR er (m'.sub s)
section
variable {P:SZ}{w:Tp}{K:Ex}{mg:F_->Option KB}{base:Heap}{n:Nat}{x m:F_}{ps:List F_}{S:SpM}
def CalMth.drop(C:CalMth P w K mg base n x m ps (lSpM K (gu S))):CalMth P w K mg base n x m ps (lSpM K S):=C.imp λ_ _ _ _ h=>vF h
def CalMth.lendD{S:SpD}(C:CalMth P w K mg base n x m ps (lSp K S)):CalMth P w K mg base n x m ps (lSpM K (My.lend λds R _=>S ds R)):=C.imp λ_ _ _ _ h=>by
 obtain⟨F,ds,fh,rs,R,RX,hS,q,_⟩:=A8 h;exact#[F,ds,fh,rs,R,hS,q]
def Txm.okDW{qual:F_}{st:SL}{N:List F_}{k:Nat}{S:SpD}(T:Txm K x m qual st ps)(F:FnScope N ps (ag st))(len:∀ds R,S ds R->ds.length=ps.length)
  (a8:∀(f:KF) (cdv:KB) (A:Tq) (outer:List Um) (s:Os) (H:Hp) (E:XK) (J:Jx),Room k (A.deeper (TB qual (ag st) s.heap.objs.size f cdv))->
   ∃t,WDSs (cxOf (CX1 P w) P w K mg base N qual (ag st) f cdv A outer s H E).nox (aL st) t/\∀ds R,S ds R->t {nx:=λ_=>R .non,rt:=R} (startD N ds)):CalMth P w K mg base (k+1) x m ps (lSp K S):=by
 obtain⟨C,f,fd,h1,h2,h3,T,hb⟩:=T;exact#[C,f,fd,h1,h2,h3,L2.Fun.okDW T F len (a8 f),hb]
end
def iz(P:SZ)(w:Tp)(K:Ex)(mg:F_->Option KB)(base:Heap)(n:Nat)(x m:F_)(ps:List F_)(dd:List D)(sp:Sp):Prop:=
 ∃C f fd f_ o_,nsIn K Pi x=be (be (.ref C))/\Cls K C/\Meth K C m f/\FnOk P w K mg base (CX1 P w) n f fd ps sp/\Binds K fd ps o_/\Vals f_ o_/\∀F,Reps K F dd f_
section
variable {X:Cx}{k:Nat}{f:KF}{fd:Tu}{ps:List F_}{sp:Sp}{E:XK}
def Dt{pins:List (KF×TL)}{σ:L2.St}{H:Hp}{s:Os}{Q:VK}{us o_:List KB}{vs f_:List V}(F:FnOk X.prog X.w X.K X.mg X.base (CX1 X.prog X.w) k f fd ps sp)(hr:Room k X.A)(hb:Binds X.K fd ps o_)(hd:Vals f_ o_)
  (hx:∀e s',CX1 X.prog X.w X.stack H s E e s'->X.xe e s') (I:Inv X pins σ H s) (r:Vals vs us) (h:sp (vs++f_) H Q E):To (SB X.prog X.w) X.A (call (.ref f) us) (EP X pins σ Q) X.xe s:=by
 have r2:=r.append hd;have hl:(us++o_).length=ps.length:=by rw[<-L2.Vals.length r2];exact F.len _ _ _ _ h
 have g5:=hb s us I.kIn hl;refine T_ (T8 (F.run X.A X.stack s H #[us,[]] (us++o_) (vs++f_) Q E hr I.env0 g5 r2 h) λr s' hq=>?_);cases r with
 |error e=>exact hx e s' hq
 |ok fl=>
  cases fl with
  |ret u=>exact I.after hq
  |next=>exact False.elim hq
  |brk=>exact False.elim hq
  |cont=>exact False.elim hq
end
section
variable {X:Cx}[J:Jm]{a b c e o:Tn}{ta tb te:TME}{pos p apos cpos:Tw}{n m:Nat}{ps:List F_}{S:SpM}{x:F_}{es:List Tn}{t:TMA}
def Du(x m:F_)(dd:List D)(S:SpM)(to:TME):TME:=λz M R=>to z M λd M1=>∃fs,df M1 d x fs/\fs.lookup m=t9/\S (d::dd) M1 R λx fs M'=>J.RM z M' x fs
def Dv{nm:F_}{dd:List D}{pl:U9 Bool}(C:iz X.prog X.w X.K X.mg X.base n x nm ps dd (lSpM X.K S))(hx:XOkM X)(hr:Room m X.A)(ho:ME X o te)(d9:autoParam (X.ex=[]) zA0)(hn:autoParam (n<=m) zA1)
  (ht:Tv (.Call (.Attribute o nm apos) [] [] pos) X.env=(do
   let ov <-Tv o X.env
   Ul apos.atName
   let (f,first) <-T1 [ov] (UB ov nm pl)
   Vd pos f first (Ua pos (Tr [] X.env)) (Uv pos (T7 [] X.env))):=by rfl):
  ME X (.Call (.Attribute o nm apos) [] [] pos) (Du x nm dd S te):=by
 refine#[λpins s σ H Q I h=>?_];obtain⟨Fr,z,M,k,rs,R,h1,h2⟩:=h;refine methodCall_KW (pl:=pl) (thn (ho.out pins s σ H (λv H1=>∃d M1 F1,GrowM M M1 Fr H F1 H1/\Rep X.K F1 d v/\RepM X.K F1 H1 M1/\∃fs,df M1 d x fs/\fs.lookup nm=t9/\S (d::dd) M1 R λx fs M'=>J.RM z M' x fs) I #[Fr,z,M,k,rs,_,h1,λd v M1 F1 H1 g1 hd rd m1=>#[d,M1,F1,g1,rd,m1,hd]]) λu s1 hh=>?_) ht;obtain⟨v,H1,I1,rv,d,M1,F1,g1,rd,m1,fs,hi,hl,hq⟩:=hh;obtain⟨C',f,fd,f_,o_,hns,g9,KL,F,hb,hd,R1⟩:=C;obtain⟨a,C2,dx,ws,rfl,m_,hH,rf⟩:=il g1.fh m1 rd hi;rw[hns]at m_;cases m_;obtain rfl:u=Value.ref a:=rv;refine jU I1 hH g9 KL (rf.none hl) ?_;refine callWith_K0 (first:=[.ref a]) I1.kIn KL.kp (Dt (E:=EX X z σ) (us:=[.ref a]) (vs:=[.ref a]) F (hr.mono hn) hb hd (λe s' hq=>hx.out d9 I1 hq) I1 (.cons rfl .nil) ?_);exact im k rs g1 m1 (reps_cons.mpr #[_,_,rfl,rd,R1 F1]) hq h2
def Dw(ta tb:TME):TME:=λz M R=>ta z M λx M1=>tb z M1 λy M2=>match x,y with|.ptr a,.ptr b=>∃ds es,mget M2 a=be (.lst ds)/\mget M2 b=be (.lst es)/\ds.length+es.length<=100000/\∀p,p∉au M2->R (.ptr p) ((p,.lst (ds++es))::M2)|_,_=>False
def Dx(ha:ME X a ta)(hb:ME X b tb):ME X (.BinOp a .Add b pos) (Dw ta tb):=⟨(jP rC ha.out hb.out).anti λs H Q h=>by
 obtain⟨F,z,M,k,rs,R,h1,h2⟩:=h;refine#[F,z,M,k,rs,_,h1,λx u M1 F1 H1 g1 hx rx m1=>?_];refine#[F1,z,M1,k.growM rs.mb g1,rs.growM k.bh g1 m1,_,hx,λy v M2 F2 H2 g2 hy ry m2=>?_];split at hy
 .rename_i p q;obtain⟨ds,es,hm,K8,hl,hR⟩:=hy;obtain⟨us,hH,ru⟩:=m2.ok _ _ (bw hm);obtain⟨vs,R3,rv⟩:=m2.ok _ _ (bw K8);refine#[p,q,us,vs,rep_ptr.mp rx,rep_ptr.mp ry,hH,R3,by rw[ru.length,rv.length];exact GW hl K3,λr hr=>?_];exact h2 _ _ _ F2 _ ((g1.trans g2).trans (GrowM.new g2.fh hr)) (hR r λz=>m2.here z hr) (rep_ptr.mpr rfl) (m2.new g2.fh hr #[_,az,ru.append rv])
 .exact hy.elim⟩
def mSlP(ta:TME)(tl th:TMO):TME:=λz M R=>ta z M λx M1=>tl z M1 λlo M2=>th z M2 λhi M3=>match x with|.ptr a=>∃ds,mget M3 a=be (.lst ds)/\∀p,p∉au M3->R (.ptr p) ((p,.lst (cutD ds lo hi))::M3)|_=>False
def Dy{lo hi:Option Tn}{tl th:TMO}{p2:Tw}(ha:ME X a ta)(hl:MPO X lo tl)(hu:MPO X hi th):ME X (.Subscript a (.Slice lo hi t9 p2) pos) (mSlP ta tl th):=⟨(gN gO ha.out hl.out hu.out).anti λs H Q q=>by
 obtain⟨F,z,M,k,rs,R,h1,h2⟩:=q;refine#[F,z,M,k,rs,_,h1,λx u M1 F1 H1 g1 hx rx m1=>?_];have k1:=k.growM rs.mb g1;have r1:=rs.growM k.bh g1 m1;refine#[F1,z,M1,k1,r1,_,hx,λlo M2 F2 H2 g2 hy m2=>?_];refine#[F2,z,M2,k1.growM r1.mb g2,r1.growM k1.bh g2 m2,_,hy,λhi M3 F3 H3 g3 hw m3=>?_];have g:=g1.trans (g2.trans g3);split at hw
 .rename_i l;obtain⟨ds,hm,hR⟩:=hw;obtain⟨us,hH,ru⟩:=m3.ok _ _ (bw hm);refine#[l,us,rep_ptr.mp rx,SqL.of hH,λr hr=>?_];exact h2 _ _ _ F3 _ (g.trans (GrowM.new g3.fh hr)) (hR r λz=>m3.here z hr) (rep_ptr.mpr rfl) (m3.new g3.fh hr #[_,az,ru.cut _ _])
 .exact hw.elim⟩
end
abbrev SiM:=KF->List D->(MS->Prop)->Prop
def lSiM(K:Ex)(C:KF)(S:SiM):Sp:=λvs H Q _=>∃a dx us H1 F ds,vs=.ref a::us/\H=upd (upd H1 dx (.own a)) a (.ins C dx [])/\H1 a=t9/\H1 dx=t9/\dx≠a/\Same F H1/\Reps K F ds us/\
 ∃R:MS->Prop,S a ds R/\∀M' F' H',GrowM [] M' F H1 F' H'->R M'->RepM K F' H' M'->Q .non H'
def CalN(P:SZ)(w:Tp)(K:Ex)(mg:F_->Option KB)(base:Heap)(n:Nat)(x:F_)(ps:List F_)(S:SiM):Prop:=
 ∃C f fd,nsIn K Pi x=be (be (.ref C))/\mg x=be (.ref C)/\Mk K C f/\FnOk P w K mg base (Exc.CX1 P w) n f fd ps (lSiM K C S)/\Binds K fd ps []
section
variable {P:SZ}{w:Tp}{K:Ex}{mg:F_->Option KB}{base:Heap}
open Classical in
def Txi.okIN{x qual:F_}{st:SL}{N:List F_}{p0:F_}{ps:List F_}{k:Nat}{S:SiM}(T:Txi K mg x qual st (p0::ps))(F:FnScope N (p0::ps) (ag st))(len:∀a ds R,S a ds R->ds.length=ps.length)
  (a8:∀(f:KF) (cdv:KB) (A:Tq) (outer:List Um) (s:Os) (H:Hp) (E:XK) (J:Jm),Room k (A.deeper (TB qual (ag st) s.heap.objs.size f cdv))->XOkM (cxOf (CX1 P w) P w K mg base N qual (ag st) f cdv A outer s H E).nox->
   ∃t,MSs (cxOf (CX1 P w) P w K mg base N qual (ag st) f cdv A outer s H E).nox (aL st) t/\∀a ds R,(∀z M x fs,¬J.RM z M x fs)->S a ds R->t {nx:=λ_ M'=>R M',rt:=λ_ _=>False} (startD N (.ptr a::ds)) [(a,.ins x [])]):CalN P w K mg base (k+1) x (p0::ps) S:=by
 obtain⟨C,f,fd,hns,j9,mk,T,hb⟩:=T;refine#[C,f,fd,hns,j9,mk,Fun.okC T F (λvs H Q E h=>?_) (λcdv A outer s H vs Q E hr h=>?_),hb]
 .obtain⟨a,dx,us,H1,F,ds,rfl,_,_,_,_,_,rs,R,h,_⟩:=h;rw[GU,GU,rs.length,len a ds R h]
 .obtain⟨a,dx,us,H1,F1,ds,rfl,rfl,ha,o7,j8,fh,rs,R,h,q⟩:=h
  let H:Hp:=upd (upd H1 dx (.own a)) a (.ins C dx [])
  let B:Hp:=λb=>if b=a then t9 else H b
  have Mu:B a=none:=if_pos rfl;have hB:∀{b:KF},b≠a->B b=H b:=λ{b} h=>if_neg h;have m6:∀{b:KF} {o:HO},H1 b=be o->b≠a/\H b=be o:=λ{b o} e=>by
   have n1:b≠a:=bG e ha;exact#[n1,by show upd _ _ _ b=_;rw[aq n1,aq (bG e o7)];exact e]
  letI:Jm:={B:=B,F0:=F1,RX:=λ_ _ _=>False,RM:=λ_ _ _ _=>False}
  have hx:XOkM (cxOf (CX1 P w) P w K mg base N qual (ag st) f cdv A outer s H E).nox:=λσ z M' F' H' s' e C od y fs I kk rr hR er _=>hR.elim;obtain⟨t,ht,hq⟩:=a8 f cdv A outer s H E inferInstance hr hx;have Fa:F1 a=none:=fh.free ha;have k0:Kept B F1 F1 H:=⟨λb o e=>by
   by_cases n:b=a
   .rw[n,Mu]at e;cases e
   .rw[hB n]at e;exact e,λb o e=>(m6 (fh b o e)).2,Same.refl F1,λ_ h _=>h,rfl,Same.refl F1,λ_ h _=>h⟩
  have y9:Reps K F1 (.ptr a::ds) (.ref a::us):=reps_cons.mpr #[_,_,rfl,rep_ptr.mpr rfl,rs];have OC:RepM K F1 H [(a,.ins x [])]:=⟨by simp[au],λb o hb=>by
   have e:=GM.mp hb;cases e;exact#[C,dx,[],hns,az,repf_nil.mpr rfl],λb hb=>by
   have e:b=a:=by simpa[au]using hb
   rw[e];exact Fa⟩
  have r0:RepZ K B F1 H (startD N (.ptr a::ds)) (L2.start N (.ref a::us)) [(a,.ins x [])]:=⟨dF y9,kP y9,OC,λb hb=>by
   have e:b=a:=by simpa[au]using hb
   rw[e];exact Mu⟩
  refine#[_,ht.out.nox,F1,F1,_,_,k0,r0,_,hq a ds R (λ_ _ _ _ z=>z) h,#[λz' s' M' F' H' kk hn r=>?_,λd v M' F' H' kk hd rd Ow mb=>hd.elim,λ_ _ _ _ _ _ h _=>h.elim,λ_ _ _ _ _ _ h _=>h.elim]];refine q M' F' H' ⟨kk.f0,kk.fh,λb o _ e=>kk.bh b o (by show B b=be o;rw[hB (m6 e).1];exact(m6 e).2),λb _ h1 h2=>kk.out b h1 (by
   show B b≠t9;cases e:H1 b with
   |none=>exact absurd e h2
   |some o=>rw[hB (m6 e).1,(m6 e).2];exact λz=>nomatch z),λb hb=>?_⟩ hn r.rm
  cases e:H1 b with
  |none=>exact .inr rfl
  |some o=>
   have h0:B b=none:=r.mb b hb;rw[hB (m6 e).1,(m6 e).2]at h0;cases h0
end
section
variable {X:Cx}[J:Jm]{e:Tn}{es:List Tn}{pos p:Tw}{n m:Nat}{ps:List F_}{S:SiM}{x:F_}{t:TMA}
def Dz(S:SiM)(t:TMA):TME:=λz M R=>t z M λds M1=>∀a,a∉au M1->S a ds λM'=>R (.ptr a) (M'++M1)
def DB(M:CalN X.prog X.w X.K X.mg X.base n x ps S)(hr:Room m X.A)(ha:MA X (e::es) t)(hg:autoParam (Gl X x) zA0)(hn:autoParam (n+1<=m) zA1)(d5:autoParam (zND x) zA1)
  (he:autoParam (zSE X e es) zA0) (c5:autoParam (zPL X pos es) zA0):
  ME X (.Call (.Name x p) (e::es) [] pos) (Dz S t):=by
 obtain⟨C,f,fd,hns,j9,mk,F,hb⟩:=M;refine#[(gL mk F (hr.mono hn) hg j9 hb .nil eB ha.out d5 he c5).anti λs H Q q=>?_];obtain⟨F,z,M,k,rs,R,h1,h2⟩:=q;refine#[F,z,M,k,rs,_,h1,λds vs M1 F1 H1 g1 hx rx m1=>?_];intro a dx ha o7 j8;have na:a∉au M1:=λz=>m1.here z ha;refine#[a,dx,vs,H1,F1,ds,by rw[Hl],rfl,ha,o7,j8,g1.fh,rx,_,hx a na,λM' F' H' g hR m'=>#[rfl,?_]];have hh:∀b o,H1 b=be o->H' b=be o:=λb o e=>g.hh b o (λz=>nomatch z) e;have nk:∀b,b∈au M'->H1 b=none:=λb hb=>(g.ks b hb).elim (λz=>nomatch z) id;refine h2 (.ptr a) (.ref a) _ F' H' (g1.trans #[g.ff,g.fh,λb o _ e=>hh b o e,λb _=>g.out b (λz=>nomatch z),λb hb=>?_]) hR (rep_ptr.mpr rfl) #[?_,λb o hb=>?_,λb hb=>?_]
 .rcases keys_app.mp hb with z|z
  .exact .inr (nk b z)
  .exact .inl z
 .unfold au;rw[Hj];exact Ib.mpr #[m'.nd,m1.nd,λb h1 c h2 e=>m1.here (e ▸ h2) (nk b h1)]
 .rcases Hi.mp hb with z|z
  .exact m'.ok b o z
  .exact(m1.ok b o z).mono g.ff λo e=>hh b o e
 .rcases keys_app.mp hb with z|z
  .exact m'.fr b z
  .exact g.out b (λz=>nomatch z) (m1.fr b z) (m1.here z)
end
section
variable {K:Ex}{x m q:F_}{st:SL}{ps:List F_}
def MdIn(K:Ex)(x m q:F_)(st:SL)(i:Int):Prop:=∃C f fd T,NsC K x C/\Meth K C m f/\FunG K (.ref T) m q st f fd/\∃tc td n ts t,K.lookup T=be #[tc,td,.seq [.int i t].toArray n,ts]
def mdIn_mk{C f T:KF}{i:Int}{oc tc:KB}{od an td:Option KF}{sl ts:Array (Option KB)}{n:Nat}{t:Vv}{kV dc pm cd ct:KB}(a:nsIn K Pi x=be (be (.ref C)))(b:GR K (.ref C) m=be (be (.ref f)))(j:isFn K (.ref f)=true)(l:K.lookup f=be #[oc,od,.func (fnOf m q (bv st) (aL st) (ag st) (.ref T) kV dc pm an cd ct),sl])(c:codeIn K cd q=true)(k:keepIn K (.ref f)=true)
  (d:K.lookup T=be #[tc,td,.seq [.int i t].toArray n,ts]):MdIn K x m q st i:=#[C,f,_,T,a,#[b,j,k],#[#[_,_,_,_,_,_,_,_,_,rfl,l,c],k],_,_,_,_,_,d]
def DC(m q:F_)(st:SL)(x0 x1:F_):Prop:=∀(s:Os) (T:KF) (o:TL) (its:Array KB) (n:Nat) (v:KB) (kV doc pm:KB) (an:Option KF) (cdv ct u0 u1:KB),s.heap.get? T=be o->o.data=.seq [v].toArray n->
 Ux s (fnOf m q (bv st) (aL st) (ag st) (.ref T) kV doc pm an cdv ct) #[[u0,u1],[]] [(x0,u0),(x1,u1)]/\Ux s (fnOf m q (bv st) (aL st) (ag st) (.ref T) kV doc pm an cdv ct) #[[u0],[]] [(x0,u0),(x1,v)]
def Txd(K:Ex)(x m qual:F_)(st:SL)(ps:List F_)(dd:List D):Prop:=
 ∃C f fd dV f_ o_,nsIn K Pi x=be (be (.ref C))/\Cls K C/\Meth K C m f/\FunG K dV m qual st f fd/\Binds K fd ps []/\Binds K fd ps o_/\Vals f_ o_/\∀F,Reps K F dd f_
def MdIn.txd{i:Int}{x0 x1:F_}(T:MdIn K x m q st i)(c:ClIn K x)(b:DC m q st x0 x1):Txd K x m q st [x0,x1] [.int i]:=by
 obtain⟨C,k⟩:=c;obtain⟨D,f,fd,T,a,mt,F,tc,td,n,ts,t,hT⟩:=T;cases NsC.uniq k.ns a;have F':=F;obtain⟨oc,od,kV,doc,pm,an,cdv,ct,osl,rfl,lk,gV⟩:=F'.ex;refine#[C,f,_,_,[.int i],[.int i t],a,k.cl,mt,F,λs us hK hl=>?_,λs us hK hl=>?_,.cons #[t,rfl] .nil,λF=>reps_cons.mpr #[_,_,rfl,rep_int.mpr rfl,reps_nil.mpr rfl]]
 .rw[Hl]at hl ⊢;obtain⟨u0,t0,rfl,h0⟩:=bz hl;obtain⟨u1,t1,rfl,h1⟩:=bz h0;cases len_0 h1;exact(b s T _ [].toArray n (.int i t) kV doc pm an cdv ct u0 u1 (hK _ _ hT) rfl).1
 .rw[G2]at hl;have NX:us.length=[x0].length:=Nat.succ.inj hl;obtain⟨u0,t0,rfl,h0⟩:=bz NX;cases len_0 h0;exact(b s T _ [].toArray n (.int i t) kV doc pm an cdv ct u0 u0 (hK _ _ hT) rfl).2
end
section
variable {P:SZ}{w:Tp}{K:Ex}{mg:F_->Option KB}{base:Heap}
variable{N ps:List F_}{dd:List My.D}
def Txd.okM{x m qual:F_}{st:SL}{k:Nat}{S:SpM}(T:Txd K x m qual st ps dd)(F:FnScope N ps (ag st))(len:∀ds M R RX,S ds M R RX->ds.length=ps.length)
  (a8:∀(f:KF) (cdv:KB) (A:Tq) (outer:List Um) (s:Os) (H:Hp) (E:XK) (J:Jm),Room k (A.deeper (TB qual (ag st) s.heap.objs.size f cdv))->XOkM (cxOf (CX1 P w) P w K mg base N qual (ag st) f cdv A outer s H E)->
   ∃t,MSs (cxOf (CX1 P w) P w K mg base N qual (ag st) f cdv A outer s H E) (aL st) t/\∀ds M R RX,(∀z,J.RM z=λM' x fs=>RX x fs M')->S ds M R RX->t {nx:=λ_ M'=>R .non M',rt:=R} (startD N ds) M):CalMth P w K mg base (k+1) x m ps (lSpM K S)/\iz P w K mg base (k+1) x m ps dd (lSpM K S):=by
 obtain⟨C,f,fd,dV,f_,o_,h1,h2,h3,T,hb,g5,hv,hd⟩:=T;have ok:=Fun.okM (P:=P) (w:=w) (mg:=mg) (base:=base) T F len λcdv A outer s H E J hr hx=>a8 f cdv A outer s H E J hr hx;exact#[#[C,f,fd,h1,h2,h3,ok,hb],C,f,fd,f_,o_,h1,h2,h3,ok,g5,hv,hd]
def Txd.okMd{x m qual:F_}{st:SL}{k:Nat}{S:SpM}(T:Txd K x m qual st ps dd)(F:FnScope N ps (ag st))(len:∀ds M R RX,gu S ds M R RX->ds.length=ps.length)
  (a8:∀(f:KF) (cdv:KB) (A:Tq) (outer:List Um) (s:Os) (H:Hp) (E:XK) (J:Jm),Room k (A.deeper (TB qual (ag st) s.heap.objs.size f cdv))->XOkM (cxOf (CX1 P w) P w K mg base N qual (ag st) f cdv A outer s H E)->
   ∃t,MSs (cxOf (CX1 P w) P w K mg base N qual (ag st) f cdv A outer s H E) (aL st) t/\∀ds M R RX,(∀z,J.RM z=λM' x fs=>RX x fs M')->gu S ds M R RX->t {nx:=λ_ M'=>R .non M',rt:=R} (startD N ds) M):CalMth P w K mg base (k+1) x m ps (lSpM K S)/\iz P w K mg base (k+1) x m ps dd (lSpM K S):=by
 obtain⟨a,C,f,fd,f_,o_,h1,h2,h3,ok,hb,hv,hd⟩:=Txd.okM (S:=gu S) T F len a8;exact#[a.drop,C,f,fd,f_,o_,h1,h2,h3,ok.imp λ_ _ _ _ h=>vF h,hb,hv,hd]
def nilD(S:SpD):SpM:=λds M R _=>M=[]/\∃R0:D->Prop,S ds R0/\R=λd _=>R0 d
def DD{n:Nat}{f:KF}{fd:Tu}{S:SpD}(F:FnOk P w K mg base (CX1 P w) n f fd ps (lSpM K (nilD S))):FnOk P w K mg base (CX1 P w) n f fd ps (lSp K S):=F.imp λvs H Q E q=>by
 obtain⟨F,ds,fh,rs,R,hS,q1⟩:=q;exact#[F,ds,[],fh,rs,RepM.nil,_,λ_ _ _=>False,#[rfl,R,hS,rfl],λd v M' F' H' g hd rd _=>q1 d v F' H' (growM_nil g) hd rd,λ_ _ _ _ _ _ _ _ z=>z.elim]
end
section
variable {X:Cx}[J:Jm]{a:Tn}{ta:TME}{tA:TMT}{pos:Tw}
def DF(ha:ME X a ta)(he:autoParam (∀f7,isTrue a X.env f7=(do let v <-f7;Ul a.pos;T1 [v] (truthy v))) zA3):MT X a (mTru ta):=⟨(qP ha.out he).anti λs H Q q=>by
 obtain⟨F,z,M,k,rs,R,h1,h2⟩:=q;refine#[F,z,M,k,rs,_,h1,λx u M1 F1 H1 g1 hx rx m1=>?_];split at hx
 .rw[rep_bl.mp rx];exact#[_,rfl,h2 _ M1 F1 H1 g1 hx m1]
 .exact hx.elim⟩
end
abbrev Bx.N(V:Bx)(n:Nat)(x:F_)(ps:List F_)(S:SiM):Prop:=CalN V.P V.w V.K V.mg V.base n x ps S
abbrev Bx.QD(V:Bx)(n:Nat)(x m:F_)(ps:List F_)(S:SpD):Prop:=CalMth V.P V.w V.K V.mg V.base n x m ps (lSp V.K S)
abbrev Bx.Qd(V:Bx)(n:Nat)(x m:F_)(ps:List F_)(dd:List My.D)(S:SpM):Prop:=iz V.P V.w V.K V.mg V.base n x m ps dd (lSpM V.K S)
abbrev Bx.Td(V:Bx)(x m q:F_)(st:SL)(ps:List F_)(dd:List My.D):Prop:=Txd V.K x m q st ps dd
end My
end
section
namespace My
local macro_rules | `(tactic| k_memK) => `(tactic| exact⟨rfl, rfl, rfl, by decide +kernel, rfl, by decide +kernel, by decide +kernel⟩)
local macro_rules | `(tactic| k_places) => `(tactic| try simp only[G6, G8, My.aY])
open PySem PySem.Spec PyProof.Rows L2
def top(i:Nat):Stmt:=PySem.Challenge.pw_motiffield_k34_to_be_brought.main.body.getD i (.Pass #[0,0,0,0])
abbrev lC:SL:=top 58
abbrev lD:List Str:=["_law_script","_law_k"]
def DG:FnScope ["_law_script","_law_k"] lD (ag lC):=LZ
abbrev lF:SL:=top 60
abbrev lG:List Str:=["_law_script","_law_k","_law_many"]
def sc__law_draws:FnScope ["_law_script","_law_k","_law_many","_law_left","_law_drawn","_law_turn","_law_seed"] lG (ag lF):=LZ
abbrev lH:SL:=top 63
abbrev lJ:List Str:=["_law_draws_here"]
def sc__law_lines:FnScope ["_law_draws_here","_law_wide","_law_tall","_law_signs","_law_lines_here","_law_j","_law_line","_law_i","_law_place","_law_value"] lJ (ag lH):=LZ
abbrev lK:SL:=top 61
abbrev lL:List Str:=["_law_draws_here"]
def sc__law_shift_pair:FnScope ["_law_draws_here","_law_a","_law_b","_law_c","_law_d"] lL (ag lK):=LZ
abbrev lM:SL:=top 62
abbrev lN:List Str:=["_law_lines_here","_law_one","_law_two"]
def sc__law_motif_text:FnScope ["_law_lines_here","_law_one","_law_two","_law_tail"] lN (ag lM):=LZ
abbrev lP:SL:=top 64
abbrev lQ:List Str:=["_law_script","_law_k"]
def sc__law_motif:FnScope ["_law_script","_law_k","_law_draws_here","_law_lines_here","_law_one","_law_two","_law_leaf"] lQ (ag lP):=LZ
abbrev iA:SL:=top 65
abbrev lR:List Str:=["_law_part","_law_draw"]
def sc__law_wrapped:FnScope ["_law_part","_law_draw","_law_across","_law_down","_law_old","_law_new","_law_shift","_law_head","_law_ways","_law_by","_law_leaves","_law_leaf","_law_a","_law_b","_law_c","_law_d","_law_e","_law_f","_law_way","_law_hues"] lR (ag iA):=LZ
abbrev lU:SL:=top 69
abbrev lV:List Str:=["_law_a","_law_b"]
def sc__law_gcd:FnScope ["_law_a","_law_b"] lV (ag lU):=LZ
abbrev lW:SL:=top 66
abbrev lY:List Str:=["_law_one","_law_two","_law_u","_law_v"]
def sc__law_on:FnScope ["_law_one","_law_two","_law_u","_law_v","_law_size"] lY (ag lW):=LZ
abbrev lZ:SL:=top 71
abbrev me:List Str:=["_law_leaf"]
def sc__law_leaf_family:FnScope ["_law_leaf","_law_a","_law_b","_law_c","_law_d","_law_e","_law_f","_law_one","_law_two","_law_high","_law_wide","_law_lean"] me (ag lZ):=LZ
abbrev mf:SL:=top 70
abbrev mi:List Str:=["_law_three","_law_x","_law_y"]
def DJ:FnScope ["_law_three","_law_x","_law_y"] mi (ag mf):=LZ
abbrev mj:SL:=top 72
abbrev ml:List Str:=["_law_one","_law_two"]
def sc__law_both:FnScope ["_law_one","_law_two","_law_wide","_law_high","_law_x"] ml (ag mj):=LZ
abbrev mm:SL:=top 73
abbrev mn:List Str:=["_law_leaves"]
def sc__law_family:FnScope ["_law_leaves","_law_both_here","_law_leaf"] mn (ag mm):=LZ
abbrev mo:SL:=top 74
abbrev mv:List Str:=["_law_upper","_law_lower"]
def sc__law_over:FnScope ["_law_upper","_law_lower","_law_leaves"] mv (ag mo):=LZ
abbrev mx:SL:=top 75
abbrev my:List Str:=["_law_script","_law_k"]
def sc__law_pattern:FnScope ["_law_script","_law_k","_law_plan","_law_part","_law_turn","_law_step","_law_other"] my (ag mx):=LZ
abbrev mz:SL:=top 77
abbrev mB:List Str:=["_law_part","_law_kind"]
def sc__law_shifted_home:FnScope ["_law_part","_law_kind","_law_three","_law_across","_law_down"] mB (ag mz):=LZ
abbrev mC:SL:=top 76
abbrev mD:List Str:=["_law_part","_law_place","_law_sign"]
def sc__law_respelled:FnScope ["_law_part","_law_place","_law_sign","_law_first","_law_wide","_law_j","_law_i","_law_lines_here","_law_spot","_law_text"] mD (ag mC):=LZ
abbrev mF:SL:=top 78
abbrev mG:List Str:=["_law_part","_law_script","_law_k","_law_draw"]
def sc__law_twin:FnScope ["_law_part","_law_script","_law_k","_law_draw","_law_kind"] mG (ag mF):=LZ
abbrev mH:SL:=top 67
abbrev mI:List Str:=["_law_leaf","_law_x","_law_y"]
def sc__law_leaf_shows:FnScope ["_law_leaf","_law_x","_law_y","_law_way","_law_u","_law_v","_law_j","_law_i"] mI (ag mH):=LZ
abbrev mJ:SL:=top 68
abbrev mK:List Str:=["_law_leaves","_law_x","_law_y"]
def sc__law_shows:FnScope ["_law_leaves","_law_x","_law_y","_law_leaf","_law_hue"] mK (ag mJ):=LZ
abbrev iB:SL:=top 80
abbrev mL:List Str:=["_law_leaves","_law_wide","_law_high"]
def sc__law_floor_rows:FnScope ["_law_leaves","_law_wide","_law_high","_law_lines_here","_law_y"] mL (ag iB):=LZ
abbrev mM:SL:=aO (top 56) 1
abbrev mN:List Str:=["self","word"]
def DK:FnScope ["self","word"] mN (ag mM):=LZ
abbrev mQ:SL:=top 31
abbrev mR:List Str:=["x","y"]
def DL:FnScope ["x","y"] mR (ag mQ):=LZ
abbrev mU:SL:=top 13
abbrev mV:List Str:=["family","x","y"]
def sc_home:FnScope ["family","x","y","width","height","slant"] mV (ag mU):=LZ
abbrev iC:SL:=aO (top 20) 2
abbrev cB:List Str:=["self","x","y"]
def DM:FnScope ["self","x","y"] cB (ag iC):=LZ
abbrev iD:SL:=aO (top 21) 2
abbrev iE:List Str:=["self","x","y"]
def sc_Over_shows:FnScope ["self","x","y","hue"] iE (ag iD):=LZ
abbrev iF:SL:=aO (top 22) 2
abbrev iG:List Str:=["self","x","y"]
def DN:FnScope ["self","x","y"] iG (ag iF):=LZ
abbrev iH:SL:=aO (top 23) 2
abbrev iI:List Str:=["self","x","y"]
def DO:FnScope ["self","x","y"] iI (ag iH):=LZ
abbrev iJ:SL:=aO (top 24) 2
abbrev iK:List Str:=["self","x","y"]
def DP:FnScope ["self","x","y"] iK (ag iJ):=LZ
abbrev iL:SL:=aO (top 25) 2
abbrev iM:List Str:=["self","x","y"]
def sc_Rehue_shows:FnScope ["self","x","y","hue"] iM (ag iL):=LZ
abbrev mW:SL:=top 32
abbrev mY:List Str:=["pattern","x","y"]
def DQ:FnScope ["pattern","x","y"] mY (ag mW):=LZ
abbrev iN:SL:=top 33
abbrev mZ:List Str:=["pattern","x","y","many"]
def DR:FnScope ["pattern","x","y","many"] mZ (ag iN):=LZ
abbrev iO:SL:=aO (top 56) 7
abbrev ng:List Str:=["self"]
def DU:FnScope ["self"] ng (ag iO):=LZ
abbrev nh:SL:=aO (top 56) 3
abbrev iP:List Str:=["self","many"]
def sc_Floor_lay:FnScope ["self","many","ahead"] iP (ag nh):=LZ
abbrev nj:SL:=top 82
abbrev nq:List Str:=["_law_floor","_law_many","_law_bare"]
def sc__law_lay:FnScope ["_law_floor","_law_many","_law_bare","_law_found","_law_refused"] nq (ag nj):=LZ
abbrev nt:SL:=top 84
abbrev nu:List Str:=["_law_laid","_law_lines_here"]
def sc__law_parted:FnScope ["_law_laid","_law_lines_here","_law_y","_law_x"] nu (ag nt):=LZ
abbrev nv:SL:=aO (top 44) 1
abbrev nw:List Str:=["self","allowed"]
def DV:FnScope ["self","allowed"] nw (ag nv):=LZ
abbrev ny:SL:=aO (top 44) 2
abbrev nz:List Str:=["self","allowed"]
def sc_Reading_take:FnScope ["self","allowed","sign"] nz (ag ny):=LZ
abbrev nA:SL:=top 47
abbrev nB:List Str:=["reading","least","most"]
def sc_line_from:FnScope ["reading","least","most","line","column"] nB (ag nA):=LZ
abbrev nC:SL:=top 48
abbrev nD:List Str:=["reading"]
def sc_lines_from:FnScope ["reading","lines","width"] nD (ag nC):=LZ
abbrev nE:SL:=top 45
abbrev nF:List Str:=["reading"]
def sc_number_from:FnScope ["reading","written"] nF (ag nE):=LZ
abbrev nG:SL:=top 46
abbrev nH:List Str:=["reading"]
def sc_shift_from:FnScope ["reading","x"] nH (ag nG):=LZ
abbrev nI:SL:=top 10
abbrev nJ:List Str:=["first","second"]
def sc_levelled:FnScope ["first","second","times","rest"] nJ (ag nI):=LZ
abbrev nK:SL:=top 12
abbrev nM:List Str:=["first","second"]
def sc_spread:FnScope ["first","second","pair","width"] nM (ag nK):=LZ
abbrev nN:SL:=top 19
abbrev nO:List Str:=["lines","family"]
def sc_hues_by_home:FnScope ["lines","family","hues","row","line","column","sign"] nO (ag nN):=LZ
abbrev nP:SL:=aO (top 20) 0
abbrev nQ:List Str:=["self","place","lines","first","second"]
def DY:FnScope ["self","place","lines","first","second"] nQ (ag nP):=LZ
abbrev nR:SL:=top 49
abbrev nS:List Str:=["reading"]
def sc_motif_from:FnScope ["reading","place","lines","first","second"] nS (ag nR):=LZ
abbrev nU:SL:=aO (top 23) 0
abbrev nV:List Str:=["self","form"]
def DZ:FnScope ["self","form"] nV (ag nU):=LZ
abbrev nW:SL:=aO (top 24) 0
abbrev nX:List Str:=["self","form"]
def D0:FnScope ["self","form"] nX (ag nW):=LZ
abbrev nY:SL:=aO (top 21) 0
abbrev nZ:List Str:=["self","above","below"]
def D1:FnScope ["self","above","below"] nZ (ag nY):=LZ
abbrev oa:SL:=aO (top 22) 0
abbrev og:List Str:=["self","form","x","y"]
def D2:FnScope ["self","form","x","y"] og (ag oa):=LZ
abbrev oh:SL:=aO (top 25) 0
abbrev oi:List Str:=["self","form","old","new"]
def D3:FnScope ["self","form","old","new"] oi (ag oh):=LZ
abbrev iQ:SL:=top 50
abbrev gv:List Str:=["reading","around"]
def sc_over_from:FnScope ["reading","around","above","below"] gv (ag iQ):=LZ
abbrev iR:SL:=top 51
abbrev gx:List Str:=["reading","around"]
def sc_shifted_from:FnScope ["reading","around","shift"] gx (ag iR):=LZ
abbrev iS:SL:=top 52
abbrev gy:List Str:=["reading","around"]
def sc_rehue_from:FnScope ["reading","around","old","new"] gy (ag iS):=LZ
abbrev iT:SL:=top 53
abbrev cI:List Str:=["reading","around"]
def sc_form_from:FnScope ["reading","around","sign"] cI (ag iT):=LZ
abbrev oj:SL:=aO (top 44) 0
abbrev ol:List Str:=["self","text"]
def D4:FnScope ["self","text"] ol (ag oj):=LZ
abbrev om:SL:=aO (top 43) 0
abbrev oq:List Str:=["self","text","shifts","form"]
def D5:FnScope ["self","text","shifts","form"] oq (ag om):=LZ
abbrev ot:SL:=top 11
abbrev ou:List Str:=["one","two"]
def sc_measure:FnScope ["one","two","last"] ou (ag ot):=LZ
abbrev ow:SL:=top 14
abbrev oy:List Str:=["one","two"]
def sc_met:FnScope ["one","two","common","width","rise","start","gap","climbs","steps"] oy (ag ow):=LZ
abbrev oz:SL:=top 15
abbrev oA:List Str:=["family"]
def D6:FnScope ["family"] oA (ag oz):=LZ
abbrev oB:SL:=top 16
abbrev oC:List Str:=["family"]
def D7:FnScope ["family"] oC (ag oB):=LZ
abbrev iU:SL:=aO (top 20) 1
abbrev cC:List Str:=["self"]
def D8:FnScope ["self"] cC (ag iU):=LZ
abbrev iV:SL:=aO (top 21) 1
abbrev iW:List Str:=["self"]
def sc_Over_family:FnScope ["self","first"] iW (ag iV):=LZ
abbrev iX:SL:=aO (top 22) 1
abbrev iY:List Str:=["self"]
def D9:FnScope ["self"] iY (ag iX):=LZ
abbrev iZ:SL:=aO (top 23) 1
abbrev ja:List Str:=["self"]
def Ea:FnScope ["self"] ja (ag iZ):=LZ
abbrev jb:SL:=aO (top 24) 1
abbrev jc:List Str:=["self"]
def Eb:FnScope ["self"] jc (ag jb):=LZ
abbrev jd:SL:=aO (top 25) 1
abbrev je:List Str:=["self"]
def Ec:FnScope ["self"] je (ag jd):=LZ
abbrev oE:SL:=top 54
abbrev oF:List Str:=["text"]
def sc_read:FnScope ["text","reading","form","family"] oF (ag oE):=LZ
abbrev oG:SL:=top 37
abbrev oH:List Str:=["one","two","width","height"]
def sc_first_unlike:FnScope ["one","two","width","height","y","x"] oH (ag oG):=LZ
abbrev oI:SL:=aO (top 8) 0
abbrev oJ:List Str:=["self","x","y"]
def Ed:FnScope ["self","x","y"] oJ (ag oI):=LZ
abbrev oK:SL:=aO (top 56) 2
abbrev oM:List Str:=["self","pattern"]
def Ee:FnScope ["self","pattern"] oM (ag oK):=LZ
abbrev oN:SL:=aO (top 56) 4
abbrev oO:List Str:=["self","text"]
def sc_Floor_change:FnScope ["self","text","pattern","cell"] oO (ag oN):=LZ
abbrev oP:SL:=top 83
abbrev oQ:List Str:=["_law_floor","_law_text"]
def sc__law_change:FnScope ["_law_floor","_law_text","_law_found","_law_e"] oQ (ag oP):=LZ
abbrev oR:SL:=top 59
abbrev oS:List Str:=["_law_found"]
def Ef:FnScope ["_law_found"] oS (ag oR):=LZ
abbrev oU:SL:=top 79
abbrev oV:List Str:=["_law_found","_law_due"]
def sc__law_seven:FnScope ["_law_found","_law_due","_law_k"] oV (ag oU):=LZ
abbrev oW:SL:=top 81
abbrev oX:List Str:=["_law_lines_here"]
def sc__law_counts:FnScope ["_law_lines_here","_law_found","_law_line","_law_sign"] oX (ag oW):=LZ
abbrev jg:SL:=top 34
abbrev oY:List Str:=["pattern"]
def Eg:FnScope ["pattern"] oY (ag jg):=LZ
abbrev oZ:SL:=top 35
abbrev pd:List Str:=["family","rows","x","y"]
def sc_round_row:FnScope ["family","rows","x","y","cell","row"] pd (ag oZ):=LZ
abbrev pe:SL:=top 39
abbrev pf:List Str:=["row","sign","many"]
def Eh:FnScope ["row","sign","many"] pf (ag pe):=LZ
abbrev jh:SL:=top 40
abbrev ph:List Str:=["pattern","left","top","right","bottom"]
def sc_count_all:FnScope ["pattern","left","top","right","bottom","family","rows","many","again","counts","y","times","row","hue","sign"] ph (ag jh):=LZ
abbrev pi:SL:=aO (top 56) 0
abbrev pj:List Str:=["self","text","width","height"]
def Ei:FnScope ["self","text","width","height"] pj (ag pi):=LZ
abbrev pk:SL:=aO (top 56) 8
abbrev pp:List Str:=["self"]
def Ej:FnScope ["self"] pp (ag pk):=LZ
abbrev pq:SL:=aO (top 56) 9
abbrev pr:List Str:=["self"]
def El:FnScope ["self"] pr (ag pq):=LZ
abbrev gz:SL:=top 85
abbrev pv:List Str:=["_law_script"]
def sc_law:FnScope ["_law_script","_law_part","_law_twin_here","_law_wide","_law_high","_law_laid","_law_lines_here","_law_others","_law_floor","_law_fits","_law_stands","_law_lies","_law_still","_law_told"] pv (ag gz):=LZ
variable{c i:Nat}
def atC{t:F_}:StrLaws.At t #[[c].toArray] t.length i↔(cs t)[i]?=be c:=by
 have e:Builtin.Str.subAt t #[[c].toArray] i=(((cs t).drop i).take 1==[c]):=StrLaws.subAt_eq t #[[c].toArray] i;have e2:((cs t).drop i).take 1=[c]↔(cs t)[i]?=be c:=by
  rw[List.take_one,List.head?_drop];cases(cs t)[i]?<;>simp
 unfold StrLaws.At;rw[e,beq_iff_eq,e2];refine#[λh=>h.2,λh=>#[?_,h]];have:=(GZ.mp h).1;rw[bj]at this;exact this
variable{A B:List Nat}
def Em{t:F_}(ht:cs t=A++c::B)(no:c∉A):∃i rest,Builtin.Str.occurrences t #[[c].toArray] 0 t.length 1=i::rest/\i=A.length:=by
 have a0:StrLaws.At t #[[c].toArray] t.length A.length:=atC.mpr (by rw[ht,HF (GN _),Nat.sub_self];rfl);rcases StrLaws.occ_head t #[[c].toArray] 1 (GN _)with⟨_,h⟩|⟨i,r,e,h1,h2⟩
 .exact absurd a0 (h _)
 .refine#[i,r,e,?_];rcases Nat.lt_trichotomy i A.length with q|q|q
  .have:=atC.mp h1;rw[ht,Ht q]at this;exact absurd (Io this) no
  .exact q
  .exact absurd a0 (h2 _ q)
def gA(x:List Nat){l:List (List Nat)}(h:l≠[]):rowsL (x::l)=x++47::rowsL l:=by
 cases l with
 |nil=>exact absurd rfl h
 |cons y r=>rfl
variable{w:Nat}
def En(hi:i<w):∀(L:List (List Nat)) (j:Nat) (h:j<L.length),(∀x∈L,x.length=w)->rowsL (L.set j (L[j].set i c))=(rowsL L).set (j*(w+1)+i) c:=by
 intro L;induction L with
 |nil=>intro j h;exact absurd h (IK j)
 |cons x L ih=>
  intro j h hw;have xw:=hw x GS;by_cases e:L=[]
  .subst e;have:j=0:=by simp at h;lia
   subst this;simp[rowsL]
  .cases j with
   |zero=>
    show rowsL (x.set i c::L)=_;rw[gA _ e,gA _ e,Nat.zero_mul,Jl,Kb _ _ KK]
   |succ j=>
    have h':j<L.length:=Nat.lt_of_succ_lt_succ h;show rowsL (x::L.set j (L[j].set i c))=_;rw[gA _ (λz=>e (by have:=congrArg Il z;simpa using this)),gA _ e,ih j h' (λy hy=>hw y (GQ _ hy))];rw[Kc _ _ (by rw[xw,Ir];lia),xw,show(j+1)*(w+1)+i-w=(j*(w+1)+i)+1 by rw[Ir];lia];rfl
def ji{a:Int}(h:B12 a):91∉numL a:=by
 have hs:=numL_is h;intro hy;unfold isNumL at hs;rcases hs with⟨c,h1,h2⟩|⟨c,h1,h2⟩|⟨c,h1,h2⟩|⟨c,h1,h2⟩<;>rw[h2]at hy<;>simp at hy<;>lia
structure Pat.Re(p:Pat)(A B:List Nat)(l:Leaf)(ls:List Leaf):Prop where
 leaves:p.leaves=l::ls
 no:91∉A
 tl:p.tl=A++91::(rowsL (l.rows.map cs)++B)
 rows:Rows l.rows
 re:∀L':List F_,Rows L'->∃q:Pat,q.leaves={l with rows:=L'}::ls/\q.tl=A++91::(rowsL (L'.map cs)++B)/\q.depth=p.depth/\(∀x y,q.Lat x y↔p.Lat x y)/\q.Wf
def Pat.re_ex:∀{p:Pat},p.Wf->∃A B l ls,p.Re A B l ls:=by
 intro p;induction p with
 |mot L a b c d=>
  intro h;exact#[[],_,_,[],rfl,Ii,rfl,h.1,λL' h'=>#[.mot L' a b c d,rfl,rfl,rfl,λx y=>Iff.rfl,h',h.2]]
 |over p q R4 S6=>
  intro h;obtain⟨A,B,l,ls,r⟩:=R4 h.1;refine#[40::A,B++124::(q.tl++[41]),l,ls++q.leaves,by rw[Pat.leaves,r.leaves];rfl,λz=>?_,by rw[Pat.tl,r.tl];simp,r.rows,λL' h'=>?_]
  .rcases GP.mp z with z|z
   .exact absurd z K3
   .exact r.no z
  .obtain⟨p',e1,e2,e3,e4,e5⟩:=r.re L' h';exact#[.over p' q,by rw[Pat.leaves,e1];rfl,by rw[Pat.tl,e2];simp,by rw[Pat.depth,Pat.depth,e3],λx y=>by simp only[Pat.Lat,e4],e5,h.2]
 |sh a b p ih=>
  intro h;obtain⟨A,B,l,ls,r⟩:=ih h.2.2;refine#[115::(numL a++44::(numL b++58::A)),B,l.by 1 0 0 1 (-a) (-b),ls.map λl=>l.by 1 0 0 1 (-a) (-b),by rw[Pat.leaves,r.leaves];rfl,λz=>?_,by rw[Pat.tl,r.tl];simp[Leaf.by],r.rows,λL' h'=>?_]
  .have n1:=ji h.1;have n2:=ji h.2.1;have n3:=r.no;simp[n1,n2,n3]at z
  .obtain⟨p',e1,e2,e3,e4,e5⟩:=r.re L' h';exact#[.sh a b p',by rw[Pat.leaves,e1];rfl,by rw[Pat.tl,e2];simp,by rw[Pat.depth,Pat.depth,e3],λx y=>by simp only[Pat.Lat,e4],h.1,h.2.1,e5]
 |mir p ih=>
  intro h;obtain⟨A,B,l,ls,r⟩:=ih h;refine#[109::A,B,l.by (-1) 0 0 1 0 0,ls.map λl=>l.by (-1) 0 0 1 0 0,by rw[Pat.leaves,r.leaves];rfl,λz=>?_,by rw[Pat.tl,r.tl];rfl,r.rows,λL' h'=>?_]
  .rcases GP.mp z with z|z
   .exact absurd z K3
   .exact r.no z
  .obtain⟨p',e1,e2,e3,e4,e5⟩:=r.re L' h';exact#[.mir p',by rw[Pat.leaves,e1];rfl,by rw[Pat.tl,e2];rfl,by rw[Pat.depth,Pat.depth,e3],λx y=>by simp only[Pat.Lat,e4],e5]
 |tur p ih=>
  intro h;obtain⟨A,B,l,ls,r⟩:=ih h;refine#[116::A,B,l.by 0 1 (-1) 0 0 0,ls.map λl=>l.by 0 1 (-1) 0 0 0,by rw[Pat.leaves,r.leaves];rfl,λz=>?_,by rw[Pat.tl,r.tl];rfl,r.rows,λL' h'=>?_]
  .rcases GP.mp z with z|z
   .exact absurd z K3
   .exact r.no z
  .obtain⟨p',e1,e2,e3,e4,e5⟩:=r.re L' h';exact#[.tur p',by rw[Pat.leaves,e1];rfl,by rw[Pat.tl,e2];rfl,by rw[Pat.depth,Pat.depth,e3],λx y=>by simp only[Pat.Lat,e4],e5]
 |hue f g p ih=>
  intro h;obtain⟨A,B,l,ls,r⟩:=ih h.2.2;refine#[104::(numL f++(numL g++A)),B,(l.by 1 0 0 1 0 0).dye f g,ls.map λl=>(l.by 1 0 0 1 0 0).dye f g,by rw[Pat.leaves,r.leaves];rfl,λz=>?_,by rw[Pat.tl,r.tl];simp[Leaf.by,Leaf.dye],r.rows,λL' h'=>?_]
  .have h1:1<=f/\f<=6:=h.1;have h2:1<=g/\g<=6:=h.2.1;have n1:=ji (a:=f) #[KK,KK];have n2:=ji (a:=g) #[KK,KK];have n3:=r.no;simp[n1,n2,n3]at z
  .obtain⟨p',e1,e2,e3,e4,e5⟩:=r.re L' h';exact#[.hue f g p',by rw[Pat.leaves,e1];rfl,by rw[Pat.tl,e2];simp,by rw[Pat.depth,Pat.depth,e3],λx y=>by simp only[Pat.Lat,e4],h.1,h.2.1,e5]
def Eo:∀(L:List (List Nat)),L≠[]->(∀x∈L,x.length=w)->(rowsL L).length+1=L.length*(w+1):=by
 intro L;induction L with
 |nil=>intro h;exact absurd rfl h
 |cons x L ih=>
  intro _ hw;have xw:=hw x GS;by_cases e:L=[]
  .subst e;show x.length+1=1*(w+1);lia
  .have:=ih e λy hy=>hw y (GQ _ hy);rw[gA _ e,G2,GU,GU,Ir];lia
variable{k:Nat}
def vG{y:F_}(h:k<y.length):cs ((Txt.slice y t9 (be (k:Int))++#[[c].toArray])++Txt.slice y (be ((k:Int)+1)) t9)=(cs y).set k c:=by
 have e1:HT.sIx y.length y.length (be (k:Int))=k:=by rw[HT.sIx_nat];lia
 have e2:HT.sIx y.length 0 (be ((k:Int)+1))=k+1:=by
  have:=HT.sIx_nat y.length 0 (k+1);rw[show((k:Int)+1)=(((k+1:Nat)):Int)by lia,this];lia
 rw[bF,bF,slice_cps,slice_cps,e1,e2,HT.sIx_none,HT.sIx_none,Jo,IL,List.set_eq_take_append_cons_drop,if_pos (by rw[bj];exact h)];show((cs y).take k++[c])++(HN (k+1) (cs y)).take (y.length-(k+1))=_;rw[HP (l:=HN (k+1) (cs y)) (by rw[HL,bj];lia),HB];rfl
variable{p:Pat}
def Pat.Re.put{l:Leaf}{ls:List Leaf}(r:p.Re A B l ls)(ok:p.Ok){j:Nat}(hw:∀s∈l.rows,s.length=w)(hj:j<l.rows.length)(hi:i<w)(hc:aZ c){s':F_}(hs:cs s'=(cs l.rows[j]).set i c):∃q:Pat,q.Ok/\q.depth=p.depth/\q.leaves={l with rows:=l.rows.set j s'}::ls/\A.length+1+j*(w+1)+i<p.text.length/\∀t':F_,cs t'=(cs p.text).set (A.length+1+j*(w+1)+i) c->t'=q.text:=by
 obtain⟨m,w',w8,hr⟩:=r.rows;have lj:=hr l.rows[j] (Hg hj);have hL:Rows (l.rows.set j s'):=by
  refine#[by rw[Hv];exact m,w',w8,λs KJ=>?_];rcases Kd KJ with q|q
  .exact hr s q
  .subst q;refine#[by rw[<-bj,hs,Hv,bj];exact lj.1,λd hd=>?_];rw[hs]at hd;rcases Kd hd with q|q
   .exact lj.2 d q
   .rw[q];exact hc
 obtain⟨q,e1,e2,e3,e4,e5⟩:=r.re _ hL;obtain⟨fw,fh,fs,F,fb⟩:=ok.fits;refine#[q,#[e5,by rw[e3];exact ok.deep,fw,fh,fs,#[F.f,λx y=>(F.lat x y).trans (e4 x y).symm],fb],e3,e1,?_];have lw:∀x∈l.rows.map cs,x.length=w:=λx hx=>by
  obtain⟨s,q1,q2⟩:=Hc.mp hx;rw[<-q2,bj];exact hw s q1
 have jm:j<(l.rows.map cs).length:=by rw[GT];exact hj
 have key:=En (c:=c) hi (l.rows.map cs) j jm lw;have e6:(l.rows.set j s').map cs=(l.rows.map cs).set j ((l.rows.map cs)[j].set i c):=by rw[Ke,hs,List.getElem_map]
 have ll:j*(w+1)+i<(rowsL (l.rows.map cs)).length:=by
  have h1:=Eo (l.rows.map cs) (λz=>by rw[z]at jm;exact absurd jm (IK j)) lw;have h2:=JO (w+1) (show j+1<=(l.rows.map cs).length from jm);rw[Ir]at h2;lia
 refine#[?_,λt' ht=>?_]
 .rw[<-bj,cr,r.tl,G2,GU,G2];lia
 apply gf;rw[ht,cr,cr,e2,e6,key,r.tl];rw[Kc _ _ KK,show A.length+1+j*(w+1)+i-A.length=(j*(w+1)+i)+1 by lia,G6,Kb _ _ ll]
def PatD:D->Prop:=λx=>∃p:Pat,x=p.D/\p.Ok
def vH{q:Pat}{R:D->Prop}(k1:p.Ok)(k2:q.Ok)(h:∀q:Pat,q.Ok->R q.D):ux [p.D,q.D] R:=#[p,q,rfl,k1.wf,k2.wf,k1.deep,k2.deep,h _ k1,λa b OL=>h _ #[#[k1.wf,k2.wf],by simp only[Pat.depth];omega,OL]]
def Ep(x:Int):∃c,atI (cs ".123456") (x%7)=be c/\aZ c:=by
 rcases(KK:x%7=0\/x%7=1\/x%7=2\/x%7=3\/x%7=4\/x%7=5\/x%7=6)with e|e|e|e|e|e|e<;>rw[e]
 .exact#[46,K7,.inl rfl]
 .exact#[49,K7,.inr KK]
 .exact#[50,K7,.inr KK]
 .exact#[51,K7,.inr KK]
 .exact#[52,K7,.inr KK]
 .exact#[53,K7,.inr KK]
 .exact#[54,K7,.inr KK]
structure ComF(p q:Pat)(w h s:Int):Prop where
 f:Fam0 w h s
 lat:∀x y,InF w h s x y↔p.Keeps x y/\q.Keeps x y
def nown(z:SD):Bool:=z.all λo=>match o with|some (.own _)=>false|_=>true
def NoOwn.of{z:SD}(h:nown z=true):NoOwn z:=λi ds e=>by
 have:=Hy.mp h _ (Io e);cases this
structure Deed where
 w:F_
 p:Pat
 d:D
 l:Int
def Deed.D(e:Deed):My.D:=.tup [.str e.w,e.d,.int e.l]
structure Fl where
 p:Pat
 d:D
 w:Int
 h:Int
 l:Int
 ds:List Deed
def Fl.fs(f:Fl)(q:KF):List (F_×D):=[("pattern",f.d),("text",.str f.p.text),("width",.int f.w),("height",.int f.h),("laid",.int f.l),("deeds",.ptr q)]
def Fl.M(f:Fl)(a q:KF):MS:=[(q,.lst (f.ds.map Deed.D)),(a,.ins "Floor" (f.fs q))]
variable{a:KF}{o:MO}
def dP{p:KF}{M:MS}(h:p≠a):mget ((p,o)::M) a=mget M a:=if_neg h
def cD{M:MS}:mget ((a,o)::M) a=be o:=if_pos rfl
def dQ{p:KF}{o':MO}{M:MS}(h:p≠a):mput ((p,o)::M) a o'=(p,o)::mput M a o':=if_neg h
def cU{o':MO}{M:MS}:mput ((a,o)::M) a o'=(a,o')::M:=if_pos rfl
variable{q:KF}{f:Fl}
def Fl.ma(h:a≠q):mget (f.M a q) a=be (.ins "Floor" (f.fs q)):=(dP (Ne.symm h)).trans cD
def Fl.mq:mget (f.M a q) q=be (.lst (f.ds.map Deed.D)):=cD
def Fl.put(h:a≠q):mput (f.M a q) a o=[(q,.lst (f.ds.map Deed.D)),(a,o)]:=(dQ (Ne.symm h)).trans (congrArg _ cU)
def gB:(f.fs q).lookup ("pattern":F_)=be f.d:=rfl
def jj:(f.fs q).lookup ("width":F_)=be (.int f.w):=rfl
def vI:(f.fs q).lookup ("height":F_)=be (.int f.h):=rfl
def dR:(f.fs q).lookup ("laid":F_)=be (.int f.l):=rfl
def Er:(f.fs q).lookup ("deeds":F_)=be (.ptr q):=rfl
structure Fl.Ok(f:Fl):Prop where
 is:bn f.p f.d
 ok:f.p.Ok
 w1:1<=f.w
 w2:f.w<=30
 h1:1<=f.h
 h2:f.h<=30
 l0:0<=f.l
 l1:f.l<=f.h
 de:f.ds.length<=20
 dd:∀e∈f.ds,bn e.p e.d/\e.p.Ok/\0<=e.l/\e.l<=f.h
def Fl.keep(f:Fl)(w:F_):Fl:={f with ds:=(f.ds++[Deed.mk w f.p f.d f.l]).drop (f.ds.length+1-20)}
def Fl.lay(f:Fl)(n:Int):Fl:={f.keep "lay" with l:=f.l+n}
def Fl.stand(f:Fl)(p:Pat)(d:D):Fl:={f with p:=p,d:=d}
def subM.refl{M:MS}(h:(au M).Nodup):subM M M:=#[λ_ h=>h,h]
def Fl.nd(h:a≠q):(au (f.M a q)).Nodup:=by
 show[q,a].Nodup;simp[Ne.symm h]
def Fl.sub(h:a≠q):subM (f.M a q) (f.M a q):=subM.refl (Fl.nd h)
def Es(xs:List D):cutD xs (be (-20)) t9=xs.drop (xs.length-20):=by
 have e:HT.sIx xs.length 0 (be (-20))=xs.length-20:=by
  unfold HT.sIx;simp;lia
 unfold cutD;rw[e,show HT.sIx xs.length xs.length t9=xs.length from rfl];exact HP K'
def aE(p:Pat)(w lo:Int)(n:Nat):List D:=(GO n).map λ(j:Nat)=>D.str (aK p 0 (lo+(j:Int)) w.toNat)
def pw(p:Pat)(w lo:Int)(n:Nat):aE p w lo n++[D.str (aK p 0 (lo+(n:Int)) w.toNat)]=aE p w lo (n+1):=by
 unfold aE;rw[H9,Hj];rfl
def Et(p:Pat)(w lo:Int)(n:Nat):cq (.lst (aE p w lo n))=true:=by
 unfold cq;induction n with
 |zero=>rfl
 |succ n ih=>
  rw[<-pw];have:∀xs:List D,flats xs=true->flats (xs++[D.str (aK p 0 (lo+(n:Int)) w.toNat)])=true:=λxs=>by
   induction xs with
   |nil=>intro _;rfl
   |cons x xs ih=>intro h;unfold flats at h;rw[Hf]at h;show flats (x::(xs++_))=true;unfold flats;rw[h.1,ih h.2];rfl
  exact this _ ih
def vJ(p:Pat)(w:Int){l:Int}(n:Nat)(l0:0<=l):cutD (aE p w 0 (l.toNat+n)) (be l) t9=aE p w l n:=by
 have hl:(aE p w 0 (l.toNat+n)).length=l.toNat+n:=by unfold aE;simp
 have e:HT.sIx (l.toNat+n) 0 (be l)=l.toNat:=by
  unfold HT.sIx;simp only;rw[if_neg KK];lia
 unfold cutD;rw[hl,e,show HT.sIx (l.toNat+n) (l.toNat+n) t9=l.toNat+n from rfl];unfold aE;apply HZ;intro i;by_cases h:i<n
 .rw[IS KK,J4,GY,GY,HC KK,HC h];simp;congr 1;lia
 .rw[Ho SN,Ho SN]
def dB(p q:Pat)(w h:Int):Prop:=∀x y:Int,0<=x->x<w->0<=y->y<h->p.show x y=q.show x y
def fC(p q:Pat)(w h x y:Int):Prop:=(0<=x/\x<w/\0<=y/\y<h)/\p.show x y≠q.show x y/\∀x' y':Int,0<=x'->x'<w->0<=y'->(y'<y\/(y'=y/\x'<x))->p.show x' y'=q.show x' y'
def due7(p:Pat)(left top:Int)(m:Nat)(n k:Nat):List Int:=(GO 7).map λ(v:Nat)=>bB p v left top m n+cntN (λi=>p.show (left+i) (top+n)) v k
def Eu(ok:p.Ok)(left top:Int)(m n k:Nat):∃u:Nat,u<7/\p.show (left+k) (top+n)=(u:Int)/\(due7 p left top m n k)[u]?=be (bB p u left top m n+cntN (λi=>p.show (left+i) (top+n)) u k)/\((due7 p left top m n k).map D.int).set u (D.int (bB p u left top m n+cntN (λi=>p.show (left+i) (top+n)) u k+1))=(due7 p left top m n (k+1)).map D.int:=by
 have b:=Pat.show_le ok.wf (by have:=ok.deep;lia) (left+k) (top+n);obtain⟨u,hu⟩:∃u:Nat,p.show (left+k) (top+n)=(u:Int):=#[(p.show (left+k) (top+n)).toNat,KK];have u7:u<7:=KK
 have cs:∀v:Int,cntN (λi=>p.show (left+i) (top+n)) v (k+1)=cntN (λi=>p.show (left+i) (top+n)) v k+if p.show (left+k) (top+n)=v then 1 else 0:=λv=>rfl
 refine#[u,u7,hu,by unfold due7;simp[u7],?_];unfold due7;rw[Ie,Ie];have:=vA (n:=7) (i:=u) (λ(v:Nat)=>D.int (bB p v left top m n+cntN (λi=>p.show (left+i) (top+n)) v k)) (λ(v:Nat)=>D.int (bB p v left top m n+cntN (λi=>p.show (left+i) (top+n)) v (k+1))) (λv hv ne=>by
  show D.int _=D.int _;rw[cs,hu,if_neg KK,Iu])
 refine Eq.trans ?_ this;show List.set _ u _=List.set _ u _;rw[cs,hu,if_pos rfl,IN];rfl
def Ev(p:Pat)(left top:Int)(m n:Nat):due7 p left top m n m=due7 p left top m (n+1) 0:=by
 unfold due7;apply Ia;intro v _;show _=(bB p v left top m n+_)+0;rw[Iu]
def Ew(p:Pat)(left top:Int)(m n:Nat):due7 p left top m n 0=bC p left top m n:=by
 unfold due7 bC;apply Ia;intro v _;show _+0=_;rw[Iu]
variable{n:Nat}
def vK{f:Nat->Int}(h:i<n):atI (((GO n).map f).map D.int) (i:Int)=be (.int (f i)):=bH (by simp[h])
variable{lo:Int}
def Ey{w:Int}{v:D}(h:(aE p w lo n)[k]?=be v):k<n/\v=.str (aK p 0 (lo+(k:Int)) w.toNat):=by
 have hk:k<n:=by have:=(GZ.mp h).1;unfold aE at this;simpa using this
 unfold aE at h;simp[hk]at h;exact#[hk,h.symm]
def Ez(p:Pat)(v left top:Int)(m a b:Nat):bB p v left top m a+bB p v left (top+a) m b=bB p v left top m (a+b):=by
 unfold bB;rw[gq];congr 1;refine dA λj _=>?_;rw[Ij,IN]
def EA{h:Int}(h0:0<=h)(h6:h<=6):aP h<128:=by unfold aP;split<;>lia
def EB(ok:p.Ok)(x y:Int)(n:Nat):(aK p x y n).cps.all (·<128)=true:=by
 rw[<-IZ,Hy];intro c hc;have hc:c∈cs (aK p x y n):=hc;rw[cT]at hc;obtain⟨k,_,rfl⟩:=Hc.mp hc;have b:=Pat.show_le ok.wf (by have:=ok.deep;lia) (x+(k:Int)) y;exact decide_eq_true (EA b.1 b.2)
def EC{y:Int}{v:D}(h:(bP (aK p 0 y n))[k]?=be v):k<n/\v=.str #[[aP (p.show (0+(k:Int)) y)].toArray]:=by
 unfold bP at h;have hk:k<n:=by have:=(GZ.mp h).1;rwa [GT,show(aK p 0 y n).cps.toList.length=n by show(cs (aK p 0 y n)).length=n;rw[cT];simp]at this
 rw[GY,show(aK p 0 y n).cps.toList=(GO n).map λ(k:Nat)=>aP (p.show (0+(k:Int)) y)from cT p 0 y n]at h;simp[hk]at h;exact#[hk,by rw[<-h,HH]]
def EE{u:Nat}(h:u<7):∃rest,Builtin.Str.occurrences ".123456" #[[aP (u:Int)].toArray] 0 (".123456":F_).length 1=u::rest:=by
 rcases(KK:u=0\/u=1\/u=2\/u=3\/u=4\/u=5\/u=6)with e|e|e|e|e|e|e<;>subst e<;>exact#[[],K7]
def vL{w:Int}(h:k<n):atI (aE p w lo n) (k:Int)=be (.str (aK p 0 (lo+(k:Int)) w.toNat)):=bH (by unfold aE;simp[h])
def vM{y:Int}(h:k<n):atI (cs (aK p 0 y n)) (k:Int)=be (aP (p.show k y)):=bH (by rw[cT];simp[h])
def vN{w:Int}(h:k<=n):cutD (aE p w lo n) t9 (be (k:Int))=aE p w lo k:=by
 have hl:(aE p w lo n).length=n:=by unfold aE;simp
 have e:HT.sIx n n (be (k:Int))=k:=by
  unfold HT.sIx;simp only;rw[if_neg KK];lia
 unfold cutD;rw[hl,e,show HT.sIx n 0 t9=0 from rfl,IL];unfold aE;rw[<-J9,Ka,Jo,Ik h]
def EF{a b:Int}(a0:0<=a)(b0:0<=b)(h:aP a=aP b):a=b:=by
 unfold aP at h;split at h<;>split at h<;>lia
def EG{a b:Nat}(h:(#[[a].toArray]:F_)=#[[b].toArray]):a=b:=by cases h;rfl
section
variable {V:Bx}
abbrev jk(V:Bx):Prop:=V.D 1 "_law_at" lD Bu
def EH(T:V.T "_law_at" lC lD)(uB:V.m "len"):jk V:=by
 refine Tx.okDW T DG (λds R h=>?_) (λf cdv A outer s H E J hr=>⟨_,((ai (bg (fJ (aa 1) (cm uB (ac (aa 0) ae))) (ao (ay (af (aa 0) (aa 1)))) aT)
   (ao (ay ad)))),λds R h=>?_⟩)
 .obtain⟨ns,k,rfl,_⟩:=h;rfl
 .obtain⟨ns,k,rfl,hk,hR⟩:=h;refine ite2 (λc=>?_) (λc=>?_)
  .have c':=of_decide_eq_true c;rw[GT]at c';exact#[_,tX hk c',hR]
  .have c':=of_decide_eq_false (Hm.mpr c);rw[GT]at c';rw[Bt KK]at hR;exact hR
abbrev jl(V:Bx):Prop:=V.D 2 "_law_draws" lG BH
def EI(T:V.T "_law_draws" lF lG)(uA:V.m "range")(uZ:jk V):jl V:=by
 refine Tx.okDW T sc__law_draws (λds R h=>?_) (λf cdv A outer s H E J hr=>⟨_,((ai (am 3 sc__law_draws.nd (av uZ hr (ac (aa 0) (ac (aa 1) ae))))
   (ai (fP 4 sc__law_draws.nd ae)
   (ai (bg (bc (aC (av uZ hr (ac (aa 0) (ac (aj (aa 1) ad) ae))) ad) ad) (ai (ce 5 PassesOwn.never rfl sc__law_draws.nd uA (aa 2) (ai (fQ 4 (aC (aa 3) ad))
     (ao (am 3 sc__law_draws.nd (aX (aa 3) ad)))))
    (cY 4 (ao (ay (aa 4))))) aT)
   (ai (am 6 sc__law_draws.nd (aC (aj (aa 3) ad) ad))
   (ai (ce 5 PassesOwn.never rfl sc__law_draws.nd uA (aa 2) (ai (am 6 sc__law_draws.nd (aC (aj (aj (aw (aa 6) ad) (av uZ hr (ac (aa 0) (ac (aj (aj (aa 1) ad) (aC (aa 5) ad)) ae)))) (aa 5)) ad))
    (ao (fQ 4 (aC (aC (aw (aa 6) ad) ad) ad)))))
   (cY 4 (ao (ay (aa 4)))))))))),λds R h=>?_⟩)
 .obtain⟨_,_,_,rfl,_⟩:=h;rfl
 .obtain⟨ns,k,n,rfl,hk,hn,hR⟩:=h;refine#[λd=>∃v:Int,d=.int v,#[ns,k,rfl,hk,_,rfl],?_];rintro _⟨left,rfl⟩;k_places;refine#[K',?_];refine#[ns,k+1,rfl,KK,K3,ite2 (λ_=>?_) (λ_=>?_)]
  .refine#[#[KK,KK],λi z=>∃(xs:List Int) (l:Int) (o p:Option D),z=[be (.rol (ns.map D.int)),be (.int k),be (.int n),be (.int l),be (.own (xs.map D.int)),o,p]/\xs.length=i/\Drawn xs,#[[],left,_,_,rfl,rfl,(λx hx=>by cases hx)],?_,?_]
   .rintro i x z hi⟨xs,l,o,p,rfl,hl,hd⟩;k_places;have i_:i<n:=by simpa using(GZ.mp hi).1
    refine#[K3,SN,?_];refine#[λd=>∃v:Int,d=.int v,#[#[K3,K3],_,rfl],?_];rintro _⟨l',rfl⟩;k_places;rw[ub];exact#[_,l',_,_,rfl,by simp[hl],uc hd (cQ K3) (cR K3)]
   .rintro z⟨xs,l,o,p,rfl,hl,hd⟩;k_places;exact hR xs (by simpa using hl) hd
  .refine#[λd=>∃v:Int,d=.int v/\0<=v/\v<2147483647,#[K3,_,rfl,cQ K3,cR K3],?_];rintro _⟨OM,rfl,s1,s2⟩;k_places;refine#[#[KK,KK],λi z=>∃(xs:List Int) (sd:Int) (o:Option D),z=[be (.rol (ns.map D.int)),be (.int k),be (.int n),be (.int left),be (.own (xs.map D.int)),o,be (.int sd)]/\xs.length=i/\Drawn xs/\0<=sd/\sd<2147483647,#[[],OM,_,rfl,rfl,(λx hx=>by cases hx),s1,s2],?_,?_]
   .rintro i x z hi⟨xs,sd,o,rfl,hl,hd,s1,s2⟩;k_places;have i_:i<n:=by simpa using(GZ.mp hi).1
    have ex:x=.int (i:Int):=by simp[i_]at hi;exact hi.symm
    subst ex;refine#[λd=>∃v:Int,d=.int v/\0<=v/\v<2147483647,#[.inr #[K3,K3],K3,ns,_,rfl,KK,K3,_,rfl,cQ K3,cR K3],?_];rintro _⟨R5,rfl,t1,t2⟩;k_places;refine#[.inr #[K3,K3],K3,K3,SN,?_];rw[ub];exact#[_,R5,_,rfl,by simp[hl],uc hd (cQ K3) (cR K3),t1,t2]
   .rintro z⟨xs,sd,o,rfl,hl,hd,_⟩;k_places;exact hR xs (by simpa using hl) hd
abbrev pz(V:Bx):Prop:=V.D 1 "_law_lines" lJ BS
def EJ(T:V.T "_law_lines" lH lJ)(uA:V.m "range")(uB:V.m "len"):pz V:=by
 refine Tx.okDW T sc__law_lines (λds R h=>?_) (λf cdv A outer s H E J hr=>⟨_,((ai (am 1 sc__law_lines.nd (aj ad (aC (af (aa 0) ad) ad)))
   (ai (am 2 sc__law_lines.nd (aj ad (aC (af (aa 0) ad) ad)))
   (ai (fO (bc (aC (af (aa 0) ad) ad) ad) (ai (am 1 sc__law_lines.nd (aj ad (aC (af (aa 0) ad) ad)))
    (ao (am 2 sc__law_lines.nd (aj ad (aC (af (aa 0) ad) ad))))) aT)
   (ai (am 3 sc__law_lines.nd (af (br (ac aA (ac aA (ac aA (ac aA ae))))) (aC (af (aa 0) ad) ad)))
   (ai (fP 4 sc__law_lines.nd ae)
   (ai (ce 5 PassesOwn.never rfl sc__law_lines.nd uA (aa 2) (ai (am 6 sc__law_lines.nd aA)
    (ai (ce 7 PassesOwn.never rfl sc__law_lines.nd uA (aa 1) (ai (am 8 sc__law_lines.nd (aj (aw (aa 5) (aa 1)) (aa 7)))
     (ai (am 9 sc__law_lines.nd (aC (aX (af (aa 0) (aj ad (aX (aa 8) ad))) (af (br (ac ad (ac ad ae))) (aC (aa 8) ad))) ad))
     (ao (am 6 sc__law_lines.nd (aj (aa 6) (af (aa 3) (aC (aa 9) (cm uB (ac (aa 3) ae))))))))))
    (ao (fQ 4 (aa 6))))))
   (cY 4 (ao (ay (aa 4))))))))))),λds R h=>?_⟩)
 .obtain⟨_,rfl,_⟩:=h;rfl
 .obtain⟨xs,rfl,hl,hd,hR⟩:=h;have y_:∀k:Nat,k<40->atI (xs.map D.int) (k:Int)=be (.int (cell xs k)):=λk hk=>cH KK (by simpa using(KK:k<xs.length));have a0:atI (xs.map D.int) 0=be (.int (cell xs 0)):=y_ 0 K3;have a1:atI (xs.map D.int) 1=be (.int (cell xs 1)):=y_ 1 K3;have a2:atI (xs.map D.int) 2=be (.int (cell xs 2)):=y_ 2 K3;have a3:atI (xs.map D.int) 3=be (.int (cell xs 3)):=y_ 3 K3;clear hl;refine#[λd=>∃v:Int,d=.int v/\1<=v/\v<=8,#[_,a0,K3,_,rfl,KK],?_];rintro _⟨w0,rfl,S7⟩;k_places;refine#[λd=>∃v:Int,d=.int v/\1<=v/\v<=8,#[_,a1,K3,_,rfl,KK],?_];rintro _⟨t0,rfl,S8⟩;k_places;refine#[λz=>∃w t:Nat,z=[be (.lst (xs.map D.int)),be (.int w),be (.int t),t9,t9,t9,t9,t9,t9,t9]/\(1<=w/\w<=8)/\(1<=t/\t<=8),#[_,a2,K3,ite2 (λ_=>?_) (λ_=>?_)],?_]
  .refine#[λd=>∃v:Nat,d=.int v/\1<=v/\v<=8,#[_,a0,K3,(1+cell xs 0%8).toNat,by rw[Hq KK],KK],?_];rintro _⟨w,rfl,hw⟩;k_places;refine#[λd=>∃v:Nat,d=.int v/\1<=v/\v<=8,#[_,a1,K3,(1+cell xs 1%8).toNat,by rw[Hq KK],KK],?_];rintro _⟨t,rfl,ht⟩;k_places;exact#[w,t,rfl,hw,ht]
  .obtain⟨w,rfl⟩:∃w:Nat,w0=(w:Int):=#[w0.toNat,KK];obtain⟨t,rfl⟩:∃t:Nat,t0=(t:Int):=#[t0.toNat,KK];exact#[w,t,rfl,KK,KK]
  rintro _⟨w,t,rfl,hw,ht⟩;k_places;obtain⟨sg,es,hs⟩:=BO (cell xs 3);refine#[λd=>d=.str sg,#[K',_,a3,K3,_,es,rfl],?_];rintro _ rfl;k_places;refine#[K',?_];refine#[#[KK,KK],λk z=>∃(L:List F_) (o1 o2 o3 o4 o5:Option D),z=[be (.lst (xs.map D.int)),be (.int w),be (.int t),be (.str sg),be (.own (L.map D.str)),o1,o2,o3,o4,o5]/\L.length=k/\∀l∈L,l.length=w/\∀c∈cs l,aZ c,#[[],_,_,_,_,_,rfl,rfl,(λx hx=>by cases hx)],?_,?_]
  .rintro j x z hj⟨L,o1,o2,o3,o4,o5,rfl,hL,Mx⟩;k_places;have LC:j<t:=by simpa using(GZ.mp hj).1
   have ex:x=.int (j:Int):=by simp[LC]at hj;exact hj.symm
   subst ex;refine#[λd=>d=.str "",rfl,?_];rintro _ rfl;k_places;refine#[#[KK,KK],λi z=>∃(ln:F_) (o3 o4 o5:Option D),z=[be (.lst (xs.map D.int)),be (.int w),be (.int t),be (.str sg),be (.own (L.map D.str)),be (.int j),be (.str ln),o3,o4,o5]/\ln.length=i/\∀c∈cs ln,aZ c,#[_,_,_,_,rfl,rfl,(λc hc=>by rw[ud]at hc;cases hc)],?_,?_]
   .rintro i y z hi⟨ln,o3,o4,o5,rfl,Nw,ON⟩;k_places;have i_:i<w:=by simpa using(GZ.mp hi).1
    have ey:y=.int (i:Int):=by simp[i_]at hi;exact hi.symm
    subst ey;have pb:=bQ (a:=(j:Int)) (d:=(w:Int)) (A:=7) (B:=8) KK KK;have pn:0<=(j:Int)*(w:Int):=Ja KK KK;refine#[λd=>∃p:Nat,d=.int p/\p<=63,#[.inl #[KK,KK],((j:Int)*w+i).toNat,by rw[Hq KK],KK],?_];rintro _⟨p,rfl,hp⟩;k_places;obtain⟨m,em,hm⟩:=BP (p:Int);have ap:=y_ (8+p/2) KK;have ec:((8+p/2:Nat):Int)=8+(p:Int)/2:=KK
    rw[ec]at ap;refine#[λd=>∃v:Int,d=.int v,#[#[K3,K3],_,ap,K',K3,_,em,#[KK,KK],K3,_,rfl],?_];rintro _⟨v,rfl⟩;k_places;obtain⟨c,⟨h1,h2⟩,h3⟩:=BJ hs v;refine#[λd=>∃x:F_,d=.str x/\x.length=i+1/\∀c∈cs x,aZ c,#[h1,by have:=hs.1;lia,c,#[h1,h2],?_,_,rfl,BQ Nw ON h3],?_]
    .rw[Nw];show i+1<=1000000;lia
    rintro _⟨x,rfl,g1,g2⟩;k_places;exact#[x,_,_,_,rfl,g1,g2]
   .rintro z⟨ln,o3,o4,o5,rfl,Nw,ON⟩;k_places;have OO:ln.length=w:=by simpa using Nw
    refine#[by simp[hL];lia,?_];rw[BR];refine#[_,_,_,_,_,_,rfl,by simp[hL],λl hl=>?_];rcases Hi.mp hl with q|q
    .exact Mx l q
    .rw[GM.mp q];exact#[OO,ON]
  .rintro z⟨L,o1,o2,o3,o4,o5,rfl,hL,Mx⟩;k_places;exact hR L (Rows.of ht.1 ht.2 (by simpa using hL) hw.1 hw.2 Mx)
abbrev pA(V:Bx):Prop:=V.D 1 "_law_shift_pair" lL BI
def EK(T:V.T "_law_shift_pair" lK lL)(uF:V.m "int"):pA V:=by
 refine Tx.okDW T sc__law_shift_pair (λds R h=>?_) (λf cdv A outer s H E J hr=>⟨_,((ai (bg (bc (aC (aX (af (aa 0) ad) ad) ad) ad) (ao (ay (br (ac (aI (ac (aj ad (aC (af (aa 0) ad) ad)) (ac ad ae))) (ac (aI (ac ad (ac (aj ad (aC (af (aa 0) ad) ad)) ae))) ae))))) aT)
   (ai (bg (bc (aC (aX (af (aa 0) ad) ad) ad) ad) (ao (ay (br (ac (aI (ac (aj ad (aC (af (aa 0) ad) ad)) (ac ad ae))) (ac (aI (ac (bo (aC (af (aa 0) ad) ad) ad) (ac (aj ad (aC (af (aa 0) ad) ad)) ae))) ae))))) aT)
   (ai (am 1 sc__law_shift_pair.nd (bo (aC (af (aa 0) ad) ad) ad))
   (ai (am 2 sc__law_shift_pair.nd (bo (aC (af (aa 0) ad) ad) ad))
   (ai (am 3 sc__law_shift_pair.nd (bo (aC (af (aa 0) ad) ad) ad))
   (ai (am 4 sc__law_shift_pair.nd (bo (aC (af (aa 0) ad) ad) ad))
   (ai (am 1 sc__law_shift_pair.nd (aj (aa 1) (hU uF (ac (gX (dH (aa 1) ad) (gW (dH (aa 2) ad))) ae))))
   (ai (bg (bc (aw (aa 1) (aa 4)) (aw (aa 2) (aa 3))) (ao (ay (br (ac (aI (ac (aa 1) (ac (aa 2) ae))) (ac (aI (ac (ck (aa 2)) (ac (aa 1) ae))) ae))))) aT)
   (ao (ay (br (ac (aI (ac (aa 1) (ac (aa 2) ae))) (ac (aI (ac (aa 3) (ac (aa 4) ae))) ae)))))))))))))),λds R h=>?_⟩)
 .obtain⟨_,rfl,_⟩:=h;rfl
 .obtain⟨xs,rfl,hl,hd,hR⟩:=h;have a3:=cH (xs:=xs) (k:=3) K3 (show 3<xs.length by lia);have a4:=cH (xs:=xs) (k:=4) K3 (show 4<xs.length by lia);have a5:=cH (xs:=xs) (k:=5) K3 (show 5<xs.length by lia);have a6:=cH (xs:=xs) (k:=6) K3 (show 6<xs.length by lia);have a7:=cH (xs:=xs) (k:=7) K3 (show 7<xs.length by lia);generalize cell xs 3=x3 at*;generalize cell xs 4=x4 at*;generalize cell xs 5=x5 at*;generalize cell xs 6=x6 at*;generalize cell xs 7=x7 at*;clear hl hd;refine#[_,a3,#[K3,K3],K3,ite2 (λ_=>?_) (λ_=>?_)]
  .refine#[_,a4,K3,K',_,a5,K3,K',K',hR _ _ _ _ KK KK KK KK ?_];have p:0<(1+x4%6)*(1+x5%6):=G5 KK KK;lia
  refine#[_,a3,#[K3,K3],K3,ite2 (λ_=>?_) (λ_=>?_)]
  .refine#[_,a4,K3,K',_,a6,K3,_,a5,K3,K',K',hR _ _ _ _ KK KK KK KK ?_];have p:0<(1+x4%6)*(1+x5%4):=G5 KK KK;lia
  refine#[λd=>∃v:Int,d=.int v/\-12<=v/\v<=12,#[_,a4,K3,_,rfl,KK],?_];rintro _⟨a,rfl,ha⟩;k_places;refine#[λd=>∃v:Int,d=.int v/\-12<=v/\v<=12,#[_,a5,K3,_,rfl,KK],?_];rintro _⟨b,rfl,hb⟩;k_places;refine#[λd=>∃v:Int,d=.int v/\-12<=v/\v<=12,#[_,a6,K3,_,rfl,KK],?_];rintro _⟨c,rfl,hc⟩;k_places;refine#[λd=>∃v:Int,d=.int v/\-12<=v/\v<=12,#[_,a7,K3,_,rfl,KK],?_];rintro _⟨d,rfl,e_⟩;k_places;refine#[λx=>∃v:Int,x=.int v/\(-12<=v/\v<=12)/\¬(v=0/\b=0),ite2 (λe=>?_) (λe=>?_),?_]
  .have e':=of_decide_eq_true e;by_cases Qy:b=0
   .refine#[_,rfl,?_];subst e' Qy;simp
   .refine#[_,rfl,?_];subst e';simp[Qy]
  .have e':=of_decide_eq_false (Hm.mpr e);refine#[_,rfl,?_];simp;lia
  rintro _⟨a,rfl,ha,Mz⟩;k_places;refine#[.inl (i64 ha.1 ha.2),.inl (i64 hb.1 hb.2),ite2 (λe=>?_) (λe=>?_)]
  .refine#[K',K',K',hR a b (-b) a ha hb KK ha ?_];rw[II];intro z;have s1:0<=a*a:=sq0 a;have s2:0<=b*b:=sq0 b;have z1:a*a=0:=by omega
   have z2:b*b=0:=K_
   exact Mz #[(Jh.mp z1).elim id id,(Jh.mp z2).elim id id]
  .have e':=of_decide_eq_false (Hm.mpr e);exact#[K',K',K',hR a b c d ha hb hc e_ e']
abbrev pB(V:Bx):Prop:=V.D 1 "_law_motif_text" lN BT
def EL(T:V.T "_law_motif_text" lM lN)(uY:V.m "str"):pB V:=by
 refine Tx.okDW T sc__law_motif_text (λds R h=>?_) (λf cdv A outer s H E J hr=>⟨_,((ai (am 3 sc__law_motif_text.nd (aj (aj (aj (aj (aj (aj (aj aA (cZ uY (ac (af (aa 1) ad) ae))) aA) (cZ uY (ac (af (aa 1) ad) ae))) aA) (cZ uY (ac (af (aa 2) ad) ae))) aA) (cZ uY (ac (af (aa 2) ad) ae))))
   (ao (ay (aj (aj (aj aA (kB (aa 0))) (aa 3)) aA))))),λds R h=>?_⟩)
 .obtain⟨_,_,_,_,_,rfl,_⟩:=h;rfl
 .obtain⟨L,a,b,c,d,rfl,hL,ha,hb,hc,hd,hR⟩:=h;have la:=bJ ha;have lb:=bJ hb;have lc:=bJ hc;have ld:=bJ hd;have l1:(";":F_).length=1:=rfl;have l2:(",":F_).length=1:=rfl;have l3:("[":F_).length=1:=rfl;have l4:("]":F_).length=1:=rfl;have ls:=uf hL;have lj:=StrLaws.join_length_le "/" L;unfold B12 at ha hb hc hd;refine#[λx=>x=.str ((((((((";":F_)++(toString a:String))++",")++(toString b:String))++";")++(toString c:String))++",")++(toString d:String)),#[_,rfl,KK,?_,?_,_,rfl,KK,?_,?_,_,rfl,KK,?_,?_,_,rfl,KK,?_,rfl],?_]
  .lia
  .rw[aG];lia
  .rw[aG,aG];lia
  .rw[aG,aG,aG];lia
  .rw[aG,aG,aG,aG];lia
  .rw[aG,aG,aG,aG,aG];lia
  .rw[aG,aG,aG,aG,aG,aG];lia
  rintro _ rfl;k_places;have lg:(Txt.join "/" L).length<=72:=by
   have e:Txt.join "/" L=Str.join "/" L:=StrLaws.glued_eq_join _ _;rw[e];exact GW lj ls
  refine#[L,kZ L,KK,?_,?_,?_,hR]
  .lia
  .repeat rw[aG]
   lia
  .repeat rw[aG]
   lia
abbrev jn(V:Bx):Prop:=V.D 3 "_law_motif" lQ BV
def EM(T:V.T "_law_motif" lP lQ)(LD:jl V)(OP:pz V)(OQ:pA V)(OR:pB V):jn V:=by
 refine Tx.okDW T sc__law_motif (λds R h=>?_) (λf cdv A outer s H E J hr=>⟨_,((ai (am 2 sc__law_motif.nd (av LD hr (ac (aa 0) (ac (aa 1) (ac ad ae)))))
   (ai (am 3 sc__law_motif.nd (av OP hr (ac (aa 2) ae)))
   (ai (zv rfl (av OQ hr (ac (aa 2) ae)) (dg_cons 4 sc__law_motif.nd (dg_cons 5 sc__law_motif.nd dI)))
   (ai (am 6 sc__law_motif.nd (aI (ac (aa 3) (ac (aa 4) (ac (aa 5) (ac (aI (ac ad (ac ad (ac ad (ac ad (ac ad (ac ad ae))))))) (ac (br (ac ad (ac ad (ac ad (ac ad (ac ad (ac ad (ac ad ae)))))))) ae)))))))
   (ao (ay (br (ac (av OR hr (ac (aa 3) (ac (aa 4) (ac (aa 5) ae)))) (ac ad (ac (br (ac (aa 6) ae)) ae))))))))))),λds R h=>?_⟩)
 .obtain⟨_,_,rfl,_⟩:=h;rfl
 .obtain⟨ns,k,rfl,hk,hR⟩:=h;refine#[λx=>∃xs:List Int,x=.lst (xs.map D.int)/\xs.length=40/\Drawn xs,#[ns,k,40,rfl,hk,K3,λxs h1 h2=>#[xs,rfl,h1,h2]],?_];rintro _⟨xs,rfl,hl,hd⟩;k_places;refine#[λx=>∃L:List F_,x=.lst (L.map D.str)/\Rows L,#[xs,rfl,KK,hd,λL h=>#[L,rfl,h]],?_];rintro _⟨L,rfl,hL⟩;k_places;refine#[xs,rfl,KK,hd,λa b c d ha hb hc e_ hn=>#[rfl,?_]];refine#[λx=>x=(bu L a b c d).D,#[K',K',K',rfl],?_];rintro _ rfl;k_places;exact#[L,a,b,c,d,rfl,hL,ha,hb,hc,e_,K',K',hR L a b c d hL ha hb hc e_ hn]
abbrev gC(V:Bx):Prop:=V.D 1 "_law_wrapped" lR B4
def EN(T:V.T "_law_wrapped" iA lR)(uY:V.m "str")(Ku:V.m "list")(uF:V.m "int"):gC V:=by
 refine Tx.okDW T sc__law_wrapped (λds R h=>?_) (λf cdv A outer s H E J hr=>⟨_,((ai (bg (si (af (aa 0) ad) ad) (ao (ay (aa 0))) aT)
   (ai (am 2 sc__law_wrapped.nd (bo (aC (aX (aa 1) ad) ad) ad))
   (ai (am 3 sc__law_wrapped.nd (bo (aC (aX (aa 1) ad) ad) ad))
   (ai (am 4 sc__law_wrapped.nd (aj ad (aC (aX (aa 1) ad) ad)))
   (ai (am 5 sc__law_wrapped.nd (aj ad (aC (aX (aa 1) ad) ad)))
   (ai (am 6 sc__law_wrapped.nd (aj (aj (aj (aj aA (cZ uY (ac (aa 2) ae))) aA) (cZ uY (ac (aa 3) ae))) aA))
   (ai (am 7 sc__law_wrapped.nd (af (br (ac aA (ac aA (ac (aa 6) (ac (aj (aj aA (cZ uY (ac (aa 4) ae))) (cZ uY (ac (aa 5) ae))) ae))))) (aC (aa 1) ad)))
   (ai (am 8 sc__law_wrapped.nd (br (ac (aI (ac (ck ad) (ac ad (ac ad (ac ad (ac ad (ac ad ae))))))) (ac (aI (ac ad (ac ad (ac (ck ad) (ac ad (ac ad (ac ad ae))))))) ae))))
   (ai (am 8 sc__law_wrapped.nd (aj (aa 8) (br (ac (aI (ac ad (ac ad (ac ad (ac ad (ac (ck (aa 2)) (ac (ck (aa 3)) ae))))))) (ac (aI (ac ad (ac ad (ac ad (ac ad (ac ad (ac ad ae))))))) ae)))))
   (ai (am 9 sc__law_wrapped.nd (af (aa 8) (aC (aa 1) ad)))
   (ai (fP 10 sc__law_wrapped.nd ae)
   (ai (gZ 11 PassesOwn.never rfl sc__law_wrapped.nd (af (aa 0) ad) (ai (kz rfl (af (aa 11) ad) (dg_cons 12 sc__law_wrapped.nd (dg_cons 13 sc__law_wrapped.nd (dg_cons 14 sc__law_wrapped.nd (dg_cons 15 sc__law_wrapped.nd (dg_cons 16 sc__law_wrapped.nd (dg_cons 17 sc__law_wrapped.nd dI)))))))
    (ai (am 18 sc__law_wrapped.nd (aI (ac (aj (aw (aa 12) (af (aa 9) ad)) (aw (aa 13) (af (aa 9) ad))) (ac (aj (aw (aa 12) (af (aa 9) ad)) (aw (aa 13) (af (aa 9) ad))) ae))))
    (ai (am 18 sc__law_wrapped.nd (aj (aa 18) (aI (ac (aj (aw (aa 14) (af (aa 9) ad)) (aw (aa 15) (af (aa 9) ad))) (ac (aj (aw (aa 14) (af (aa 9) ad)) (aw (aa 15) (af (aa 9) ad))) ae)))))
    (ai (am 16 sc__law_wrapped.nd (aj (aj (aa 16) (aw (aa 12) (af (aa 9) ad))) (aw (aa 13) (af (aa 9) ad))))
    (ai (am 17 sc__law_wrapped.nd (aj (aj (aa 17) (aw (aa 14) (af (aa 9) ad))) (aw (aa 15) (af (aa 9) ad))))
    (ai (am 19 sc__law_wrapped.nd (zj Ku (ac (af (aa 11) ad) ae)))
    (ai (fO (bc (aC (aa 1) ad) ad) (ao (zA 19 rfl (compScope (by change cP _ (ag iA) ["_law_part","_law_draw","_law_across","_law_down","_law_old","_law_new","_law_shift","_law_head","_law_ways","_law_by","_law_leaves","_law_leaf","_law_a","_law_b","_law_c","_law_d","_law_e","_law_f","_law_way","_law_hues"] _=true;decide+kernel)) sc__law_wrapped.nd (af (aa 11) ad) (λcl s0 H0 fp=>(af (br (ac (aa 20) (ac (aa 5) ae))) (hU uF (ac (dH (aa 20) (aa 4)) ae)))))) aT)
    (ao (fQ 10 (aI (ac (af (aa 11) ad) (ac (af (aa 11) ad) (ac (af (aa 11) ad) (ac (aj (aa 18) (aI (ac (aa 16) (ac (aa 17) ae)))) (ac (aa 19) ae))))))))))))))))
   (cY 10 (ao (ay (br (ac (aj (aa 7) (af (aa 0) ad)) (ac (aj (af (aa 0) ad) ad) (ac (aa 10) ae)))))))))))))))))))),λds R h=>?_⟩)
 .obtain⟨_,_,rfl,_⟩:=h;rfl
 .obtain⟨p,draw,rfl,wf,hd,ht,hW⟩:=h;refine#[_,rfl,ite2 (λc=>?_) (λc=>?_)]
  .have c':=of_decide_eq_true c;exact hW.1 KK
  have c':=of_decide_eq_false (Hm.mpr c);have e_:p.depth<5:=KK
  refine#[λd=>∃v:Int,d=.int v/\B12 v,#[#[K3,K3],K3,_,rfl,by unfold B12;lia],?_];rintro _⟨A,rfl,hA⟩;simp only[G6,G8,aY];refine#[λd=>∃v:Int,d=.int v/\B12 v,#[#[K3,K3],K3,_,rfl,by unfold B12;lia],?_];rintro _⟨B,rfl,hB⟩;simp only[G6,G8,aY];refine#[λd=>∃v:Int,d=.int v/\1<=v/\v<=6,#[#[K3,K3],K3,_,rfl,KK],?_];rintro _⟨d6,rfl,ho⟩;simp only[G6,G8,aY];refine#[λd=>∃v:Int,d=.int v/\1<=v/\v<=6,#[#[K3,K3],K3,_,rfl,KK],?_];rintro _⟨new,rfl,hn⟩;simp only[G6,G8,aY];have l1:("s":F_).length=1:=rfl;have l2:(",":F_).length=1:=rfl;have l3:(":":F_).length=1:=rfl;have l4:("h":F_).length=1:=rfl;have lA:=bJ hA;have lB:=bJ hB;have lo:=fg ho;have ln:=fg hn;obtain⟨hs,b0,b1,b2,b3,b4,b5,e1,e2,hb,hl,hR⟩:=B2 hW e_ (k:=0) hA hB ho hn KK;unfold B12 at hA hB;refine#[λx=>x=.str ((((("s":F_)++(toString A:String))++",")++(toString B:String))++":"),#[KK,?_,?_,KK,?_,?_,rfl],?_]
  .lia
  .rw[aG];lia
  .rw[aG,aG];lia
  .rw[aG,aG,aG];lia
  rintro _ rfl;simp only[G6,G8,aY];refine#[λx=>x=.str hs,#[KK,?_,KK,?_,K',K3,_,e1,rfl],?_]
  .lia
  .rw[aG];lia
  rintro _ rfl;simp only[G6,G8,aY];refine#[λx=>x=.lst [D.tup [.int (-1),.int 0,.int 0,.int 1,.int 0,.int 0],D.tup [.int 0,.int 1,.int (-1),.int 0,.int 0,.int 0]],#[K',K',K',rfl],?_];rintro _ rfl;simp only[G6,G8,aY];refine#[λx=>x=.lst ([D.tup [.int (-1),.int 0,.int 0,.int 1,.int 0,.int 0],D.tup [.int 0,.int 1,.int (-1),.int 0,.int 0,.int 0]]++[D.tup [.int 1,.int 0,.int 0,.int 1,.int (-A),.int (-B)],D.tup [.int 1,.int 0,.int 0,.int 1,.int 0,.int 0]]),#[K',K',K',K',rfl],?_];rintro _ rfl;simp only[G6,G8,aY];refine#[λx=>x=.tup [.int b0,.int b1,.int b2,.int b3,.int b4,.int b5],#[K3,_,e2,rfl],?_];rintro _ rfl;simp only[G6,G8,aY];refine#[K',?_];generalize D.str ((((("s":F_)++(toString A:String))++",")++(toString B:String))++":")=sD;generalize D.lst ([D.tup [.int (-1),.int 0,.int 0,.int 1,.int 0,.int 0],D.tup [.int 0,.int 1,.int (-1),.int 0,.int 0,.int 0]]++[D.tup [.int 1,.int 0,.int 0,.int 1,.int (-A),.int (-B)],D.tup [.int 1,.int 0,.int 0,.int 1,.int 0,.int 0]])=wD;clear e1 e2 hW lA lB lo ln l1 l2 l3 l4 hA hB c';refine#[_,rfl,λk z=>∃Lk Ll u_ v3 OS OT OU OV LF:Option D,z=[be p.D,be (.int draw),be (.int A),be (.int B),be (.int d6),be (.int new),be sD,be (.str hs),be wD,be (.tup [.int b0,.int b1,.int b2,.int b3,.int b4,.int b5]),be (.own (((p.leaves.take k).map (Leaf.T (decide (draw%4=3)) d6 new b0 b1 b2 b3 b4 b5)).map Leaf.D)),Lk,Ll,u_,v3,OS,OT,OU,OV,LF],#[_,_,_,_,_,_,_,_,_,rfl],?_,?_]
  .rintro k v z hk⟨Lk,Ll,u_,v3,OS,OT,OU,OV,LF,rfl⟩;k_places;rw[GY]at hk;have o6:k<p.leaves.length:=by
    rcases H8 k p.leaves.length with q|q
    .exact q
    .rw[Ho q]at hk;cases hk
   have LG:p.leaves[k]?=be p.leaves[k]:=G4 o6;rw[LG]at hk;cases hk;obtain⟨gd,nr⟩:=Pat.leaf_good wf p.leaves[k] (Hg o6);have b7:(p.leaves.take k).length<=1000:=by rw[Im];have:=Pat.leaves_32 hd;lia
   generalize p.leaves[k]=l at LG gd nr;obtain⟨r0,r1,r2,r3⟩:=nr.unit;obtain⟨q0,q1,q2,q3,q4,q5⟩:=hb;refine#[_,rfl,rfl,?_];simp only[G6,G8,aY];refine#[λx=>x=.tup [.int (l.w0*b0+l.w1*b2),.int (l.w0*b1+l.w1*b3)],#[_,rfl,.inr (n64 q0),_,rfl,.inr (n64 q2),_,rfl,.inr (n64 q1),_,rfl,.inr (n64 q3),K',rfl],?_];rintro _ rfl;simp only[G6,G8,aY];refine#[λx=>x=.tup [.int (l.w0*b0+l.w1*b2),.int (l.w0*b1+l.w1*b3),.int (l.w2*b0+l.w3*b2),.int (l.w2*b1+l.w3*b3)],#[_,rfl,.inr (n64 q0),_,rfl,.inr (n64 q2),_,rfl,.inr (n64 q1),_,rfl,.inr (n64 q3),K',K',rfl],?_];rintro _ rfl;simp only[G6,G8,aY];refine#[λx=>x=.int (l.w4+l.w0*b4+l.w1*b5),#[_,rfl,.inr (n64 q4),_,rfl,.inr (n64 q5),rfl],?_];rintro _ rfl;simp only[G6,G8,aY];refine#[λx=>x=.int (l.w5+l.w2*b4+l.w3*b5),#[_,rfl,.inr (n64 q4),_,rfl,.inr (n64 q5),rfl],?_];rintro _ rfl;simp only[G6,G8,aY];refine#[λx=>x=.lst (l.hues.map D.int),#[_,rfl,rfl],?_];rintro _ rfl;simp only[G6,G8,aY];refine#[λz=>∃LF:List Int,LF=(Leaf.T (decide (draw%4=3)) d6 new b0 b1 b2 b3 b4 b5 l).hues/\z=[be p.D,be (.int draw),be (.int A),be (.int B),be (.int d6),be (.int new),be sD,be (.str hs),be wD,be (.tup [.int b0,.int b1,.int b2,.int b3,.int b4,.int b5]),be (.own (((p.leaves.take k).map (Leaf.T (decide (draw%4=3)) d6 new b0 b1 b2 b3 b4 b5)).map Leaf.D)),be l.D,be (.int l.w0),be (.int l.w1),be (.int l.w2),be (.int l.w3),be (.int (l.w4+l.w0*b4+l.w1*b5)),be (.int (l.w5+l.w2*b4+l.w3*b5)),be (.tup [.int (l.w0*b0+l.w1*b2),.int (l.w0*b1+l.w1*b3),.int (l.w2*b0+l.w3*b2),.int (l.w2*b1+l.w3*b3)]),be (.lst (LF.map D.int))],#[K3,ite2 (λc=>?_) (λc=>?_)],?_]
   .have c3:=of_decide_eq_true c;refine#[λx=>x=.lst ((l.hues.map (bK d6 new)).map D.int),#[_,rfl,by rw[GT,gd.many];decide,λk ys=>ys=((l.hues.take k).map (bK d6 new)).map D.int,rfl,?_,?_],?_]
    .rintro k' x ys hx hl rfl;rw[GY]at hx;cases e:l.hues[k']? with
     |none=>rw[e]at hx;cases hx
     |some hu=>
      rw[e]at hx;cases hx;refine#[K',_,B3 hu d6 new,?_];dsimp only;rw[lm e];simp
    .rintro ys hl rfl;rw[GT,IH]
    .rintro _ rfl;k_places;exact#[_,by simp[Leaf.T,c3,Leaf.dye,Leaf.by],rfl]
   .have c3:=of_decide_eq_false (Hm.mpr c);exact#[_,by simp[Leaf.T,c3,Leaf.by],rfl]
   rintro _⟨hu,R6,rfl⟩;k_places;refine#[_,rfl,_,rfl,_,rfl,K',K',K',by rw[GT,GT];lia,?_];have eT:(D.tup [.lst (l.rows.map D.str),.tup [.int l.a,.int l.b],.tup [.int l.c,.int l.d],.tup ([.int (l.w0*b0+l.w1*b2),.int (l.w0*b1+l.w1*b3),.int (l.w2*b0+l.w3*b2),.int (l.w2*b1+l.w3*b3)]++[.int (l.w4+l.w0*b4+l.w1*b5),.int (l.w5+l.w2*b4+l.w3*b5)]),.lst (hu.map D.int)])=(Leaf.T (decide (draw%4=3)) d6 new b0 b1 b2 b3 b4 b5 l).D:=by
    rw[R6];by_cases c3:draw%4=3
    .simp[Leaf.T,c3,Leaf.D,Leaf.dye,Leaf.by]
    .simp[Leaf.T,c3,Leaf.D,Leaf.by]
   have e9:((p.leaves.take (k+1)).map (Leaf.T (decide (draw%4=3)) d6 new b0 b1 b2 b3 b4 b5)).map Leaf.D=((p.leaves.take k).map (Leaf.T (decide (draw%4=3)) d6 new b0 b1 b2 b3 b4 b5)).map Leaf.D++[(Leaf.T (decide (draw%4=3)) d6 new b0 b1 b2 b3 b4 b5 l).D]:=by
    rw[lm LG,Hj,Hj,G7,G7,HX,HX]
   rw[e9,<-eT];exact#[_,_,_,_,_,_,_,_,_,rfl]
  .rintro z⟨Lk,Ll,u_,v3,OS,OT,OU,OV,LF,rfl⟩;k_places;rw[GT,IH];refine#[_,rfl,KK,_,rfl,K',hR]
abbrev jp(V:Bx):Prop:=V.D 1 "_law_gcd" lV Bz
def EO(T:V.T "_law_gcd" lU lV)(uP:V.m "abs"):jp V:=by
 refine Tx.okDW T sc__law_gcd (λds R h=>?_) (λf cdv A outer s H E J hr=>⟨_,((ai (am 0 sc__law_gcd.nd (eE uP (ac (aa 0) ae)))
   (ai (am 1 sc__law_gcd.nd (eE uP (ac (aa 1) ae)))
   (ai (fR PassesOwn.never (cM (aa 1) ad) (ao (ze 0 1 rfl sc__law_gcd.nd (ac (aa 1) (ac (aC (aa 0) (aa 1)) ae)))))
   (ao (ay (aa 0))))))),λds R h=>?_⟩)
 .obtain⟨x,y,rfl,_⟩:=h;rfl
 .obtain⟨x,y,rfl,hR⟩:=h;refine#[λd=>d=.int (if x<0 then -x else x),rfl,?_];rintro _ rfl;k_places;refine#[λd=>d=.int (if y<0 then -y else y),rfl,?_];rintro _ rfl;k_places;have hx:0<=(if x<0 then -x else x):=by split<;>lia
  have hy:0<=(if y<0 then -y else y):=by split<;>lia
  have OW:∀e,(e∣(if x<0 then -x else x)/\e∣(if y<0 then -y else y))↔(e∣x/\e∣y):=λe=>by rw[tY,tY]
  generalize (if x<0 then -x else x)=a at hx OW ⊢;generalize (if y<0 then -y else y)=b at hy OW ⊢;refine#[λm z=>∃a b:Int,z=[be (.int a),be (.int b)]/\0<=a/\0<=b/\(∀e,(e∣a/\e∣b)↔(e∣x/\e∣y))/\m=b.toNat,#[_,a,b,rfl,hx,hy,OW,rfl],?_];rintro m z⟨a,b,rfl,ha,hb,Mz,rfl⟩;k_places;refine ite2 (λc=>?_) (λc=>?_)
  .have c':¬b=0:=by simpa using c
   have q1:=cQ (a:=a) (show 0<b by lia);have q2:=cR (a:=a) (show 0<b by lia);refine#[KK,_,?_,b,a%b,rfl,hb,q1,λe=>?_,rfl]
   .lia
   .rw[<-Mz e];constructor
    .rintro⟨h1,h2⟩;exact#[(tZ h1).mp h2,h1]
    .rintro⟨h1,h2⟩;exact#[h2,(tZ h2).mpr h1]
  .have c':b=0:=by simpa using c
   subst c';have g:=(Mz a).mp #[Int.dvd_refl a,Int.dvd_zero a];exact hR a ha g.1 g.2 λe h1 h2=>((Mz e).mpr #[h1,h2]).1
abbrev jq(V:Bx):Prop:=V.D 1 "_law_on" lY By
def EQ(T:V.T "_law_on" lW lY):jq V:=by
 refine Tx.okDW T sc__law_on (λds R h=>?_) (λf cdv A outer s H E J hr=>⟨_,((ai (am 4 sc__law_on.nd (bo (aw (af (aa 0) ad) (af (aa 1) ad)) (aw (af (aa 0) ad) (af (aa 1) ad))))
   (ao (ay (gX (dH (rT (bo (aw (aa 2) (af (aa 1) ad)) (aw (aa 3) (af (aa 1) ad))) (aa 4)) ad) (gW (dH (rT (bo (aw (af (aa 0) ad) (aa 3)) (aw (af (aa 0) ad) (aa 2))) (aa 4)) ad))))))),λds R h=>?_⟩)
 .obtain⟨a,b,c,d,u,v,rfl,_⟩:=h;rfl
 .obtain⟨a,b,c,d,u,v,rfl,ha,hb,hc,hd,hn,hR⟩:=h;have LH:∀{x:Int},x.natAbs<1073741824->-(2^64)<x/\x<2^64:=λh=>n64 (Nat.le_of_lt_succ h);refine#[λx=>x=.int (a*d-b*c),#[_,rfl,_,rfl,.inl (LH ha),_,rfl,_,rfl,.inl (LH hb),rfl],?_];rintro _ rfl;k_places;refine#[_,rfl,.inr (LH hd),_,rfl,.inr (LH hc),K_,ite2 (λe=>?_) (λe=>?_)]
  .have e':=of_decide_eq_true e;refine#[_,rfl,.inl (LH ha),_,rfl,.inl (LH hb),K_,?_];have q:decide ((a*v-b*u).fmod (a*d-b*c)=0)=decide ((u*d-v*c).fmod (a*d-b*c)=0/\(a*v-b*u).fmod (a*d-b*c)=0):=by simp[e']
   have g:R (.bl (decide ((a*v-b*u).fmod (a*d-b*c)=0))):=by rw[q];exact hR
   exact g
  .have e':=of_decide_eq_false (Hm.mpr e);have q:decide ((u*d-v*c).fmod (a*d-b*c)=0/\(a*v-b*u).fmod (a*d-b*c)=0)=false:=by simp[e']
   rw[q]at hR;exact hR
abbrev pC(V:Bx):Prop:=V.D 2 "_law_leaf_family" me B6
def ER(T:V.T "_law_leaf_family" lZ me)(uP:V.m "abs")(LI:jp V)(LJ:jq V):pC V:=by
 refine Tx.okDW T sc__law_leaf_family (λds R h=>?_) (λf cdv A outer s H E J hr=>⟨_,((ai (kz rfl (af (aa 0) ad) (dg_cons 1 sc__law_leaf_family.nd (dg_cons 2 sc__law_leaf_family.nd (dg_cons 3 sc__law_leaf_family.nd (dg_cons 4 sc__law_leaf_family.nd (dg_cons 5 sc__law_leaf_family.nd (dg_cons 6 sc__law_leaf_family.nd dI)))))))
   (ai (am 7 sc__law_leaf_family.nd (aI (ac (aj (aw (aa 1) (af (af (aa 0) ad) ad)) (aw (aa 3) (af (af (aa 0) ad) ad))) (ac (aj (aw (aa 2) (af (af (aa 0) ad) ad)) (aw (aa 4) (af (af (aa 0) ad) ad))) ae))))
   (ai (am 8 sc__law_leaf_family.nd (aI (ac (aj (aw (aa 1) (af (af (aa 0) ad) ad)) (aw (aa 3) (af (af (aa 0) ad) ad))) (ac (aj (aw (aa 2) (af (af (aa 0) ad) ad)) (aw (aa 4) (af (af (aa 0) ad) ad))) ae))))
   (ai (am 9 sc__law_leaf_family.nd (av LI hr (ac (af (aa 7) ad) (ac (af (aa 8) ad) ae))))
   (ai (am 10 sc__law_leaf_family.nd (aX (eE uP (ac (bo (aw (af (aa 7) ad) (af (aa 8) ad)) (aw (af (aa 7) ad) (af (aa 8) ad))) ae)) (aa 9)))
   (ai (am 11 sc__law_leaf_family.nd ad)
   (ai (fR PassesOwn.never (fN (cE (av LJ hr (ac (aa 7) (ac (aa 8) (ac (aa 11) (ac (aa 9) ae))))))) (ao (am 11 sc__law_leaf_family.nd (aj (aa 11) ad))))
   (ao (ay (aI (ac (aa 10) (ac (aa 9) (ac (aa 11) ae)))))))))))))),λds R h=>?_⟩)
 .obtain⟨_,_,rfl,_⟩:=h;rfl
 .obtain⟨l,n,rfl,gd,nr,hR⟩:=h;obtain⟨h0,h1,h2,h3⟩:=nr.unit;obtain⟨z0,z1,z2,z3,ne,z5⟩:=Leaf.sizes gd nr;have ha:=gd.a;have hb:=gd.b;have hc:=gd.c;have hd:=gd.d;unfold B12 at ha hb hc hd;refine#[_,rfl,rfl,?_];simp only[G6,G8,aY];refine#[λx=>x=.tup [.int l.o0,.int l.o1],#[_,rfl,_,rfl,.inl (u64 h0),_,rfl,_,rfl,.inl (u64 h2),_,rfl,_,rfl,.inl (u64 h1),_,rfl,_,rfl,.inl (u64 h3),K',rfl],?_];rintro _ rfl;k_places;refine#[λx=>x=.tup [.int l.t0,.int l.t1],#[_,rfl,_,rfl,.inl (u64 h0),_,rfl,_,rfl,.inl (u64 h2),_,rfl,_,rfl,.inl (u64 h1),_,rfl,_,rfl,.inl (u64 h3),K',rfl],?_];rintro _ rfl;k_places;generalize l.o0=o0 at*;generalize l.o1=o1 at*;generalize l.t0=t0 at*;generalize l.t1=t1 at*;refine#[λx=>∃g:Int,x=.int g/\0<=g/\g∣o1/\g∣t1/\∀e,e∣o1->e∣t1->e∣g,#[_,rfl,_,rfl,o1,t1,rfl,λg q0 q1 q2 q3=>#[g,rfl,q0,q1,q2,q3]],?_];rintro _⟨g,rfl,q0,q1,q2,q3⟩;k_places;obtain⟨w,s,f⟩:=B5 ne q0 q1 q2 q3;have hg:=f.2.1;have k1:=bQ (a:=o0) (d:=t1) (A:=24) (B:=24) z0 z3;have k2:=bQ (a:=o1) (d:=t0) (A:=24) (B:=24) z1 z2;have S9:=f.bd (N:=288) z5;have g9:=f.cells;have ew:(if o0*t1-o1*t0<0 then -(o0*t1-o1*t0)else o0*t1-o1*t0)/g=w:=by
   have hp:=G5 f.1 hg;have:(if o0*t1-o1*t0<0 then -(o0*t1-o1*t0)else o0*t1-o1*t0)=w*g:=by split<;>lia
   rw[this];exact Hn _ KK
  refine#[λx=>x=.int w,#[_,rfl,_,rfl,.inl (n64 z0),_,rfl,_,rfl,.inl (n64 z1),#[KK,KK],?_],?_]
  .exact congrArg D.int ew
  rintro _ rfl;k_places;refine#[λx=>x=.int 0,rfl,?_];rintro _ rfl;k_places;have hp:=G5 f.1 hg;refine#[λm z=>∃x:Int,z=[be l.D,be (.int l.w0),be (.int l.w1),be (.int l.w2),be (.int l.w3),be (.int l.w4),be (.int l.w5),be (.tup [.int o0,.int o1]),be (.tup [.int t0,.int t1]),be (.int g),be (.int w),be (.int x)]/\0<=x/\x<=s/\m=(s-x).toNat,#[_,0,rfl,KK,f.2.2.1,rfl],?_];rintro m z⟨x,rfl,x0,x1,rfl⟩;k_places;refine#[o0,o1,t0,t1,x,g,rfl,KK,KK,KK,KK,ne,?_];refine ite2 (λc=>?_) (λc=>?_)
  .have c':¬((x*t1-g*t0).fmod (o0*t1-o1*t0)=0/\(o0*g-o1*x).fmod (o0*t1-o1*t0)=0):=notT c;have xs:x≠s:=by
    rintro rfl;obtain⟨_,_,_,_,m',n',k',l',_,e1,e2,e3,e4⟩:=id f;exact c' (tV e3 e4)
   refine#[λd=>d=.int (x+1),rfl,?_];rintro _ rfl;k_places;exact#[_,KK,x+1,rfl,KK,KK,rfl]
  .have c':(x*t1-g*t0).fmod (o0*t1-o1*t0)=0/\(o0*g-o1*x).fmod (o0*t1-o1*t0)=0:=by
    exact notF c
   obtain⟨i,j,e1,e2⟩:=uo ne c';have:x=s:=f.uniq_lean e1 e2 x0 x1;subst this;exact#[K',hR w g x f KK]
abbrev pD(V:Bx):Prop:=V.D 1 "_law_in_family" mi Bw
def ES(T:V.T "_law_in_family" mf mi):pD V:=by
 refine Tx.okDW T DJ (λds R h=>?_) (λf cdv A outer s H E J hr=>#[_,((ao (ay (gX (dH (aC (aa 2) (af (aa 0) ad)) ad) (gW (dH (aC (bo (aa 1) (aw (aX (aa 2) (af (aa 0) ad)) (af (aa 0) ad))) (af (aa 0) ad)) ad)))))),λds R h=>?_])
 .obtain⟨w,h,s,x,y,rfl,_⟩:=h;rfl
 .obtain⟨w,h,s,x,y,rfl,hw,hh,B_,hs,n4,hR⟩:=h;refine#[_,rfl,hh,ite2 (λc=>?_) (λc=>?_)]
  .have c':=of_decide_eq_true c;refine#[_,rfl,#[hh,B_],_,rfl,.inr #[KK,KK],_,rfl,hw,?_];have e:decide ((x-y/h*s)%w=0)=decide (y%h=0/\(x-y/h*s)%w=0):=by simp[c']
   have g:R (.bl (decide ((x-y/h*s)%w=0))):=by rw[e];exact hR
   exact g
  .have c':=of_decide_eq_false (Hm.mpr c);have e:decide (y%h=0/\(x-y/h*s)%w=0)=false:=by simp[c']
   rw[e]at hR;exact hR
abbrev pE(V:Bx):Prop:=V.D 2 "_law_both" ml B9
def ET(T:V.T "_law_both" mj ml)(LI:jp V)(OX:pD V):pE V:=by
  refine Tx.okDW T sc__law_both (λds R h=>?_) (λf cdv A outer s H E J hr=>⟨_,((ai (am 2 sc__law_both.nd (aX (aw (af (aa 0) ad) (af (aa 1) ad)) (av LI hr (ac (af (aa 0) ad) (ac (af (aa 1) ad) ae)))))
      (ai (am 3 sc__law_both.nd (af (aa 0) ad))
      (ai (fR PassesOwn.never (ku (aw (aa 2) (aa 3)) ad) (ai (am 4 sc__law_both.nd (aC (aw (af (aa 0) ad) (aX (aa 3) (af (aa 0) ad))) (af (aa 0) ad)))
        (ai (fR PassesOwn.never (fJ (aa 4) (aa 2)) (ai (bg (cE (av OX hr (ac (aa 1) (ac (aa 4) (ac (aa 3) ae))))) (ao (ay (aI (ac (aa 2) (ac (aa 3) (ac (aa 4) ae)))))) aT)
          (ao (am 4 sc__law_both.nd (aj (aa 4) (af (aa 0) ad))))))
        (ao (am 3 sc__law_both.nd (aj (aa 3) (af (aa 0) ad)))))))
      (ao (ay bV)))))),λds R h=>?_⟩)
  . obtain⟨_,_,_,_,_,_,rfl,_⟩:=h;rfl
  . obtain⟨w1,h1,s1,w2,h2,s2,rfl,f1,f2,hR⟩:=h;obtain⟨a1,a2,a3,a4,a5,a6⟩:=f1;obtain⟨b1,b2,b3,b4,b5,b6⟩:=f2;obtain⟨g,u,W,Hh,S,A,M1,eW,M⟩:=B8 #[a1,a2,a3,a4,a5,a6] #[b1,b2,b3,b4,b5,b6];have Qz:=hR W Hh S A M;have wb:W<=518400:=by
      have:=(kY a1 b1 M1).2.1;have:=bQ (a:=w1) (d:=w2) (A:=720) (B:=720) KK KK;lia
    have mw:=M.w0;have mh:=M.h0;have ms:=M.s0;have S':=M.sw;refine#[λx=>x=.int W,#[_,rfl,_,rfl,.inl #[KK,KK],_,rfl,_,rfl,w1,w2,rfl,λG q0 q1 q2 q3=>?_],?_]
    . have eG:=M1.gcd q0 q1 q2 q3;subst eG;have hg:=M1.pos a1;have OY:=M1.le a1;exact#[#[hg,KK],by rw[<-eW]]
    rintro _ rfl;k_places;refine#[λx=>x=.int h1,#[_,rfl,rfl],?_];rintro _ rfl;k_places;obtain⟨i0,j0,eS,eH⟩:=M.up1;have R7:1<=j0:=by
      rcases(KK:j0<=0\/1<=j0)with z|z
      . have:=HS z (show 0<=h1 by lia);lia
      . exact z
    refine#[λm z=>∃(j:Int) (o:Option D),z=[be (.tup [.int w1,.int h1,.int s1]),be (.tup [.int w2,.int h2,.int s2]),be (.int W),be (.int (j*h1)),o]/\1<=j/\j<=j0/\m=(j0-j).toNat,#[_,1,_,by rw[Int.one_mul];rfl,KK,R7,rfl],?_];rintro m z⟨j,o,rfl,Kv,R8,rfl⟩;k_places;have R9:0<j*h1:=G5 KK a3;have R_:j*h1<=Hh:=by
      rw[eH];exact Hk R8 KK
    have S_:=JQ R_ (show 0<=W by lia);refine#[.inl #[KK,KK],ite2 (λc=>?_) (λc=>?_)]
    . have c':=of_decide_eq_true c;have Ta:j*h1<=720:=by
        have:=(dh (w:=W) (h:=j*h1) mw R9).2;lia
      have Sa:j*h1/h1=j:=Hn _ KK;refine#[λx=>∃v:Int,x=.int v/\0<=v/\v<w1/\∃i,v=i*w1+j*s1,#[_,rfl,_,rfl,#[KK,KK],.inl #[KK,KK],_,rfl,a1,_,rfl,cQ a1,cR a1,?_],?_]
      . rw[Sa];refine#[-(s1*j/w1),?_];have:=HR (s1*j) w1;rw[this];have e1:s1*j=j*s1:=Hd _ _;have e2:w1*(s1*j/w1)=s1*j/w1*w1:=Hd _ _;rw[e2,Jd];lia
      rintro _⟨x0,rfl,x1,x2,i1,QA⟩;k_places;refine#[λm z=>∃(x:Int),z=[be (.tup [.int w1,.int h1,.int s1]),be (.tup [.int w2,.int h2,.int s2]),be (.int W),be (.int (j*h1)),be (.int x)]/\0<=x/\(∃i,x=i*w1+j*s1)/\(j=j0->x<=S)/\m=(W-x).toNat,#[_,x0,rfl,x1,#[i1,QA],λej=>?_,rfl],?_]
      . subst ej;obtain⟨k,ek,k0⟩:=Ca a1 x2 x1 ms eS #[i1,QA];have:=Ja k0 (show 0<=w1 by lia);lia
      rintro m z⟨x,rfl,y0,⟨i2,ex⟩,yS,rfl⟩;k_places;refine ite2 (λc=>?_) (λc=>?_)
      . have cW:=of_decide_eq_true c;refine#[w2,h2,s2,x,j*h1,rfl,b1,b3,KK,b5,KK,?_];refine ite2 (λq=>?_) (λq=>?_)
        . have q':=of_decide_eq_true q;obtain⟨i3,k3,e3,e4⟩:=B7 q';obtain⟨z1,z2⟩:=M.high a3 Kv #[i2,ex] #[i3,k3,e3,e4];have OZ:j*h1=Hh:=by lia
          have:=z2 OZ y0 cW;subst this;have:=Qz.1 (by rw[<-OZ];lia);rw[<-OZ]at this;exact#[K',this]
        . have q':=of_decide_eq_false (Hm.mpr q);refine#[λd=>d=.int (x+w1),#[_,rfl,rfl],?_];rintro _ rfl;k_places;refine#[_,KK,x+w1,rfl,KK,#[i2+1,Md],λej=>?_,rfl];subst ej;have hx:=yS rfl;have ne:x≠S:=by
            rintro rfl;obtain⟨i4,j4,e5,e6⟩:=M.up2;exact q' (in_fam (i:=i4) (j:=j4) b3 e5 (by rw[<-eH];exact e6))
          have:∃t:Int,S=x+t*w1:=#[i0-i2,by rw[ex];grind];obtain⟨t,et⟩:=this;have t1:1<=t:=by
            rcases(KK:t<=0\/1<=t)with z|z
            . have:=HS z (show 0<=w1 by lia);lia
            . exact z
          have:=Hk t1 (show 0<=w1 by lia);lia
      . have cW:=of_decide_eq_false (Hm.mpr c);have Tb:j<j0:=by
          rcases(KK:j<j0\/j=j0)with z|z
          . exact z
          . have:=yS z;lia
        refine#[λd=>d=.int ((j+1)*h1),#[_,rfl,by congr 1;grind],?_];rintro _ rfl;k_places;exact#[_,KK,j+1,_,rfl,KK,KK,rfl]
    . have c':=of_decide_eq_false (Hm.mpr c);exact Qz.2 KK
abbrev jr(V:Bx):Prop:=V.D 3 "_law_family" mn lr
def EU(T:V.T "_law_family" mm mn)(Ny:pC V)(O1:pE V):jr V:=by
  refine Tx.okDW T sc__law_family (λds R h=>?_) (λf cdv A outer s H E J hr=>⟨_,((ai (am 1 sc__law_family.nd (av Ny hr (ac (af (aa 0) ad) ae)))
      (ai (gZ 2 PassesOwn.never rfl sc__law_family.nd (zr (aa 0) ad) (ai (am 1 sc__law_family.nd (av O1 hr (ac (aa 1) (ac (av Ny hr (ac (aa 2) ae)) ae))))
        (ao (bg (sj (aa 1) bV) (ao (ay bV)) aT))))
      (ao (ay (aa 1)))))),λds R h=>?_⟩)
  . obtain⟨_,_,rfl,_⟩:=h;rfl
  . obtain⟨ls,n,rfl,j8,hg,hR⟩:=h;cases ls with
    |nil=>exact absurd rfl j8
    |cons l0 ls=>
    refine#[λx=>∃w h s:Int,x=.tup [.int w,.int h,.int s]/\FamOf l0.o0 l0.o1 l0.t0 l0.t1 w h s/\w*h<=288,#[_,bH (j:=0) rfl,l0,n,rfl,(hg l0 GS).1,(hg l0 GS).2,λw h s f q=>#[w,h,s,rfl,f,q]],?_];rintro _⟨w0,h0,s0,rfl,f0,q0⟩;k_places
    try simp only[G6,G8]
    have ec:cutD (Iq Leaf.D (l0::ls)) (be 1) t9=ls.map Leaf.D:=by rw[G7,cut1]
    refine#[λk z=>∃(w h s:Int) (o:Option D),z=[be (.lst ((l0::ls).map Leaf.D)),be (.tup [.int w,.int h,.int s]),o]/\Fam0 w h s/\w*h<=720/\∀x y,InF w h s x y↔bT (l0::ls.take k) x y,#[w0,h0,s0,_,rfl,#[f0.1,f0.2.1,f0.2.2.1,f0.2.2.2.1],KK,λx y=>?_],?_,?_]
    . rw[f0.lat];constructor
      . intro q l z;rcases GP.mp z with e|e
        . rw[e];exact q
        . cases e
      . intro q;exact q l0 GS
    . rintro k v z hk⟨w,h,s,o,rfl,fm,QB,lat⟩;k_places;rw[ec,GY]at hk;have o6:k<ls.length:=by
        rcases H8 k ls.length with q|q
        . exact q
        . rw[Ho q]at hk;cases hk
      have LG:ls[k]?=be ls[k]:=G4 o6;rw[LG]at hk;cases hk;obtain⟨gd,nr⟩:=hg ls[k] (GQ _ (Hg o6));have KN:∀l∈ls.drop (k+1),l.Good/\l.Near n:=λl q=>hg l (GQ _ (Jp q));have I_:∀x y,bT (l0::ls) x y↔(bT (l0::ls.take k) x y/\ls[k].Lat x y)/\bT (ls.drop (k+1)) x y:=λx y=>by
        have ed:ls=ls.take k++ls[k]::ls.drop (k+1):=by rw[<-HU o6,Kf]
        constructor
        . intro q;refine#[#[λl z=>?_,q _ (GQ _ (Hg o6))],λl z=>q l (GQ _ (Jp z))];rcases GP.mp z with e|e
          . exact q l (e ▸ GS)
          . exact q l (GQ _ (List.mem_of_mem_take e))
        . rintro⟨⟨q1,q2⟩,q3⟩ l z;rcases GP.mp z with e|e
          . exact q1 l (e ▸ GS)
          . rw[ed]at e;rcases Hi.mp e with e|e
            . exact q1 l (GQ _ e)
            . rcases GP.mp e with e|e
              . rw[e];exact q2
              . exact q3 l e
      have i9:∀x y,bT (l0::ls.take (k+1)) x y↔bT (l0::ls.take k) x y/\ls[k].Lat x y:=λx y=>by
        rw[lm LG];constructor
        . intro q;refine#[λl z=>q l ?_,q _ (GQ _ (Ha _ GS))];rcases GP.mp z with e|e
          . rw[e];exact GS
          . exact GQ _ (HV _ e)
        . rintro⟨q1,q2⟩ l z;rcases GP.mp z with e|e
          . exact q1 l (e ▸ GS)
          . rcases Hi.mp e with e|e
            . exact q1 l (GQ _ e)
            . rw[GM.mp e];exact q2
      generalize ls[k]=l at gd nr I_ i9;obtain⟨p1,p2⟩:=dh fm.w0 fm.h0;refine#[λx=>(∃w h s:Int,x=.tup [.int w,.int h,.int s]/\Fam0 w h s/\w*h<=720/\∀x y,InF w h s x y↔bT (l0::ls.take (k+1)) x y)\/(x=.non/\R .non),#[l,n,rfl,gd,nr,λw2 h2 s2 f2 b2=>?_],?_]
      . obtain⟨r1,r2⟩:=dh f2.1 f2.2.1;refine#[w,h,s,w2,h2,s2,rfl,#[fm.w0,KK,fm.h0,KK,fm.s0,fm.sw],#[f2.1,KK,f2.2.1,KK,f2.2.2.1,f2.2.2.2.1],λW Hh S A M=>#[λq=>?_,λq=>?_]]
        . refine .inl #[W,Hh,S,rfl,#[M.w0,M.h0,M.s0,M.sw],q,λx y=>?_];rw[M.lat,lat,f2.lat,i9];exact Iff.rfl
        . refine .inr #[rfl,?_];obtain⟨w3,h3,s3,f3,e3⟩:=ut (ls.drop (k+1)) W Hh S #[M.w0,M.h0,M.s0,M.sw] KN;refine(hR w3 h3 s3 f3 λx y=>?_).2 ?_
          . rw[e3,M.lat,lat,f2.lat,I_];exact Iff.rfl
          . have:=(InF.le M.w0 M.h0 f3.w0 f3.h0 (λx y z=>((e3 x y).mp z).1)).1;lia
      . rintro _ (⟨W,Hh,S,rfl,Sb,q,e'⟩|⟨rfl,hn⟩);k_places
        . try simp only[G6,G8]
          exact#[W,Hh,S,_,rfl,Sb,q,e']
        . try simp only[G6,G8]
          exact hn
    . rintro z⟨w,h,s,o,rfl,fm,QB,lat⟩;k_places;rw[ec,GT,IH]at lat;exact(hR w h s fm lat).1 QB
abbrev js(V:Bx):Prop:=V.D 4 "_law_over" mv ux
def EV(T:V.T "_law_over" mo mv)(uR:V.m "max")(LK:jr V):js V:=by
 refine Tx.okDW T sc__law_over (λds R h=>?_) (λf cdv A outer s H E J hr=>⟨_,((ai (am 2 sc__law_over.nd (aj (af (aa 0) ad) (af (aa 1) ad)))
   (ai (bg (cN (fM (si (fS rfl uR (ac (af (aa 0) ad) (ac (af (aa 1) ad) ae))) ad) (fL (sj (av LK hr (ac (aa 2) ae)) bV)))) (ao (ay (aa 0))) aT)
   (ao (ay (br (ac (aj (aj (aj (aj aA (af (aa 0) ad)) aA) (af (aa 1) ad)) aA) (ac (aj ad (fS rfl uR (ac (af (aa 0) ad) (ac (af (aa 1) ad) ae)))) (ac (aa 2) ae))))))))),λds R h=>?_⟩)
 .obtain⟨_,_,rfl,_⟩:=h;rfl
 .obtain⟨p,q,rfl,wp,wq,dp,dq,QC,Sc⟩:=h;have n1:=Pat.leaves_32 dp;have n2:=Pat.leaves_32 dq;refine#[λx=>x=.lst ((Pat.over p q).leaves.map Leaf.D),#[_,rfl,_,rfl,?_,?_],?_]
  .rw[GT,GT];lia
  .rw[Pat.leaves,Hj]
  rintro _ rfl;k_places;refine#[_,rfl,_,rfl,ite2 (λc=>QC) (λc=>?_)];have c':=of_decide_eq_false (Hm.mpr c);have ep:p.depth<5/\q.depth<5:=by
   split at c'<;>lia
  refine#[(Pat.over p q).leaves,(Pat.over p q).depth,rfl,?_,λl hl=>Pat.leaf_good (p:=.over p q) #[wp,wq] l hl,λw h s f lat=>#[λsm=>?_,λ_=>QC]]
  .intro z;have:(Pat.over p q).leaves.length=0:=by rw[z];rfl
   rw[Pat.leaves,G2]at this;have:=Pat.leaves_pos p;lia
  have t1:=Pat.text_short wp dp;have t2:=Pat.text_short wq dq;have l1:("(":F_).length=1:=rfl;have l2:("|":F_).length=1:=rfl;have l3:(")":F_).length=1:=rfl;have OL:(Pat.over p q).Fits:=#[w,h,s,#[f,λx y=>(lat x y).trans (Pat.lat_leaves (.over p q) x y)],sm];refine#[_,rfl,?_,?_,_,rfl,?_,?_,_,rfl,_,rfl,K',?_]
  .lia
  .rw[aG];lia
  .rw[aG,aG];lia
  .rw[aG,aG,aG];lia
  have g:=Sc ep.1 ep.2 OL;have e:(1+(if(q.depth:Int)>(p.depth:Int)then(q.depth:Int)else(p.depth:Int)))=(((Pat.over p q).depth:Nat):Int):=by
   rw[Pat.depth];split<;>lia
  unfold Pat.D at g;rw[<-e]at g;exact g
abbrev jt(V:Bx):Prop:=V.D 5 "_law_pattern" my Ce
def EW(T:V.T "_law_pattern" mx my)(uA:V.m "range")(LD:jl V)(Lm:jn V)(uM:gC V)(KO:js V):jt V:=by
  refine Tx.okDW T sc__law_pattern (λds R h=>?_) (λf cdv A outer s H E J hr=>⟨_,((ai (am 2 sc__law_pattern.nd (av LD hr (ac (aa 0) (ac (aa 1) (ac ad ae)))))
      (ai (am 3 sc__law_pattern.nd (av Lm hr (ac (aa 0) (ac (aj (aa 1) ad) ae))))
      (ai (ce 4 PassesOwn.never rfl sc__law_pattern.nd uA (aC (af (aa 2) ad) ad) (ai (am 5 sc__law_pattern.nd (af (aa 2) (aj ad (aw ad (aa 4)))))
        (ao (fO (bc (aC (aa 5) ad) ad) (ao (am 3 sc__law_pattern.nd (av uM hr (ac (aa 3) (ac (aX (aa 5) ad) ae))))) (ai (am 6 sc__law_pattern.nd (av Lm hr (ac (aa 0) (ac (aj (aj (aa 1) ad) (aw ad (aa 4))) ae))))
         (ai (fO (bc (aC (aX (aa 5) ad) ad) ad) (ao (am 6 sc__law_pattern.nd (av uM hr (ac (aa 6) (ac (af (aa 2) (aj ad (aw ad (aa 4)))) ae))))) aT)
         (ao (am 3 sc__law_pattern.nd (af (br (ac (av KO hr (ac (aa 3) (ac (aa 6) ae))) (ac (av KO hr (ac (aa 6) (ac (aa 3) ae))) ae))) (aC (aX (aa 5) ad) ad))))))))))
      (ao (ay (aa 3))))))),λds R h=>?_⟩)
  . obtain⟨_,_,rfl,_⟩:=h;rfl
  . obtain⟨ns,k,rfl,hk,hR⟩:=h;refine#[λx=>∃xs:List Int,x=.lst (xs.map D.int)/\xs.length=13/\Drawn xs,#[ns,k,13,rfl,hk,K3,λxs h1 h2=>#[xs,rfl,h1,h2]],?_];rintro _⟨xs,rfl,hl,hd⟩;k_places;refine#[λx=>∃p:Pat,x=p.D/\p.Ok,#[ns,k+2,rfl,KK,λL a b c d h1 h2 h3 h4 h5 h6=>#[.mot L a b c d,rfl,#[h1,h2,h3,h4,h5,h6],by simp[Pat.depth],Pat.fits_mot h2 h3 h4 h5 h6]],?_];rintro _⟨p0,rfl,LL⟩;k_places;have a0:=cH (xs:=xs) (k:=0) K3 (show 0<xs.length by lia);have h7:=cQ (a:=cell xs 0) (show(0:Int)<7 by decide);have h8:=cR (a:=cell xs 0) (show(0:Int)<7 by decide);refine#[_,a0,K3,#[KK,KK],λi z=>∃(p:Pat) (o1 o2 o3:Option D),z=[be (.rol (ns.map D.int)),be (.int k),be (.lst (xs.map D.int)),be p.D,o1,o2,o3]/\p.Ok,#[p0,_,_,_,rfl,LL],?_,?_]
    . rintro i v z hi⟨p,o1,o2,o3,rfl,ok⟩;k_places;obtain⟨i_,rfl⟩:=bS hi;have a1:=cH (xs:=xs) (k:=1+2*(i:Int)) KK KK;have a2:=cH (xs:=xs) (k:=2+2*(i:Int)) KK KK;generalize cell xs (1+2*(i:Int))=st at a1;generalize cell xs (2+2*(i:Int))=sv at a2;refine#[λx=>x=.int st,#[.inr #[KK,KK],_,a1,rfl],?_];rintro _ rfl;k_places;refine#[λz=>∃(p:Pat) (o3:Option D),z=[be (.rol (ns.map D.int)),be (.int k),be (.lst (xs.map D.int)),be p.D,be (.int i),be (.int st),o3]/\p.Ok,#[K3,ite2 (λc=>?_) (λc=>?_)],?_]
      . refine#[λx=>∃p:Pat,x=p.D/\p.Ok,#[#[K3,K3],p,_,rfl,ok.wf,ok.deep,by have:=Pat.text_short ok.wf ok.deep;lia,Wraps.of ok λq hq=>#[q,rfl,hq]],?_];rintro _⟨q,rfl,f6⟩;k_places;exact#[q,_,rfl,f6]
      . refine#[λx=>∃p:Pat,x=p.D/\p.Ok,#[.inr #[KK,KK],ns,k+4+2*(i:Int),rfl,KK,λL a b c d h1 h2 h3 h4 h5 h6=>#[.mot L a b c d,rfl,#[h1,h2,h3,h4,h5,h6],by simp[Pat.depth],Pat.fits_mot h2 h3 h4 h5 h6]],?_];rintro _⟨q,rfl,f6⟩;k_places;refine#[λz=>∃(q:Pat),z=[be (.rol (ns.map D.int)),be (.int k),be (.lst (xs.map D.int)),be p.D,be (.int i),be (.int st),be q.D]/\q.Ok,#[#[K3,K3],K3,ite2 (λc=>?_) (λc=>?_)],?_]
        . refine#[λx=>∃p:Pat,x=p.D/\p.Ok,#[.inr #[KK,KK],_,a2,q,_,rfl,f6.wf,f6.deep,by have:=Pat.text_short f6.wf f6.deep;lia,Wraps.of f6 λq hq=>#[q,rfl,hq]],?_];rintro _⟨q,rfl,f6⟩;k_places;exact#[q,rfl,f6]
        . exact#[q,rfl,f6]
        rintro _⟨q,rfl,f6⟩;k_places;refine#[λx=>∃p:Pat,x=p.D/\p.Ok,?_,?_]
        . have d_:∀r r':Pat,r.Ok->r'.Ok->∃x,atI [r.D,r'.D] (st/4%2)=be x/\∃p:Pat,x=p.D/\p.Ok:=λr r' hr Sd=>by
            rcases(KK:st/4%2=0\/st/4%2=1)with e|e<;>rw[e]
            . exact#[_,rfl,r,rfl,hr]
            . exact#[_,rfl,r',rfl,Sd]
          have QE:p.depth<5->q.depth<5->(Pat.over p q).Fits->(Pat.over p q).Ok:=λd1 d2 ft=>#[#[ok.wf,f6.wf],by simp only[Pat.depth];lia,ft];have QF:q.depth<5->p.depth<5->(Pat.over q p).Fits->(Pat.over q p).Ok:=λd1 d2 ft=>#[#[f6.wf,ok.wf],by simp only[Pat.depth];lia,ft];refine#[p,q,rfl,ok.wf,f6.wf,ok.deep,f6.deep,?_,λd1 d2 ft=>?_]<;>refine#[q,p,rfl,f6.wf,ok.wf,f6.deep,ok.deep,?_,λd3 d4 QG=>?_]<;>refine#[K',#[K3,K3],K3,?_]
          . exact d_ _ _ ok f6
          . exact d_ _ _ ok (QF d3 d4 QG)
          . exact d_ _ _ (QE d1 d2 ft) f6
          . exact d_ _ _ (QE d1 d2 ft) (QF d3 d4 QG)
        rintro _⟨q',rfl,O2⟩;k_places;exact#[q',_,rfl,O2]
      rintro _⟨q,o3,rfl,f6⟩;k_places;exact#[q,_,_,_,rfl,f6]
    . rintro z⟨p,o1,o2,o3,rfl,ok⟩;k_places;exact hR p ok
def EY:SpD:=λds R=>∃(p:Pat) (k:Int),ds=[p.D,.int k]/\p.Ok/\(k=0\/k=1)/\∀q:Pat,q.Ok->R q.D
abbrev pF(V:Bx):Prop:=V.D 4 "_law_shifted_home" mB EY
def EZ(T:V.T "_law_shifted_home" mz mB)(LK:jr V)(uM:gC V):pF V:=by
 refine Tx.okDW T sc__law_shifted_home (λds R h=>?_) (λf cdv A outer s H E J hr=>⟨_,((ai (am 2 sc__law_shifted_home.nd (av LK hr (ac (af (aa 0) ad) ae)))
   (ai (kz rfl (af (br (ac (aI (ac (af (aa 2) ad) (ac ad ae))) (ac (aI (ac (af (aa 2) ad) (ac (af (aa 2) ad) ae))) ae))) (aa 1)) (dg_cons 3 sc__law_shifted_home.nd (dg_cons 4 sc__law_shifted_home.nd dI)))
   (ai (bg (cN (fM (fK (aa 3) ad) (fL (fK (aa 4) ad)))) (ao (ay (aa 0))) aT)
   (ao (ay (av uM hr (ac (aa 0) (ac (aj (aj ad (aw ad (aj (aa 3) ad))) (aw ad (aj (aa 4) ad))) ae))))))))),λds R h=>?_⟩)
 .obtain⟨_,_,rfl,_⟩:=h;rfl
 .obtain⟨p,k,rfl,ok,hk,hR⟩:=h;refine#[FamD p,#[_,rfl,C8 ok],?_];rintro _⟨w,h,s,rfl,F,wh,w7,h7⟩;k_places;have O3:∃a b:Int,atI [D.tup [.int w,.int 0],.tup [.int s,.int h]] k=be (.tup [.int a,.int b]):=by
   rcases hk with rfl|rfl
   .exact#[_,_,rfl]
   .exact#[_,_,rfl]
  obtain⟨a,b,e⟩:=O3;refine#[_,rfl,O0,_,rfl,_,rfl,O0,O0,_,e,rfl,ite2 (λ_=>hR p ok) λ_=>ite2 (λ_=>hR p ok) λ_=>?_];exact#[.inl #[K3,K3],.inl #[K3,K3],p,_,rfl,ok.wf,ok.deep,by have:=Pat.text_short ok.wf ok.deep;omega,Wraps.of ok hR]
def E1:SpD:=λds R=>∃(p:Pat) (n:Int) (c:Nat),ds=[p.D,.int n,.str #[[c].toArray]]/\p.Ok/\aZ c/\∀q:Pat,q.Ok->R q.D
abbrev pG(V:Bx):Prop:=V.D 1 "_law_respelled" mD E1
def E2(T:V.T "_law_respelled" mC mD)(uB:V.m "len")(Ku:V.m "list"):pG V:=by
 refine Tx.okDW T sc__law_respelled (λds R h=>?_) (λf cdv A outer s H E J hr=>⟨_,((ai (am 3 sc__law_respelled.nd (af (af (aa 0) ad) ad))
   (ai (am 4 sc__law_respelled.nd (cm uB (ac (af (af (aa 3) ad) ad) ae)))
   (ai (am 5 sc__law_respelled.nd (aX (aC (aa 1) (aw (aa 4) (cm uB (ac (af (aa 3) ad) ae)))) (aa 4)))
   (ai (am 6 sc__law_respelled.nd (aC (aa 1) (aa 4)))
   (ai (Bn 7 Ku sc__law_respelled.nd (ac (af (aa 3) ad) ae))
   (ai (sO 7 (aj (aj (cz (kC 7 (aa 5)) cx (cy (aa 6))) (aa 2)) (cz (kC 7 (aa 5)) (cy (aj (aa 6) ad)) cx)) (aa 5))
   (ai (am 8 sc__law_respelled.nd (aj (aj (aj (kJ (af (aa 0) ad) (ac aA ae)) ad) (aw (aa 5) (aj (aa 4) ad))) (aa 6)))
   (ai (am 9 sc__law_respelled.nd (aj (aj (cz (af (aa 0) ad) cx (cy (aa 8))) (aa 2)) (cz (af (aa 0) ad) (cy (aj (aa 8) ad)) cx)))
   (cY 7 (ao (ay (br (ac (aa 9) (ac (af (aa 0) ad) (ac (aj (br (ac (aI (ac (aa 7) (ac (af (aa 3) ad) (ac (af (aa 3) ad) (ac (af (aa 3) ad) (ac (af (aa 3) ad) ae)))))) ae)) (cz (af (aa 0) ad) (cy ad) cx)) ae)))))))))))))))),λds R h=>?_⟩)
 .obtain⟨_,_,_,rfl,_⟩:=h;rfl
 .obtain⟨p,n,c,rfl,ok,hc,hR⟩:=h;obtain⟨A,B,l,ls,r⟩:=Pat.re_ex ok.wf;obtain⟨m,w,w8,hr⟩:=r.rows;have hw:∀s∈l.rows,s.length=w:=λs hs=>(hr s hs).1;have Se:=Pat.text_short ok.wf ok.deep;have QH:=cr p;rw[r.tl]at QH;obtain⟨i0,rest,eo,ei⟩:=Em QH r.no;have wm:0<w*l.rows.length:=Nat.mul_pos K_ K_;obtain⟨j,hj,jm⟩:∃j:Nat,n%((w:Int)*l.rows.length)/w=j/\j<l.rows.length:=by
   have h0:=Hz n (show((w*l.rows.length:Nat):Int)≠0 by omega);have h1:=HA n (show 0<((w*l.rows.length:Nat):Int)by omega);rw[Jc]at h0 h1;have q0:=IP h0 (show 0<=(w:Int)by omega);have q1:=Int.ediv_lt_of_lt_mul (show 0<(w:Int)by omega) (show n%((w:Int)*l.rows.length)<(l.rows.length:Int)*w by rw[Hd (l.rows.length:Int)];exact h1);exact#[(n%((w:Int)*l.rows.length)/w).toNat,K_,K_]
  obtain⟨i,hi,iw⟩:∃i:Nat,n%(w:Int)=i/\i<w:=by
   have h0:=Hz n (show(w:Int)≠0 by omega);have h1:=HA n (show 0<(w:Int)by omega);exact#[(n%(w:Int)).toNat,K_,K_]
  have Sf:atI (p.leaves.map Leaf.D) 0=be l.D:=bH (j:=0) (by rw[r.leaves];rfl);have O4:atI (l.rows.map D.str) 0=be (.str (l.rows[0]' K_)):=bH (j:=0) (by rw[GY,G4 (show 0<l.rows.length by omega)];rfl);have MB:atI (l.rows.map D.str) (j:Int)=be (.str l.rows[j]):=bH (by rw[GY,G4 jm];rfl);have O5:=hw (l.rows[0]' K_) (Hg _);have Sg:=hw l.rows[j] (Hg jm);refine#[λd=>d=l.D,#[_,rfl,_,Sf,rfl],?_];rintro _ rfl;k_places;refine#[λd=>d=.int (w:Int),#[_,rfl,_,O4,K_,by rw[O5]],?_];rintro _ rfl;k_places;refine#[λd=>d=.int (j:Int),#[_,rfl,.inl #[K_,K_],?_,#[K_,K_],?_],?_]
  .rw[GT,<-Jc];omega
  .rw[GT,hj]
  rintro _ rfl;k_places;refine#[λd=>d=.int (i:Int),#[K_,by rw[hi]],?_];rintro _ rfl;k_places;show dSeq _ _ _ [_,_,_,_,_,_,_,_,_,_];refine#[_,rfl,?_];have s1:=Txt.slice_le l.rows[j] t9 (be (i:Int));have s2:=Txt.slice_le l.rows[j] (be ((i:Int)+1)) t9;have c1:(#[[c].toArray]:F_).length=1:=rfl;have hs:=vG (c:=c) (show i<l.rows[j].length by omega);generalize KJ:((Txt.slice l.rows[j] t9 (be (i:Int))++#[[c].toArray])++Txt.slice l.rows[j] (be ((i:Int)+1)) t9:F_)=s' at hs;obtain⟨q,f6,dq,lq,sp,tq⟩:=r.put ok hw jm iw hc hs;refine#[_,MB,K_,K_,_,MB,K_,by rw[aG];omega,j,?_,?_]
  .rw[GT];unfold ixN;rw[if_pos K_,if_pos K_,Hu]
  rw[KJ,<-Ke];have Sh:(i0:Int)=A.length:=K_
  refine#[λd=>d=.int ((A.length+1+j*(w+1)+i:Nat):Int),#[_,rfl,i0,rest,eo,.inl #[K_,K_],?_],?_]
  .show D.int _=D.int _;rw[Sh];simp
  rintro _ rfl;k_places;have t1:=Txt.slice_le p.text t9 (be ((A.length+1+j*(w+1)+i:Nat):Int));have t2:=Txt.slice_le p.text (be (((A.length+1+j*(w+1)+i:Nat):Int)+1)) t9;refine#[λd=>d=.str q.text,#[_,rfl,K_,K_,_,rfl,K_,by rw[aG];omega,?_],?_]
  .show D.str _=D.str _;rw[tq _ (vG sp)]
  rintro _ rfl;k_places;have Tc:=Pat.leaves_32 ok.deep;have ec:cutD (p.leaves.map Leaf.D) (be 1) t9=ls.map Leaf.D:=by rw[r.leaves,G7,cut1]
  refine#[_,rfl,_,rfl,_,rfl,_,rfl,_,rfl,by show(5:Nat)<=1000;decide,P5,_,rfl,?_,by show(3:Nat)<=1000;decide,?_]
  .have:=congrArg Il r.leaves;rw[GU]at this;show 1+(cutD (p.leaves.map Leaf.D) (be 1) t9).length<=1000000;rw[ec,GT];omega
  have e:=hR q f6;unfold Pat.D at e;rw[dq,lq,G7,<-ec]at e;exact e
def E3:SpD:=λds R=>∃(p:Pat) (ns:List Int) (k d:Int),ds=[p.D,.rol (ns.map D.int),.int k,.int d]/\p.Ok/\0<=k/\∀q:Pat,q.Ok->R q.D
abbrev pH(V:Bx):Prop:=V.D 6 "_law_twin" mG E3
def E4(T:V.T "_law_twin" mF mG)(uM:gC V)(KO:js V)(O6:pF V)(Lm:jn V)(O7:pG V)(LM:jt V):pH V:=by
 refine Tx.okDW T sc__law_twin (λds R h=>?_) (λf cdv A outer s H E J hr=>⟨_,((ai (am 4 sc__law_twin.nd (aC (aa 3) ad))
   (ai (am 3 sc__law_twin.nd (aX (aa 3) ad))
   (ai (bg (cN (gU (bc (aa 4) ad) (gT (ku (af (aa 0) ad) ad)))) (ao (ay (av uM hr (ac (av uM hr (ac (aa 0) (ac ad ae))) (ac ad ae))))) aT)
   (ai (bg (cN (gU (bc (aa 4) ad) (gT (ku (af (aa 0) ad) ad)))) (ao (ay (av uM hr (ac (av uM hr (ac (av uM hr (ac (av uM hr (ac (aa 0) (ac ad ae))) (ac ad ae))) (ac ad ae))) (ac ad ae))))) aT)
   (ai (bg (bc (aa 4) ad) (ao (ay (av KO hr (ac (aa 0) (ac (aa 0) ae))))) aT)
   (ai (bg (bc (aa 4) ad) (ao (ay (av O6 hr (ac (aa 0) (ac (aC (aa 3) ad) ae))))) aT)
   (ai (bg (bc (aa 4) ad) (ao (ay (av uM hr (ac (aa 0) (ac (aj ad (aw ad (aC (aa 3) ad))) ae))))) aT)
   (ai (bg (bc (aa 4) ad) (ao (ay (av KO hr (ac (aa 0) (ac (av Lm hr (ac (aa 1) (ac (aa 2) ae))) ae))))) aT)
   (ai (bg (bc (aa 4) ad) (ao (ay (av O7 hr (ac (aa 0) (ac (aX (aa 3) ad) (ac (af aA (aC (aa 3) ad)) ae)))))) aT)
   (ai (bg (bc (aa 4) ad) (ao (ay (av LM hr (ac (aa 1) (ac (aa 2) ae))))) aT)
   (ao (ay (aa 0)))))))))))))),λds R h=>?_⟩)
 .obtain⟨_,_,_,_,rfl,_⟩:=h;rfl
 .obtain⟨p,ns,k,d,rfl,ok,k0,hR⟩:=h;have wr:∀{q:Pat},q.Ok->q.text.length<=100000:=λ{q} h=>by have:=Pat.text_short h.wf h.deep;omega
  refine#[λx=>x=.int (d%9),#[K3,rfl],?_];rintro _ rfl;k_places;refine#[λx=>x=.int (d/9),#[#[K3,K3],rfl],?_];rintro _ rfl;k_places;show dSeq _ _ _ [_,_,_,_,_];refine(λhr=>ite2 (λ_=>#[_,rfl,ite2 (λ_=>#[p,0,rfl,ok.wf,ok.deep,wr ok,Wraps.of ok λq k=>#[q,0,rfl,k.wf,k.deep,wr k,Wraps.of k hR]]) (λ_=>hr)]) (λ_=>hr)) ?_;refine ite2 (λz=>nomatch z) λ_=>?_;refine(λhr=>ite2 (λ_=>#[_,rfl,ite2 (λ_=>#[p,1,rfl,ok.wf,ok.deep,wr ok,Wraps.of ok λq k=>#[q,1,rfl,k.wf,k.deep,wr k,Wraps.of k λq k=>#[q,1,rfl,k.wf,k.deep,wr k,Wraps.of k λq k=>#[q,1,rfl,k.wf,k.deep,wr k,Wraps.of k hR]]]]) (λ_=>hr)]) (λ_=>hr)) ?_;refine ite2 (λz=>nomatch z) λ_=>?_;refine ite2 (λ_=>vH ok ok hR) λ_=>?_;refine ite2 (λ_=>#[K3,p,_,rfl,ok,K_,hR]) λ_=>?_;refine ite2 (λ_=>#[K3,.inl #[K3,K3],p,_,rfl,ok.wf,ok.deep,wr ok,Wraps.of ok hR]) λ_=>?_;refine ite2 (λ_=>#[ns,k,rfl,k0,λL a b c d h1 h2 h3 h4 h5 h6=>vH (q:=.mot L a b c d) ok #[#[h1,h2,h3,h4,h5,h6],by simp[Pat.depth],Pat.fits_mot h2 h3 h4 h5 h6] hR]) λ_=>?_;refine ite2 (λ_=>?_) λ_=>?_
  .obtain⟨c,hc,Nf⟩:=Ep (d/9);exact#[#[K3,K3],K3,c,#[K3,hc],p,_,c,rfl,ok,Nf,hR]
  refine ite2 (λ_=>#[ns,k,rfl,k0,hR]) λ_=>hR p ok
abbrev pI(V:Bx):Prop:=V.D 2 "_law_leaf_shows" mI BW
def E5(T:V.T "_law_leaf_shows" mH mI)(uA:V.m "range")(uB:V.m "len")(uF:V.m "int")(LJ:jq V):pI V:=by
 refine Tx.okDW T sc__law_leaf_shows (λds R h=>?_) (λf cdv A outer s H E J hr=>⟨_,((ai (am 3 sc__law_leaf_shows.nd (af (aa 0) ad))
   (ai (am 4 sc__law_leaf_shows.nd (aj (aj (aw (af (aa 3) ad) (aa 1)) (aw (af (aa 3) ad) (aa 2))) (af (aa 3) ad)))
   (ai (am 5 sc__law_leaf_shows.nd (aj (aj (aw (af (aa 3) ad) (aa 1)) (aw (af (aa 3) ad) (aa 2))) (af (aa 3) ad)))
   (ai (ce 6 PassesOwn.never rfl sc__law_leaf_shows.nd uA (cm uB (ac (af (aa 0) ad) ae)) (ao (ce 7 PassesOwn.never rfl sc__law_leaf_shows.nd uA (cm uB (ac (af (af (aa 0) ad) (aa 6)) ae)) (ao (bg (cN (gU (cM (af (af (af (aa 0) ad) (aa 6)) (aa 7)) aA) (gT (cE (av LJ hr (ac (af (aa 0) ad) (ac (af (aa 0) ad) (ac (bo (aa 4) (aa 7)) (ac (bo (aa 5) (aa 6)) ae))))))))) (ao (ay (af (af (aa 0) ad) (hU uF (ac (af (af (af (aa 0) ad) (aa 6)) (aa 7)) ae))))) aT)))))
   (ao (ay ad))))))),λds R h=>?_⟩)
 .obtain⟨_,_,_,rfl,_⟩:=h;rfl
 .obtain⟨l,x,y,rfl,ok,hR⟩:=h;obtain⟨hm,wd,Si,Mx⟩:=id ok.rows;refine#[λd=>d=.tup [.int l.w0,.int l.w1,.int l.w2,.int l.w3,.int l.w4,.int l.w5],#[_,rfl,rfl],?_];rintro _ rfl;k_places;refine#[λd=>d=.int (l.w0*x+l.w1*y+l.w4),#[_,rfl,.inl (n64 ok.w0),_,rfl,.inl (n64 ok.w1),_,rfl,rfl],?_];rintro _ rfl;k_places;refine#[λd=>d=.int (l.w2*x+l.w3*y+l.w5),#[_,rfl,.inl (n64 ok.w2),_,rfl,.inl (n64 ok.w3),_,rfl,rfl],?_];rintro _ rfl;k_places;have KP:R (.int (match l.hit x y with|some c=>cell l.hues ((c:Int)-48)|none=>0)):=hR;unfold Leaf.hit at KP;generalize l.w0*x+l.w1*y+l.w4=U at KP ⊢;generalize l.w2*x+l.w3*y+l.w5=V at KP ⊢;generalize ef:(λi j=>onB l.a l.b l.c l.d (U-i) (V-j))=f at KP;have e0:∀i j,f i j=onB l.a l.b l.c l.d (U-i) (V-j):=λi j=>by rw[<-ef]
  have b7:((l.rows.map D.str).length:Int).toNat=l.rows.length:=K'
  refine#[_,rfl,#[KK,SN],λk z=>∃o1 o2:Option D,z=[be l.D,be (.int x),be (.int y),be (.tup [.int l.w0,.int l.w1,.int l.w2,.int l.w3,.int l.w4,.int l.w5]),be (.int U),be (.int V),o1,o2]/\bR f 0 l.rows=bR f k (l.rows.drop k),#[_,_,rfl,rfl],?_,?_]
  .rintro j v z hj⟨o1,o2,rfl,hs⟩;k_places;obtain⟨LC,rfl⟩:=bS hj;rw[b7]at LC;have MC:l.rows[j]?=be l.rows[j]:=G4 LC;have z6:l.rows.drop j=l.rows[j]::l.rows.drop (j+1):=HU LC;obtain⟨Nv,Mw⟩:=Mx l.rows[j] (Hg LC);generalize l.rows[j]=row at MC z6 Nv Mw;have Ln:=at_str MC;have g9:=bj row;refine#[_,rfl,_,Ln,KK,#[KK,KK],λi z=>∃o2:Option D,z=[be l.D,be (.int x),be (.int y),be (.tup [.int l.w0,.int l.w1,.int l.w2,.int l.w3,.int l.w4,.int l.w5]),be (.int U),be (.int V),be (.int j),o2]/\scanRow (λi=>f i j) 0 (cs row)=scanRow (λi=>f i j) i ((cs row).drop i),#[_,rfl,rfl],?_,?_]
   .rintro i v z hi⟨o2,rfl,LN⟩;k_places;obtain⟨i_,rfl⟩:=bS hi;have O8:i<(cs row).length:=by lia
    have Kw:(cs row).drop i=(cs row)[i]::(cs row).drop (i+1):=HU O8;have MD:=Mw (cs row)[i] (Hg O8);have O9:atI (cs row) (i:Int)=be (cs row)[i]:=bH (G4 O8);generalize (cs row)[i]=c at Kw MD O9;refine#[_,rfl,_,Ln,c,#[KK,O9],ite2 (λq=>?_) (λq=>?_)]
    .have u9:¬c=46:=by
      intro z;have:(#[[c].toArray]:F_)=".":=one_sign.mpr z;simp[this]at q
     refine#[_,rfl,_,rfl,l.a,l.b,l.c,l.d,U-i,V-j,rfl,ok.a.lt,ok.b.lt,ok.c.lt,ok.d.lt,ok.ne,?_];refine ite2 (λq2=>?_) (λq2=>?_)
     .have d_:f i j=true:=by rw[e0];exact q2
      have Sj:49<=c/\c<=54:=by unfold aZ at MD;lia
      refine#[_,rfl,_,rfl,_,Ln,c,#[KK,O9],_,#[digit_of Sj,by show 1<=640;decide],_,cH KK (by rw[ok.many];lia),?_];rw[hs,z6,bR,LN,Kw,scanRow,if_pos #[u9,d_]]at KP;exact KP
     .have d_:¬f i j=true:=by rw[e0];exact q2
      refine#[_,rfl,?_];rw[LN,Kw,scanRow,if_neg (λz=>d_ z.2)]
    .have u9:c=46:=by
      rcases Classical.em (c=46)with z|z
      .exact z
      .exact absurd (by
        have:¬(#[[c].toArray]:F_)=".":=λw=>z (one_sign.mp w);simp[this]) q
     refine#[_,rfl,?_];rw[LN,Kw,scanRow,if_neg (λz=>z.1 u9)]
   .rintro z⟨o2,rfl,LN⟩;k_places;refine#[_,_,rfl,?_];have hn:((row.length:Int).toNat)=(cs row).length:=by lia
    rw[bA,hn,Jq (GN _),scanRow]at LN;rw[hs,z6,bR,LN]
  .rintro z⟨o1,o2,rfl,hs⟩;k_places;rw[bA,b7,Jq (GN _),bR]at hs;rw[hs]at KP;exact KP
abbrev pJ(V:Bx):Prop:=V.D 3 "_law_shows" mK BX
def E6(T:V.T "_law_shows" mJ mK)(O_:pI V):pJ V:=by
 refine Tx.okDW T sc__law_shows (λds R h=>?_) (λf cdv A outer s H E J hr=>⟨_,((ai (gZ 3 PassesOwn.never rfl sc__law_shows.nd (aa 0) (ai (am 4 sc__law_shows.nd (av O_ hr (ac (aa 3) (ac (aa 1) (ac (aa 2) ae)))))
    (ao (bg (cM (aa 4) ad) (ao (ay (aa 4))) aT))))
   (ao (ay ad)))),λds R h=>?_⟩)
 .obtain⟨_,_,_,rfl,_⟩:=h;rfl
 .obtain⟨ls,x,y,rfl,ok,hR⟩:=h;refine#[λk z=>∃o1 o2:Option D,z=[be (.lst (ls.map Leaf.D)),be (.int x),be (.int y),o1,o2]/\aV ls x y=aV (ls.drop k) x y,#[_,_,rfl,rfl],?_,?_]
  .rintro k v z hk⟨o1,o2,rfl,hs⟩;k_places;rw[GY]at hk;have o6:k<ls.length:=by
    rcases H8 k ls.length with q|q
    .exact q
    .rw[Ho q]at hk;cases hk
   rw[G4 o6]at hk;cases hk;have ed:ls.drop k=ls[k]::ls.drop (k+1):=HU o6;have QI:=ok ls[k] (Hg o6);generalize ls[k]=l at ed QI;refine#[λd=>d=.int (l.shows x y),#[l,x,y,rfl,QI,rfl],?_];rintro _ rfl;k_places;refine ite2 (λq=>?_) (λq=>?_)
   .have q':¬l.shows x y=0:=by simpa using q
    rw[hs,ed,aV,if_pos q']at hR;exact hR
   .have q':l.shows x y=0:=by simpa using q
    refine#[_,_,rfl,?_];rw[hs,ed,aV,if_neg (λz=>z q')]
  .rintro z⟨o1,o2,rfl,hs⟩;k_places;rw[GT,Jq (GN _),aV]at hs;rw[hs]at hR;exact hR
def E7:SpD:=λds R=>∃(p:Pat) (w h:Int),ds=[.lst (p.leaves.map Leaf.D),.int w,.int h]/\p.Ok/\0<=w/\w<=30/\0<=h/\h<=30/\R (.lst (aE p w 0 h.toNat))
abbrev pK(V:Bx):Prop:=V.D 4 "_law_floor_rows" mL E7
def E8(T:V.T "_law_floor_rows" iB mL)(uA:V.m "range")(Pa:pJ V):pK V:=by
 refine Tx.okDW T sc__law_floor_rows (λds R h=>?_) (λf cdv A outer s H E J hr=>⟨_,((ai (fP 3 sc__law_floor_rows.nd ae)
   (ai (ce 4 PassesOwn.never rfl sc__law_floor_rows.nd uA (aa 2) (ao (fQ 3 (kB (fU rfl (compScope (by change cP _ (ag iB) ["_law_leaves","_law_wide","_law_high","_law_lines_here","_law_y"] _=true;decide+kernel)) uA (aa 1) (λcl s0 H0 fp=>(af aA (av Pa hr (ac (aa 0) (ac (aa 5) (ac (aa 4) ae)))))))))))
   (cY 3 (ao (ay (aa 3))))))),λds R h=>?_⟩)
 .obtain⟨_,_,_,rfl,_⟩:=h;rfl
 .obtain⟨p,w,h,rfl,ok,w0,w7,h0,h7,hR⟩:=h;have dp:=ok.deep;refine#[K',?_];refine#[#[KK,KK],λk z=>∃o,z=[be (.lst (p.leaves.map Leaf.D)),be (.int w),be (.int h),be (.own (aE p w 0 k)),o],#[_,rfl],?_,?_]
  .rintro k v z hk⟨o,rfl⟩;k_places;obtain⟨p_,rfl⟩:=bS hk;refine#[#[KK,KK],by rw[bA];lia,λi ys=>ys=rowD p 0 k i,rfl,?_,?_]
   .rintro i v ys hi hl rfl;obtain⟨v4,rfl⟩:=bS hi;refine#[p.leaves,i,k,rfl,Pat.leaf_ok ok.wf KK,?_];rw[Pat.show_leaves ok.wf KK];obtain⟨b0,b6⟩:=Pat.show_le ok.wf KK (i:Int) k;refine#[_,#[K3,vn b0 b6],?_];show rowD p 0 k i++_=rowD p 0 k (i+1);rw[<-vq,HH]
   .rintro ys hl rfl;rw[bA];obtain⟨ys,e1,e2,e3⟩:=vt p 0 (k:Int) (n:=w.toNat) KK;refine#[ys,e1,e2,?_];rw[e3];refine#[by unfold aE;simp;lia,be (.int k),?_];rw[<-pw,HH];rfl
  .rintro z⟨o,rfl⟩;k_places;rw[bA];exact hR
def E9:SpM:=λds M R _=>∃a q f w,ds=[.ptr a,.str w]/\a≠q/\M=Fl.M f a q/\f.ds.length<=20/\∀q',a≠q'->R .non ((f.keep w).M a q')
abbrev ju(V:Bx):Prop:=V.Q 1 "Floor" "keep" mN E9
def Fb(T:V.Tm "Floor" "keep" "Floor.keep" mM mN)(Pb:V.gi "KEPT" 20)(Lo:V.a "Floor" "deeds")(uD:V.a "Floor" "laid")(uE:V.a "Floor" "pattern"):ju V:=by
 refine CalMth.drop (Txm.okM T DK (λds M R RX h=>?_) (λf cdv A outer s H E J hr hx=>#[_,((ax (bY Lo (ah (aa 0)) (Dy (Dx (aF Lo (ah (aa 0))) (kO (aH (tD (aH (ah (aa 1)) (aH (aF uE (ah (aa 0))) (aH (aF uD (ah (aa 0))) bp)))) bp))) (vD (ah (ck (eQ Pb)))) vC)))),λds M R RX d7 h=>?_]))
 .obtain⟨_,_,⟨_,_,_,_,rfl,_⟩,_⟩:=h;rfl
 .obtain⟨R,RX,⟨a,q,f,w,rfl,ne,rfl,hl,hR⟩,rfl,rfl⟩:=h;have nk:∀{p:KF},p∉au (f.M a q)->p≠a/\p≠q:=λ{p} h=>#[λe=>h (e ▸ GQ _ GS),λe=>h (e ▸ GS)];refine#[_,Fl.ma ne,_,Er,_,Fl.ma ne,_,gB,_,Fl.ma ne,_,dR,by show(3:Nat)<=1000;decide,P5,λp1 h1=>?_];obtain⟨n1,m1⟩:=nk h1;refine#[_,_,(dP m1).trans Fl.mq,cD,by rw[GT];show _+1<=_;lia,λp2 h2=>?_];have s9:p2≠p1/\p2∉au (f.M a q):=#[λe=>h2 (e ▸ GS),λz=>h2 (GQ _ z)];obtain⟨n2,m2⟩:=nk s9.2;refine#[_,cD,λp3 h3=>?_];have Sk:p3≠p2/\p3∉au ((p1,.lst [])::f.M a q):=#[λe=>h3 (e ▸ GS),λz=>h3 (GQ _ z)];obtain⟨n3,m3⟩:=nk λz=>Sk.2 (GQ _ z);refine#[_,(dP n3).trans ((dP n2).trans ((dP n1).trans (Fl.ma ne))),by show(6:Nat)<1000;decide,_,#[?_,?_],hR p3 (Ne.symm n3)]
  .rw[dQ n3,dQ n2,dQ n1,show f.M a q=[(q,.lst (f.ds.map Deed.D)),(a,.ins "Floor" (f.fs q))]from rfl,dQ (Ne.symm ne),cU];have e1:cutD (f.ds.map Deed.D++[D.tup [.str w,f.d,.int f.l]]) (be (-20)) t9=(f.keep w).ds.map Deed.D:=by
    rw[Es];show _=Iq Deed.D (HN _ _);rw[List.map_drop,Hj,G2,GT];rfl
   have e2:putD ("deeds":F_) (.ptr p3) (f.fs q)=(f.keep w).fs p3:=rfl;rw[e1,e2];intro e he;rcases GP.mp he with rfl|he
   .exact GS
   .rw[GM.mp he];simp
  .exact Fl.nd (Ne.symm n3)
abbrev jv(V:Bx):Prop:=V.X 1 "refuse_far" mR CT
def Fc(T:V.T "refuse_far" mQ mR)(uR:V.m "max")(uP:V.m "abs")(Pc:V.gi "FAR" 1000000000000)(Pd:V.n "TooFar"):jv V:=by
 refine Tx.okXW T DL (λds R RX h=>?_) (λf cdv A outer s H E J hr hx=>#[_,((ao (bg (fK (fS rfl uR (ac (eE uP (ac (aa 0) ae)) (ac (eE uP (ac (aa 1) ae)) ae))) (eQ Pc)) (ao (zH Pd hx rfl (ac aA ae))) aT))),λds R RX d7 h=>?_])
 .obtain⟨_,_,rfl,_⟩:=h;rfl
 .obtain⟨x,y,rfl,h1,h2⟩:=h;refine ite2 (λc=>?_) (λc=>?_)
  .have c':=of_decide_eq_true c;refine#[P5,?_];rw[d7];refine h2 λ⟨⟨a1,a2⟩,a3,a4⟩=>?_;split at c'<;>split at c'<;>split at c'<;>lia
  .have c':¬_:=λz=>c (decide_eq_true z);refine h1 ?_;unfold aU;split at c'<;>split at c'<;>split at c'<;>lia
abbrev fD(V:Bx):Prop:=V.D 1 "home" mV BA
def Fd(T:V.T "home" mU mV):fD V:=by
 refine Tx.okDW T sc_home (λds R h=>?_) (λf cdv A outer s H E J hr=>⟨_,((ai (am 3 sc_home.nd (af (aa 0) ad))
   (ai (am 4 sc_home.nd (af (aa 0) ad))
   (ai (am 5 sc_home.nd (af (aa 0) ad))
   (ao (ay (aI (ac (aC (bo (aa 1) (aw (aX (aa 2) (aa 4)) (aa 5))) (aa 3)) (ac (aC (aa 2) (aa 4)) ae))))))))),λds R h=>?_⟩)
 .obtain⟨w,h,s,x,y,rfl,_⟩:=h;rfl
 .obtain⟨w,h,s,x,y,rfl,hw,hh,B_,hs,n4,hR⟩:=h;refine#[λd=>d=.int w,#[_,rfl,rfl],?_];rintro _ rfl;k_places;refine#[λd=>d=.int h,#[_,rfl,rfl],?_];rintro _ rfl;k_places;refine#[λd=>d=.int s,#[_,rfl,rfl],?_];rintro _ rfl;k_places;exact#[#[hh,B_],.inr #[KK,KK],hw,hh,K',hR]
variable{n j:Nat}
def ok_Motif_shows(hL:1<=n)(T:V.Tm "Motif" "shows" "Motif.shows" iC cB)(z7:fD V)(KQ:V.a "Motif" "hues")(uK:V.a "Motif" "shifts"):V.Q (n+1) "Motif" "shows" cB (ofX (ca (j+1) "Motif")):=by
 refine Txm.okM T DM (λds M R RX h=>?_) (λf cdv A outer s H E J hr hx=>#[_,((ax (aJ (A3 (ke hr) (aF KQ (ah (aa 0))) (aH (aR (hn:=K_) (CalD.toM z7) hx hr (aH (aF uK (ah (aa 0))) (aH (ah (aa 1)) (aH (ah (aa 2)) bp)))) (aH (ah ad) bp)))))),λds M R RX d7 h=>?_])
 .obtain⟨_,_,_,_,rfl,_⟩:=h;rfl
 .obtain⟨p,v,X,Y,rfl,hv,v5,hd,hc,hR⟩:=h;cases p<;>simp only[Pat.cls]at hc<;>try exact absurd hc K7
  rename_i L a b c d;obtain⟨k,w,h,s,rfl,F⟩:=hv;obtain⟨hL,ha,hb,KE,e_,hn⟩:=v5;unfold B12 at ha hb KE e_;obtain⟨b1,b2,b3⟩:=F.bd (N:=288) (by
   have m1:=bQ (a:=a) (d:=d) (A:=12) (B:=12) KK KK;have m2:=bQ (a:=b) (d:=c) (A:=12) (B:=12) KK KK;lia)
  rw[Pat.show,<-motif_shows hL F hn X Y]at hR;exact#[_,#[rfl,rfl],_,CL,_,#[rfl,rfl],_,mo_shifts,w,h,s,X,Y,rfl,F.1,F.2.1,KK,F.2.2.1,KK,hR]
def Fe(hL:1<=n)(T:V.Tm "Over" "shows" "Over.shows" iD iE)(uV:V.a "Over" "above")(uW:V.a "Over" "below")(uG:∀x,x∈(["Motif","Over","Shifted","Mirror","Turn","Rehue"]:List F_)->V.Q n x "shows" cB (ofX (ca j x))):V.Q (n+1) "Over" "shows" iE (ofX (ca (j+1) "Over")):=by
 refine Txm.okM T sc_Over_shows (λds M R RX h=>?_) (λf cdv A outer s H E J hr hx=>⟨_,((ar (aD 3 sc_Over_shows.nd (aS (hn:=K_) uG hx hr (aF uV (ah (aa 0))) (aB (ac (aa 1) (ac (aa 2) ae)))))
   (ax (aJ (fX (bx (bc (aa 3) ad)) (aS (hn:=K_) uG hx hr (aF uW (ah (aa 0))) (aB (ac (aa 1) (ac (aa 2) ae)))) (ah (aa 3))))))),λds M R RX d7 h=>?_⟩)
 .obtain⟨_,_,_,_,rfl,_⟩:=h;rfl
 .obtain⟨p,v,X,Y,rfl,hv,v5,hd,hc,hR⟩:=h;cases p<;>simp only[Pat.cls]at hc<;>try exact absurd hc K7
  rename_i p q;obtain⟨u,u',rfl,hu,MF⟩:=hv;obtain⟨fs,rfl,o1⟩:=hu.objm;obtain⟨gs,rfl,o2⟩:=MF.objm;rw[Pat.depth]at hd;refine#[λd M'=>d=.int (p.show X Y)/\M'=M,#[_,#[rfl,rfl],_,rfl,p.cls,p.cls_mem,fs,#[rfl,rfl],o1.shw,p,_,X,Y,rfl,hu,v5.1,KK,rfl,rfl,rfl],?_];rintro _ _⟨rfl,rfl⟩;k_places;rw[Pat.show]at hR;show if decide (p.show X Y=0)=true then _ else _
  refine ite2 (λe=>?_) (λe=>?_)
  .have e':=of_decide_eq_true e;rw[if_neg (λz=>z e')]at hR;exact#[_,#[rfl,rfl],_,fz K7,q.cls,q.cls_mem,gs,#[rfl,rfl],o2.shw,q,_,X,Y,rfl,MF,v5.2,KK,rfl,hR]
  .have e':p.show X Y≠0:=λz=>e (decide_eq_true z);rw[if_pos e']at hR;exact hR
def Ff(hL:1<=n)(T:V.Tm "Shifted" "shows" "Shifted.shows" iF iG)(uQ:V.a "Shifted" "form")(KR:V.a "Shifted" "y")(KS:V.a "Shifted" "x")(uG:∀x,x∈(["Motif","Over","Shifted","Mirror","Turn","Rehue"]:List F_)->V.Q n x "shows" cB (ofX (ca j x))):V.Q (n+1) "Shifted" "shows" iG (ofX (ca (j+1) "Shifted")):=by
 refine Txm.okM T DN (λds M R RX h=>?_) (λf cdv A outer s H E J hr hx=>#[_,((ax (aJ (aS (hn:=K_) uG hx hr (aF uQ (ah (aa 0))) (aH (db (ah (aa 1)) (aF KS (ah (aa 0)))) (aH (db (ah (aa 2)) (aF KR (ah (aa 0)))) bp)))))),λds M R RX d7 h=>?_])
 .obtain⟨_,_,_,_,rfl,_⟩:=h;rfl
 .obtain⟨p,v,X,Y,rfl,hv,v5,hd,hc,hR⟩:=h;cases p<;>simp only[Pat.cls]at hc<;>try exact absurd hc K7
  rename_i a b p;obtain⟨u,rfl,hu⟩:=hv;obtain⟨fs,rfl,o1⟩:=hu.objm;rw[Pat.depth]at hd;exact#[_,#[rfl,rfl],_,rfl,p.cls,p.cls_mem,fs,#[rfl,rfl],o1.shw,_,#[rfl,rfl],_,fz K7,_,#[rfl,rfl],_,ly K7 K7,p,_,X-a,Y-b,rfl,hu,v5.2.2,KK,rfl,hR]
def Fg(hL:1<=n)(T:V.Tm "Mirror" "shows" "Mirror.shows" iH iI)(uU:V.a "Mirror" "form")(uG:∀x,x∈(["Motif","Over","Shifted","Mirror","Turn","Rehue"]:List F_)->V.Q n x "shows" cB (ofX (ca j x))):V.Q (n+1) "Mirror" "shows" iI (ofX (ca (j+1) "Mirror")):=by
 refine Txm.okM T DO (λds M R RX h=>?_) (λf cdv A outer s H E J hr hx=>#[_,((ax (aJ (aS (hn:=K_) uG hx hr (aF uU (ah (aa 0))) (aB (ac (ck (aa 1)) (ac (aa 2) ae))))))),λds M R RX d7 h=>?_])
 .obtain⟨_,_,_,_,rfl,_⟩:=h;rfl
 .obtain⟨p,v,X,Y,rfl,hv,v5,hd,hc,hR⟩:=h;cases p<;>simp only[Pat.cls]at hc<;>try exact absurd hc K7
  rename_i p;obtain⟨u,rfl,hu⟩:=hv;obtain⟨fs,rfl,o1⟩:=hu.objm;rw[Pat.depth]at hd;exact#[_,#[rfl,rfl],_,rfl,p.cls,p.cls_mem,fs,#[rfl,rfl],o1.shw,p,_,-X,Y,rfl,hu,v5,KK,rfl,hR]
def Fh(hL:1<=n)(T:V.Tm "Turn" "shows" "Turn.shows" iJ iK)(uS:V.a "Turn" "form")(uG:∀x,x∈(["Motif","Over","Shifted","Mirror","Turn","Rehue"]:List F_)->V.Q n x "shows" cB (ofX (ca j x))):V.Q (n+1) "Turn" "shows" iK (ofX (ca (j+1) "Turn")):=by
 refine Txm.okM T DP (λds M R RX h=>?_) (λf cdv A outer s H E J hr hx=>#[_,((ax (aJ (aS (hn:=K_) uG hx hr (aF uS (ah (aa 0))) (aB (ac (aa 2) (ac (ck (aa 1)) ae))))))),λds M R RX d7 h=>?_])
 .obtain⟨_,_,_,_,rfl,_⟩:=h;rfl
 .obtain⟨p,v,X,Y,rfl,hv,v5,hd,hc,hR⟩:=h;cases p<;>simp only[Pat.cls]at hc<;>try exact absurd hc K7
  rename_i p;obtain⟨u,rfl,hu⟩:=hv;obtain⟨fs,rfl,o1⟩:=hu.objm;rw[Pat.depth]at hd;exact#[_,#[rfl,rfl],_,rfl,p.cls,p.cls_mem,fs,#[rfl,rfl],o1.shw,p,_,Y,-X,rfl,hu,v5,KK,rfl,hR]
def Fi(hL:1<=n)(T:V.Tm "Rehue" "shows" "Rehue.shows" iL iM)(uX:V.a "Rehue" "form")(KU:V.a "Rehue" "old")(KW:V.a "Rehue" "new")(uG:∀x,x∈(["Motif","Over","Shifted","Mirror","Turn","Rehue"]:List F_)->V.Q n x "shows" cB (ofX (ca j x))):V.Q (n+1) "Rehue" "shows" iM (ofX (ca (j+1) "Rehue")):=by
 refine Txm.okM T sc_Rehue_shows (λds M R RX h=>?_) (λf cdv A outer s H E J hr hx=>⟨_,((ar (aD 3 sc_Rehue_shows.nd (aS (hn:=K_) uG hx hr (aF uX (ah (aa 0))) (aB (ac (aa 1) (ac (aa 2) ae)))))
   (ax (aJ (fX (ik (ah (aa 3)) (aF KU (ah (aa 0)))) (aF KW (ah (aa 0))) (ah (aa 3))))))),λds M R RX d7 h=>?_⟩)
 .obtain⟨_,_,_,_,rfl,_⟩:=h;rfl
 .obtain⟨p,v,X,Y,rfl,hv,v5,hd,hc,hR⟩:=h;cases p<;>simp only[Pat.cls]at hc<;>try exact absurd hc K7
  rename_i f g p;obtain⟨u,rfl,hu⟩:=hv;obtain⟨fs,rfl,o1⟩:=hu.objm;rw[Pat.depth]at hd;refine#[λd M'=>d=.int (p.show X Y)/\M'=M,#[_,#[rfl,rfl],_,rfl,p.cls,p.cls_mem,fs,#[rfl,rfl],o1.shw,p,_,X,Y,rfl,hu,v5.2.2,KK,rfl,rfl,rfl],?_];rintro _ _⟨rfl,rfl⟩;k_places;rw[Pat.show]at hR;unfold bK at hR;refine#[_,#[rfl,rfl],_,fz K7,ite2 (λe=>?_) (λe=>?_)]
  .rw[if_pos (of_decide_eq_true e)]at hR;exact#[_,#[rfl,rfl],_,ly K7 K7,hR]
  .rw[if_neg (λz=>e (decide_eq_true z))]at hR;exact hR
def Fj(QJ:V.Tm "Motif" "shows" "Motif.shows" iC cB)(QK:V.Tm "Over" "shows" "Over.shows" iD iE)(QL:V.Tm "Shifted" "shows" "Shifted.shows" iF iG)(QM:V.Tm "Mirror" "shows" "Mirror.shows" iH iI)(QN:V.Tm "Turn" "shows" "Turn.shows" iJ iK)(QO:V.Tm "Rehue" "shows" "Rehue.shows" iL iM)(z7:fD V)(KQ:V.a "Motif" "hues")(uK:V.a "Motif" "shifts")(uV:V.a "Over" "above")(uW:V.a "Over" "below")(uQ:V.a "Shifted" "form")(KR:V.a "Shifted" "y")(KS:V.a "Shifted" "x")(uU:V.a "Mirror" "form")(uS:V.a "Turn" "form")(uX:V.a "Rehue" "form")(KU:V.a "Rehue" "old")(KW:V.a "Rehue" "new"):∀j x,x∈(["Motif","Over","Shifted","Mirror","Turn","Rehue"]:List F_)->V.Q (1+j) x "shows" cB (ofX (ca j x)):=by
 intro j;induction j with
 |zero=>
  intro x hx;simp only[GP,Ii,or_false]at hx;rcases hx with rfl|rfl|rfl|rfl|rfl|rfl
  .exact CalMth.never QJ (λds M R RX=>fB)
  .exact CalMth.never QK (λds M R RX=>fB)
  .exact CalMth.never QL (λds M R RX=>fB)
  .exact CalMth.never QM (λds M R RX=>fB)
  .exact CalMth.never QN (λds M R RX=>fB)
  .exact CalMth.never QO (λds M R RX=>fB)
 |succ j MG=>
  intro x hx;simp only[GP,Ii,or_false]at hx;rcases hx with rfl|rfl|rfl|rfl|rfl|rfl
  .exact ok_Motif_shows (n:=1+j) (j:=j) K_ QJ z7 KQ uK
  .exact Fe (n:=1+j) (j:=j) K_ QK uV uW MG
  .exact Ff (n:=1+j) (j:=j) K_ QL uQ KR KS MG
  .exact Fg (n:=1+j) (j:=j) K_ QM uU MG
  .exact Fh (n:=1+j) (j:=j) K_ QN uS MG
  .exact Fi (n:=1+j) (j:=j) K_ QO uX KU KW MG
abbrev vO(V:Bx):Prop:=∀x,x∈(["Motif","Over","Shifted","Mirror","Turn","Rehue"]:List F_)->V.Q 7 x "shows" cB (ofX (ca 6 x))
abbrev jw(V:Bx):Prop:=V.X 8 "cell_at" mY CU
def Fk(T:V.T "cell_at" mW mY)(Lp:jv V)(LO:V.a "Pattern" "form")(uG:vO V):jw V:=by
 refine CalMM.nilX (Tx.okM T DQ (λds M R RX h=>?_) (λf cdv A outer s H E J hr hx=>⟨_,((ar (bX (aR (CalX.toM Lp) hx hr (aB (ac (aa 1) (ac (aa 2) ae)))))
   (ax (aJ (aS uG hx hr (aF LO (ah (aa 0))) (aB (ac (aa 1) (ac (aa 2) ae)))))))),λds M R RX d7 h=>?_⟩))
 .obtain⟨_,R0,Ks,⟨_,_,_,_,rfl,_⟩,_⟩:=h;rfl
 .obtain⟨rfl,R0,Ks,⟨p,d,x,y,rfl,⟨w,h,s,fs,rfl,e1,e2,hp⟩,ok,h1,h2⟩,hR,hX⟩:=h;obtain⟨v,e3,hv⟩:=hp.form;obtain⟨gs,rfl,o1⟩:=hv.objm;have Sl:=ok.deep;refine#[x,y,rfl,λhn=>?_,λhn=>?_]
  .exact#[_,#[rfl,rfl],_,e3,p.cls,p.cls_mem,gs,#[rfl,rfl],o1.shw,p,_,x,y,rfl,hv,ok.wf,KK,rfl,hR _ _ (h1 hn)]
  .rw[d7];exact hX _ _ _ (h2 hn)
abbrev jx(V:Bx):Prop:=V.D 9 "row_from" mZ CV
def Fo(T:V.T "row_from" iN mZ)(uA:V.m "range")(Lq:jw V)(uO:V.gs "SIGNS" ".123456"):jx V:=by
 refine Tx.okDW T DR (λds R h=>?_) (λf cdv A outer s H E J hr=>#[_,((ao (ay (kB (fU rfl (compScope (by change cP _ (ag iN) ["pattern","x","y","many"] _=true;decide+kernel)) uA (aa 3) (λcl s0 H0 fp=>(af (eU uO) (av (CalX.no Lq) hr (ac (aa 0) (ac (aj (aa 1) (aa 4)) (ac (aa 2) ae))))))))))),λds R h=>?_])
 .obtain⟨_,_,_,_,_,rfl,_⟩:=h;rfl
 .obtain⟨p,d,x,y,n,rfl,hd,ok,hn,KH,n5,hy,hR⟩:=h;obtain⟨w,h,s,fs,rfl,_⟩:=id hd;refine#[#[KK,KK],by rw[bA];lia,λk ys=>ys=rowD p x y k,rfl,?_,?_]
  .rintro k v ys hk hl rfl;obtain⟨p_,rfl⟩:=bS hk;obtain⟨b0,b6⟩:=Pat.show_le ok.wf (by have:=ok.deep;lia) (x+(k:Int)) y;unfold aU at KH n5;exact#[p,.obj "Pattern" fs,x+(k:Int),y,rfl,hd,ok,λ_=>#[_,#[K3,vn b0 b6],vq p x y k],λz=>z #[#[KK,KK],hy]]
  .rintro ys hl rfl;rw[bA,Hu];obtain⟨ys,e1,e2,e3⟩:=vt p x y hn;refine#[ys,e1,e2,?_];rw[e3];exact hR
def vP:SpD:=λds R=>∃f q,ds=[.obj "Floor" (Fl.fs f q)]/\f.Ok/\R (.lst (aE f.p f.w 0 f.l.toNat))
variable{f:Fl}
def Fp{a q:KF}(ne:a≠q)(ok:f.Ok){R:D->MS->Prop}{RX:XDM}(h:R (.lst (aE f.p f.w 0 f.l.toNat)) (f.M a q)):lend (λds R _=>vP ds R) [.ptr a] (f.M a q) R RX:=by
 refine#[a,_,_,Fl.ma ne,f,q,?_,ok,Et _ _ _ _,h];show[lendD a _ (.ptr a)]=_;unfold lendD;simp
abbrev pL(V:Bx):Prop:=V.QD 10 "Floor" "rows" ng vP
def Fq(T:V.Tm "Floor" "rows" "Floor.rows" iO ng)(uA:V.m "range")(LP:jx V)(uD:V.a "Floor" "laid")(uN:V.a "Floor" "width")(uE:V.a "Floor" "pattern"):pL V:=by
 refine Txm.okDW T DU (λds R h=>?_) (λf cdv A outer s H E J hr=>#[_,((ao (ay (fU rfl (compScope (by change cP _ (ag iO) ["self"] _=true;decide+kernel)) uA (eO uD (aa 0)) (λcl s0 H0 fp=>(av LP hr (ac (eO uE (aa 0)) (ac ad (ac (aa 1) (ac (eO uN (aa 0)) ae)))))))))),λds R h=>?_])
 .obtain⟨_,_,rfl,_⟩:=h;rfl
 .obtain⟨f,q,rfl,ok,hR⟩:=h;have l0:=ok.l0;have l1:=ok.l1;have h2:=ok.h2;have w1:=ok.w1;have w2:=ok.w2;refine#[rfl,_,dR,#[KK,KK],by rw[bA];lia,λk ys=>ys=aE f.p f.w 0 k,rfl,?_,?_]
  .rintro k v ys hk hl rfl;obtain⟨p_,rfl⟩:=bS hk;refine#[rfl,_,gB,rfl,_,jj,f.p,f.d,0,k,f.w.toNat,by rw[Hq KK],ok.is,ok.ok,KK,#[KK,KK],#[KK,KK],#[KK,KK],?_];show aE f.p f.w 0 k++_=aE f.p f.w 0 (k+1);rw[<-pw,HH]
  .rintro ys hl rfl;rw[bA];exact hR
def S_Floor_lay:SpM:=λds M R RX=>∃a q f n,ds=[.ptr a,.int n]/\a≠q/\M=Fl.M f a q/\f.Ok/\1<=n/\n<=1000/\(f.h-f.l<n->RX "NoRow" [] (f.M a q))/\(n<=f.h-f.l->∀q',a≠q'->R (.lst (aE f.p f.w f.l n.toNat)) ((f.lay n).M a q'))
def Fl.ok_new{p:Pat}{d:D}{w h:Int}(is:bn p d)(ok:p.Ok)(w1:1<=w)(w2:w<=30)(h1:1<=h)(h2:h<=30):(Fl.mk p d w h 0 []).Ok:=#[is,ok,w1,w2,h1,h2,Int.le_refl 0,Iv (show(0:Int)<=1 by decide) h1,Hb _,λ_ h=>nomatch h]
def Fl.Ok.keep(ok:f.Ok)(w:F_):(f.keep w).Ok:=by
 refine#[ok.is,ok.ok,ok.w1,ok.w2,ok.h1,ok.h2,ok.l0,ok.l1,?_,λe he=>?_]
 .show(HN _ _).length<=20;rw[HL,G2,Jz];have:=ok.de;lia
 .rcases Hi.mp (Jp he)with z|z
  .exact ok.dd e z
  .rw[GM.mp z];exact#[ok.is,ok.ok,ok.l0,ok.l1]
def Fl.Ok.stand{p:Pat}{d:D}(ok:f.Ok)(is:bn p d)(l8:p.Ok):(f.stand p d).Ok:=#[is,l8,ok.w1,ok.w2,ok.h1,ok.h2,ok.l0,ok.l1,ok.de,ok.dd]
def Fl.Ok.lay{n:Int}(ok:f.Ok)(n0:0<=n)(hn:n<=f.h-f.l):(f.lay n).Ok:=by
 have l0:=ok.l0;have k:=ok.keep "lay";exact#[ok.is,ok.ok,ok.w1,ok.w2,ok.h1,ok.h2,by show 0<=f.l+n;lia,by show f.l+n<=f.h;lia,k.de,k.dd]
abbrev pM(V:Bx):Prop:=V.Q 11 "Floor" "lay" iP S_Floor_lay/\V.Qd 11 "Floor" "lay" iP [.int 1] S_Floor_lay
def Fs(T:V.Td "Floor" "lay" "Floor.lay" nh iP [.int 1])(uR:V.m "max")(Kx:V.a "Floor" "height")(uD:V.a "Floor" "laid")(LQ:ju V)(Pe:pL V)(Pf:V.n "NoRow"):pM V:=by
 refine Txd.okMd T sc_Floor_lay (λds M R RX h=>?_) (λf cdv A outer s H E J hr hx=>⟨_,((ar (bE (Af (ah (aa 1)) (db (aF Kx (ah (aa 0))) (aF uD (ah (aa 0))))) (ax (Az Pf hx rfl (aB (ac aA ae)))) bq)
   (ar (bX (aS (CalMth.one LQ) hx hr (ah (aa 0)) (aB (ac aA ae))))
   (ar (aD 2 sc_Floor_lay.nd (aF uD (ah (aa 0))))
   (ar (bY uD (ah (aa 0)) (ah (aj (aa 2) (fS rfl uR (ac (aa 1) (ac ad ae))))))
   (ax (aJ (Dp (cG (CalMth.one (CalMth.lendD Pe)) hx hr (ah (aa 0))) (vD (ah (aa 2))) vC)))))))),λds M R RX d7 h=>?_⟩)
 .obtain⟨_,_,⟨_,_,_,_,rfl,_⟩,_⟩:=h;rfl
 .obtain⟨R,RX,⟨a,q,f,n,rfl,ne,rfl,ok,n1,n2,hX,hR⟩,rfl,rfl⟩:=h;have l0:=ok.l0;have l1:=ok.l1;refine#[_,Fl.ma ne,_,vI,_,Fl.ma ne,_,dR,ite2 (λc=>?_) (λc=>?_)]
  .have c':=of_decide_eq_true c;refine#[P5,?_];rw[d7];exact#[_,Fl.sub ne,hX c']
  have hc:n<=f.h-f.l:=by have:¬(f.h-f.l<n):=λz=>c (decide_eq_true z);lia
  refine#[_,GM.mpr rfl,_,Fl.ma ne,rfl,a,q,f,"lay",rfl,ne,rfl,ok.de,λq' ge=>?_];refine#[λd M'=>d=.int f.l/\M'=(f.keep "lay").M a q',#[_,Fl.ma ge,_,dR,rfl,rfl],?_];rintro _ _⟨rfl,rfl⟩;k_places;have eM:mput ((f.keep "lay").M a q') a (.ins "Floor" (putD "laid" (.int (f.l+if 0>n then 0 else n)) ((f.keep "lay").fs q')))=(f.lay n).M a q':=by
   rw[Fl.put ge,if_neg KK];rfl
  refine#[_,Fl.ma ge,by show(6:Nat)<1000;decide,?_];rw[eM];have el:(f.lay n).l.toNat=f.l.toNat+n.toNat:=by show(f.l+n).toNat=_;lia
  refine#[_,GM.mpr rfl,_,Fl.ma ge,rfl,?_];dsimp only[mNil];refine Fp ge (ok.lay KK hc) ?_;rw[el];show ∃N,subM N _/\R (.lst (cutD (aE f.p f.w 0 _) (be f.l) t9)) N;rw[vJ _ _ _ l0];exact#[_,Fl.sub ge,hR hc q' ge]
def Ft:SpM:=λds M R _=>∃a q f n b,ds=[.ptr a,.int n,.bl b]/\a≠q/\M=Fl.M f a q/\f.Ok/\1<=n/\n<=1000/\(f.h-f.l<n->R (.lst [.bl true,.non]) (f.M a q))/\(n<=f.h-f.l->∀q',a≠q'->R (.lst [.bl false,.lst (aE f.p f.w f.l n.toNat)]) ((f.lay n).M a q'))
abbrev pN(V:Bx):Prop:=V.Ek ["MotifError","WrongSign","OneLine","TooGreat","TooFar","NoRow","Parted"]
abbrev pO(V:Bx):Prop:=V.MM 12 "_law_lay" nq Ft
def Fu(T:V.T "_law_lay" nj nq)(Nz:pM V)(ek:pN V):pO V:=by
 refine Tx.okM T sc__law_lay (λds M R RX h=>?_) (λf cdv A outer s H E J hr hx=>⟨_,((ar (aD 3 sc__law_lay.nd (ah bV))
   (ar (aD 4 sc__law_lay.nd (ah cL))
   (ar (tR (λpn xe J hp hx=>(ax (eY (bx (cN (gU (bc (aa 1) ad) (gT (cE (aa 2)))))) (ax (aD 3 sc__law_lay.nd (Dv Nz.2 hx hr (ah (aa 0))))) (ax (aD 3 sc__law_lay.nd (aS (CalMth.one Nz.1) hx hr (ah (aa 0)) (aB (ac (aa 1) ae)))))))) (λ_=>(zP ek (λe=>(ao (am 4 sc__law_lay.nd cL))) sT)))
   (ax (aJ (ah (br (ac (aa 4) (ac (aa 3) ae)))))))))),λds M R RX d7 h=>?_⟩)
 .obtain⟨_,_,_,_,_,rfl,_⟩:=h;rfl
 .obtain⟨a,q,f,n,b,rfl,ne,rfl,ok,n1,n2,hX,hR⟩:=h;refine#[λd M'=>d=.non/\M'=f.M a q,#[rfl,rfl],?_];rintro _ _⟨rfl,rfl⟩;k_places;refine#[λd M'=>d=.bl false/\M'=f.M a q,#[rfl,rfl],?_];rintro _ _⟨rfl,rfl⟩;k_places;refine#[λz M' x fs=>z=[be (.ptr a),be (.int n),be (.bl b),be .non,be (.bl false)]/\M'=f.M a q/\x="NoRow"/\f.h-f.l<n,λJ hJ=>?_,?_]
  .let P:D->MS->Prop:=λd M'=>n<=f.h-f.l/\∃q',a≠q'/\d=.lst (aE f.p f.w f.l n.toNat)/\M'=(f.lay n).M a q'
   have lay:S_Floor_lay [.ptr a,.int n] (f.M a q) P (λx fs M'=>J.RM [be (.ptr a),be (.int n),be (.bl b),be .non,be (.bl false)] M' x fs):=
    #[a,q,f,n,rfl,ne,rfl,ok,n1,n2,λc=>by rw[hJ];exact#[rfl,rfl,rfl,c],λc q' ge=>#[c,q',ge,rfl,rfl]]
   refine#[λz M'=>n<=f.h-f.l/\∃q',a≠q'/\z=[be (.ptr a),be (.int n),be (.bl b),be (.lst (aE f.p f.w f.l n.toNat)),be (.bl false)]/\M'=(f.lay n).M a q',ite2 (λc=>ite2 (λ_=>?_) (λ_=>?_)) (λ_=>?_),λz M' ⟨c,q',ge,e1,e2⟩=>?_]
   .have c':n=1:=of_decide_eq_true c;subst c';exact#[P,#[_,Fl.ma ne,rfl,lay],λd M' ⟨c,q',ge,e1,e2⟩=>#[c,q',ge,by rw[e1];rfl,e2]]
   .exact#[P,#[_,GM.mpr rfl,_,Fl.ma ne,rfl,lay],λd M' ⟨c,q',ge,e1,e2⟩=>#[c,q',ge,by rw[e1];rfl,e2]]
   .exact#[P,#[_,GM.mpr rfl,_,Fl.ma ne,rfl,lay],λd M' ⟨c,q',ge,e1,e2⟩=>#[c,q',ge,by rw[e1];rfl,e2]]
   .subst e1 e2;exact#[O0,hR c q' ge]
  .rintro z M' x fs⟨rfl,rfl,rfl,c⟩;k_places;refine#[#[K',K'],?_];rw[if_pos K7];exact#[λd=>d=.bl true,rfl,λd e=>by subst e;exact#[#[O0,hX c],NoOwn.of rfl]]
def Fv:SpD:=λds R=>∃(p q:Pat) (w:Int) (n m:Nat),ds=[.lst (aE p w 0 n),.lst (aE q w 0 m)]/\p.Ok/\q.Ok/\0<=w/\w<=30/\n<=m/\m<=30/\(dB p q w n->R .non)/\∀x y,fC p q w n x y->R (.tup [.int x,.int y])
abbrev pP(V:Bx):Prop:=V.D 1 "_law_parted" nu Fv
def Fw(T:V.T "_law_parted" nt nu)(uA:V.m "range")(uB:V.m "len"):pP V:=by
 refine Tx.okDW T sc__law_parted (λds R h=>?_) (λf cdv A outer s H E J hr=>⟨_,((ai (ce 2 PassesOwn.never rfl sc__law_parted.nd uA (cm uB (ac (aa 0) ae)) (ao (ce 3 PassesOwn.never rfl sc__law_parted.nd uA (cm uB (ac (af (aa 0) (aa 2)) ae)) (ao (bg (cM (af (af (aa 0) (aa 2)) (aa 3)) (af (af (aa 1) (aa 2)) (aa 3))) (ao (ay (aI (ac (aa 3) (ac (aa 2) ae))))) aT)))))
   (ao (ay bV)))),λds R h=>?_⟩)
 .obtain⟨_,_,_,_,_,rfl,_⟩:=h;rfl
 .obtain⟨p,q,w,n,m,rfl,l8,f6,w0,w7,nm,m7,hN,hS⟩:=h;have lp:∀{p:Pat} {n:Nat},(aE p w 0 n).length=n:=λ{p n}=>by unfold aE;simp
  refine#[#[KK,by rw[lp];lia],λk z=>∃o2 o3,z=[be (.lst (aE p w 0 n)),be (.lst (aE q w 0 m)),o2,o3]/\dB p q w k,#[_,_,rfl,λx y _ _ a b=>KK],?_,?_]
  .rintro k v z hk⟨o2,o3,rfl,hj⟩;k_places;obtain⟨p_,rfl⟩:=bS hk;rw[lp]at p_;have a1:=vL (p:=p) (w:=w) (lo:=0) (show k<n by lia);have a2:=vL (p:=q) (w:=w) (lo:=0) (show k<m by lia);rw[HH]at a1 a2;refine#[_,a1,by rw[cA];lia,#[by rw[cA];lia,by rw[cA];lia],λi z=>∃o3,z=[be (.lst (aE p w 0 n)),be (.lst (aE q w 0 m)),be (.int k),o3]/\∀x:Int,0<=x->x<i->p.show x k=q.show x k,#[_,rfl,λx a b=>KK],?_,?_]
   .rintro i v z hi⟨o3,rfl,i_⟩;k_places;obtain⟨v4,rfl⟩:=bS hi;rw[cA]at v4;have b1:=vM (p:=p) (y:=(k:Int)) (show i<w.toNat by lia);have b2:=vM (p:=q) (y:=(k:Int)) (show i<w.toNat by lia);refine#[_,a1,_,#[by rw[cA];lia,b1],_,a2,_,#[by rw[cA];lia,b2],ite2 (λc=>?_) (λc=>?_)]
    .refine#[O0,hS i k #[#[KK,KK,KK,KK],λz=>by simp[z]at c,λx' y' a b c d=>?_]];rcases d with d|⟨rfl,d⟩
     .exact hj x' y' a b c KK
     .exact i_ x' a KK
    .have c':(#[[aP (p.show i k)].toArray]:F_)=#[[aP (q.show i k)].toArray]:=by simpa using c
     have c2:=EF (Pat.show_le l8.wf (by have:=l8.deep;lia) _ _).1 (Pat.show_le f6.wf (by have:=f6.deep;lia) _ _).1 (EG c');refine#[_,rfl,λx a b=>?_];by_cases e:x=i
     .rw[e];exact c2
     .exact i_ x a KK
   .rintro z⟨o3,rfl,i_⟩;k_places;rw[bA,Hu,cA]at i_;refine#[_,_,rfl,λx y a b c d=>?_];by_cases e:y=k
    .rw[e];exact i_ x a KK
    .exact hj x y a b c KK
  .rintro z⟨o2,o3,rfl,hj⟩;k_places;rw[bA,lp,Hu]at hj;exact hN hj
abbrev dD(V:Bx):Prop:=V.Q 1 "Reading" "may_take" nw Cj
def Fx(T:V.Tm "Reading" "may_take" "Reading.may_take" nv nw)(uB:V.m "len")(KY:V.a "Reading" "text")(uL:V.a "Reading" "place"):dD V:=by
 refine Txm.okM T DV (λds M R RX h=>?_) (λf cdv A outer s H E J hr hx=>⟨_,((ar (bE (mt_w (Aj (ik (aF uL (ah (aa 0))) (tE uB (aH (aF KY (ah (aa 0))) bp))) (Ai (Ah (kM (aF KY (ah (aa 0))) (aF uL (ah (aa 0)))) (ah (aa 1)))))) (ax (aJ (ah aA))) bq)
   (ar (bY uL (ah (aa 0)) (ij (aF uL (ah (aa 0))) (ah ad)))
   (ax (aJ (kM (aF KY (ah (aa 0))) (db (aF uL (ah (aa 0))) (ah ad)))))))),λds M R RX d7 h=>?_⟩)
 .obtain⟨_,_,_,_,_,rfl,_⟩:=h;rfl
 .obtain⟨a,t,k,l,al,rfl,rfl,c9,hR⟩:=h;refine#[_,aW,_,fo,_,aW,_,lv,GW c9.sz K3,?_];cases l with
  |nil=>
   refine ifdT (by rw[c9.nil]) (ifT rfl ?_);exact hR
  |cons c l=>
   have lt:=c9.lt;refine ifdF KK ?_;refine#[_,aW,_,lv,_,aW,_,fo,c,#[GW c9.sz K3,bH c9.get],?_];refine ite2 (λe=>?_) (λe=>?_)
   .have e2:(!(!(Builtin.Str.occurrences al #[[c].toArray] 0 al.length 1).isEmpty))=true:=e;rw[vb]at e2;have nc:c∉cs al:=by simpa using e2
    rw[dN nc,dO nc]at hR;exact hR
   .have e2:¬(!(!(Builtin.Str.occurrences al #[[c].toArray] 0 al.length 1).isEmpty))=true:=e;rw[vb]at e2;have nc:c∈cs al:=by simpa using e2
    rw[fq nc,fu nc]at hR;refine#[_,aW,_,fo,_,aW,by show(2:Nat)<1000;decide,?_];rw[show mput (RdM a t k) a (.ins "Reading" (putD ("place":F_) (.int ((k:Int)+1)) (rdF t k)))=RdM a t (k+1)by rw[Ch];exact iu];refine#[_,aW,_,lv,_,aW,_,fo,c,#[GW c9.sz K3,?_],hR];rw[show((k+1:Nat):Int)-1=(k:Int)by lia];exact bH c9.get
abbrev cJ(V:Bx):Prop:=V.Q 2 "Reading" "take" nz Ck
def Fy(T:V.Tm "Reading" "take" "Reading.take" ny nz)(uI:dD V):cJ V:=by
 refine Txm.okM T sc_Reading_take (λds M R RX h=>?_) (λf cdv A outer s H E J hr hx=>⟨_,((ar (aD 2 sc_Reading_take.nd (aS (CalMth.one uI) hx hr (ah (aa 0)) (aB (ac (aa 1) ae))))
   (ar (bE (bx (bc (aa 2) aA)) (ax ir) bq)
   (ax (aJ (ah (aa 2))))))),λds M R RX d7 h=>?_⟩)
 .obtain⟨_,_,_,_,_,_,rfl,_⟩:=h;rfl
 .obtain⟨a,t,k,c,l,al,rfl,rfl,c9,hc,hR⟩:=h;refine#[λd M'=>d=.str #[[c].toArray]/\M'=RdM a t (k+1),#[_,GM.mpr rfl,_,aW,dv,a,t,k,_,al,rfl,rfl,c9,by rw[fq hc,fu hc];exact#[rfl,rfl]],?_];rintro _ _⟨rfl,rfl⟩;k_places;exact hR
abbrev pQ(V:Bx):Prop:=V.MM 3 "line_from" nB S_line_from
def Fz(T:V.T "line_from" nA nB)(uA:V.m "range")(uO:V.gs "SIGNS" ".123456")(uC:cJ V)(uI:dD V):pQ V:=by
 refine Tx.okM T sc_line_from (λds M R RX h=>?_) (λf cdv A outer s H E J hr hx=>⟨_,((ar (aD 3 sc_line_from.nd (ah aA))
   (ar (AF 4 PassesOwn.leaving rfl sc_line_from.nd uA (ah (aa 2)) (ax (aD 3 sc_line_from.nd (ij (ah (aa 3)) (fX (bx (fJ (aa 4) (aa 1))) (aS (CalMth.one uC) hx hr (ah (aa 0)) (aB (ac (eU uO) ae))) (aS (CalMth.one uI) hx hr (ah (aa 0)) (aB (ac (eU uO) ae))))))))
   (ax (aJ (ah (aa 3))))))),λds M R RX d7 h=>?_⟩)
 .obtain⟨_,_,_,_,_,_,_,rfl,_⟩:=h;rfl
 .obtain⟨a,t,k,n,m,x,l,rfl,rfl,c9,hs,hn,hm,Tf,m4,hR⟩:=h;refine#[λd M'=>d=.str ""/\M'=RdM a t k,#[rfl,rfl],?_];rintro _ _⟨rfl,rfl⟩;k_places;refine#[#[KK,KK],λi z M'=>i<=m/\∃col,z=[be (.ptr a),be (.int n),be (.int m),be (.str #[(x.take i).toArray]),col]/\M'=RdM a t (k+min i x.length),#[Hb _,t9,rfl,by rw[Nat.zero_min];rfl],?_,?_]
  .rintro i d z M' hi⟨Tg,col,rfl,rfl⟩;k_places;obtain⟨v4,rfl⟩:=bS hi;have v4:i<m:=by lia
   have b7:=List.length_take_le i x;refine#[λd M'=>d=.str #[(x.take (i+1)).toArray]/\M'=RdM a t (k+min (i+1) x.length),?_,?_]
   .by_cases f8:i<x.length
    .have e1:x.take (i+1)=x.take i++[x[i]]:=List.take_succ_eq_append_getElem f8;have c_:At t (k+i) (x[i]::(x.drop (i+1)++l)):=by
      have:=c9;rw[<-Kf i x,HB,HU f8]at this;have:=this.app;rw[Im,Ik KK]at this;exact this
     have hc:=signs_is.mpr (Cg (hs x[i] (Hg f8)));have e2:(#[(x.take i).toArray]:F_)++#[[x[i]].toArray]=#[(x.take (i+1)).toArray]:=by rw[show(#[[x[i]].toArray]:F_)=#[[x[i]].toArray]from rfl,gj,e1]
     rw[Ik KK,Ik KK];refine ite2 (λ_=>?_) (λ_=>?_)
     .exact#[_,GM.mpr rfl,_,aW,cu,a,t,_,_,_,".123456",rfl,rfl,c_,hc,by rw[fv,show(#[[x[i]].toArray]:F_).length=1 from rfl];lia,congrArg D.str e2,rfl]
     .refine#[_,GM.mpr rfl,_,aW,dv,a,t,_,_,".123456",rfl,rfl,c_,?_];rw[fq hc,fu hc];exact#[by rw[fv,show(#[[x[i]].toArray]:F_).length=1 from rfl];lia,congrArg D.str e2,rfl]
    .obtain⟨c,l',rfl,hc⟩:=m4.resolve_left KK;have c_:=c9.app;rw[IM KK,IM KK,HP KK,HP KK];refine ite2 (λc=>absurd (of_decide_eq_true c) KK) (λ_=>?_);refine#[_,GM.mpr rfl,_,aW,dv,a,t,_,_,".123456",rfl,rfl,c_,?_];rw[dN (vc hc),dO (vc hc)];refine#[by rw[fv,show("":F_).length=0 from rfl];lia,?_,rfl];rw[show("":F_)=#[([]:List Nat).toArray]from rfl,gj,Hl]
   .rintro _ _⟨rfl,rfl⟩;k_places;exact#[v4,_,rfl,trivial]
  .intro z M' hz;rw[bA,Hu]at hz;obtain⟨_,col,rfl,rfl⟩:=hz;rw[HP hm,IM hm];exact hR
abbrev pR(V:Bx):Prop:=V.MM 4 "lines_from" nD Cq
def FA(T:V.T "lines_from" nC nD)(uB:V.m "len")(NA:pQ V)(NB:V.gi "LONGEST" 8)(uI:dD V):pR V:=by
 refine Tx.okM T sc_lines_from (λds M R RX h=>?_) (λf cdv A outer s H E J hr hx=>⟨_,((ar (aD 1 sc_lines_from.nd (kO (aH (aR (CalMM.frame NA) hx hr (aB (ac (aa 0) (ac ad (ac (eQ NB) ae))))) bp)))
   (ar (aD 2 sc_lines_from.nd (tE uB (aH (AI (ah (aa 1)) (ah ad)) bp)))
   (ar (AE PassesOwn.leaving (mt_w (tz (tm (AH uB (ah (aa 1))) (ah (eQ NB))) (tw (ik (aS (CalMth.one (CalMth.frame uI)) hx hr (ah (aa 0)) (aB (ac aA ae))) (ah aA))))) (ax (bX (AK (ah (aa 1)) (aR (CalMM.frame NA) hx hr (aB (ac (aa 0) (ac (aa 2) (ac (aa 2) ae)))))))))
   (tI 1 (ax (aJ (ah (aa 1))))))))),λds M R RX d7 h=>?_⟩)
 .obtain⟨_,_,_,_,_,_,rfl,_⟩:=h;rfl
 .obtain⟨a,t,k,L,w,l,rfl,rfl,hL,c9,hR⟩:=h;have hw:=hL.w1;have Sm:=hL.w8;have z8:=hL.many;cases L with
  |nil=>exact absurd z8.1 K3
  |cons x L=>
   obtain⟨KH,n5⟩:=hL.each x GS;rw[va]at c9 hR;rw[HB]at c9;rw[GU]at z8;have stop:∀N:List (List Nat),∃c l',rowsT N++59::l=c::l'/\isSg c=false:=λN=>by
    cases N with
    |nil=>exact#[59,l,rfl,rfl]
    |cons y N=>exact#[47,_,rfl,rfl]
   refine#[λd M'=>∃p,p≠a/\d=.ptr p/\M'=(p,.lst [.str #[x.toArray]])::RdM a t (k+x.length),#[[],RdM a t k,rfl,a,t,k,1,8,x,_,rfl,rfl,c9,n5,KK,KK,K3,.inr (stop L),by show 1<=1000;decide,λp hp=>#[p,λe=>hp (by rw[e];exact GM.mpr rfl),rfl,rfl]],?_];rintro _ _⟨p,Sn,rfl,rfl⟩;k_places;refine#[λd M'=>d=.int w/\M'=(p,.lst [.str #[x.toArray]])::RdM a t (k+x.length),#[_,cS,_,rfl,by rw[fv];lia,by rw[fv,KH],rfl],?_];rintro _ _⟨rfl,rfl⟩;k_places;refine#[λm z M'=>∃L1 L2 k',L=L1++L2/\m=L2.length/\At t k' (rowsT L2++59::l)/\k'+(rowsT L2).length=k+(x++rowsT L).length/\z=[be (.ptr a),be (.ptr p),be (.int w)]/\M'=(p,.lst (lstD (x::L1)))::RdM a t k',#[_,[],L,_,rfl,rfl,c9.app,by rw[G2];lia,rfl,rfl],?_];rintro m z M'⟨L1,L2,k',rfl,rfl,j5,hk,rfl,rfl⟩;k_places;rw[G2]at z8;have MH:(lstD (x::L1)).length=L1.length+1:=by simp[lstD]
   have done:L2=[]->R (.lst (lstD (x::L1))) (RdM a t k'):=λe=>by
    subst e;rw[show k'=k+(x++rowsT (L1++[])).length from hk,show lstD (x::L1)=lstD (x::(L1++[]))by rw[Hl]];exact hR
   refine#[_,cS,?_];rw[MH];refine ite2 (λc=>?_) (λc=>?_)
   .refine#[_,GM.mpr rfl,_,Cp Sn,dv,[(p,_)],RdM a t _,rfl,a,t,_,_,"/",rfl,rfl,j5,?_];cases L2 with
    |nil=>
     rw[show rowsT []++59::l=59::l from rfl,dN K3,dO K3];refine#[_,cS,?_];rw[show mdel ([(p,MO.lst (lstD (x::L1)))]++RdM a t (k'+0)) p=RdM a t k' from lx];exact done rfl
    |cons y N=>
     have e1:rowsT (y::N)++59::l=47::(y++(rowsT N++59::l)):=by simp[rowsT]
     have QP:(47:Nat)∈cs "/":=K3
     rw[e1]at j5 ⊢;rw[fq QP,fu QP];obtain⟨So,Sq⟩:=hL.each y (GQ _ (Ha _ GS));have p6:=j5.next;refine#[#[_,cS],[(p,_)],RdM a t _,rfl,a,t,_,w,w,y,_,rfl,rfl,p6,Sq,KK,KK,Sm,.inl So,?_];refine#[_,cS,by rw[MH];lia,N.length,by rw[GU];lia,L1++[y],N,_,K',rfl,p6.app,?_,rfl,?_]
     .rw[<-hk];simp[rowsT];lia
     .show mput ((p,MO.lst (lstD (x::L1)))::RdM a t _) p _=_;rw[vd];simp[lstD]
   .have c':L1.length+1=8:=by
     have:¬((L1.length+1:Nat):Int)<8:=λz=>c (decide_eq_true z);lia
    refine#[_,cS,?_];rw[lx];exact done (JL KK)
abbrev pS(V:Bx):Prop:=V.MM 3 "number_from" nF Cn
def FC(T:V.T "number_from" nE nF)(uF:V.m "int")(uI:dD V)(uC:cJ V):pS V:=by
  refine Tx.okM T sc_number_from (λds M R RX h=>?_) (λf cdv A outer s H E J hr hx=>⟨_,((ar (bE (ik (aS (CalMth.one uI) hx hr (ah (aa 0)) (aB (ac aA ae))) (ah aA)) (ax (aJ (ah ad))) bq)
      (ar (aD 1 sc_number_from.nd (ij (aS (CalMth.one uI) hx hr (ah (aa 0)) (aB (ac aA ae))) (aS (CalMth.one uC) hx hr (ah (aa 0)) (aB (ac aA ae)))))
      (ar (eY (bx (cE (Ac (aa 1) (ac aA ae)))) (ax (aD 1 sc_number_from.nd (ij (ah (aa 1)) (aS (CalMth.one uI) hx hr (ah (aa 0)) (aB (ac aA ae)))))) bq)
      (ax (aJ (ah (hU uF (ac (aa 1) ae))))))))),λds M R RX d7 h=>?_⟩)
  . obtain⟨_,_,_,_,_,_,rfl,_⟩:=h;rfl
  . obtain⟨a,t,k,x,e,l,rfl,rfl,f8,he,c9,hR⟩:=h;have hi:=Cl f8;have hl:=bJ f8;rw[<-bj]at hl;change (numL x).length<=3 at hl;refine#[_,GM.mpr rfl,_,aW,dv,a,t,k,_,"0",rfl,rfl,c9,?_];rcases numS f8 with e0|⟨pre,c,y,hp,hc,ev,hy⟩
    . rw[e0]at hR hi ⊢;have e1:x=0:=Option.some.inj (hi.symm.trans K7);subst e1;have e2:(48:Nat)∈cs "0":=by decide
      rw[show([48]++e::l:List Nat)=48::e::l from rfl,fq e2,fu e2];exact hR
    rw[ev]at c9 hR hi hl ⊢;have h0:mayS "0" (pre++c::y++e::l)=""/\mayN "0" (pre++c::y++e::l)=0:=by
      have n:c∉cs "0":=λq=>by have:=GM.mp q;lia
      rcases hp with rfl|rfl
      . exact#[dN n,dO n]
      . exact#[dN K3,dO K3]
    have hm:mayS "-" (pre++c::y++e::l)=#[pre.toArray]/\mayN "-" (pre++c::y++e::l)=pre.length:=by
      have n:c∉cs "-":=λq=>by have:=GM.mp q;lia
      rcases hp with rfl|rfl
      . exact#[dN n,dO n]
      . exact#[rfl,rfl]
    rw[h0.1,h0.2];have c_:At t (k+pre.length) (c::(y++e::l)):=by rw[HB]at c9;exact c9.app
    have j5:=c_.next;refine#[λd M'=>d=.str #[(pre++[c]).toArray]/\M'=RdM a t (k+pre.length+1),?_,?_]
    . refine#[_,GM.mpr rfl,_,aW,dv,a,t,k,_,"-",rfl,rfl,c9,?_];rw[hm.1,hm.2];refine#[_,GM.mpr rfl,_,aW,cu,a,t,k+pre.length,c,_,"123456789",rfl,rfl,c_,digits19.mpr hc,?_,?_,rfl]
      . rcases hp with rfl|rfl<;>simp[Str.length]
      . rw[show(#[[c].toArray]:F_)=#[[c].toArray]from rfl,gj]
    . rintro _ _⟨rfl,rfl⟩;k_places;refine#[λz M'=>z=[be (.ptr a),be (.str #[(pre++c::y).toArray])]/\M'=RdM a t (k+(pre++c::y).length),?_,?_]
      . show if Txt.endswith #[(pre++[c]).toArray] "1"=true then _ else _
        rw[Cm];refine ite2 (λz=>?_) (λz=>?_)
        . obtain⟨e1,e2,e3⟩:(⟨(pre++[c]).toArray⟩:F_)++mayS "012" (y++e::l)=⟨(pre++c::y).toArray⟩/\mayN "012" (y++e::l)=y.length/\(mayS "012" (y++e::l)).length<=1:=by
            rcases hy with rfl|⟨_,d,hd,rfl⟩
            . have n:e∉cs "012":=λq=>by have:=digits02.mp q;unfold endS at he;lia
              rw[List.nil_append,dN n,dO n];refine#[?_,rfl,K3];rw[show("":F_)=#[([]:List Nat).toArray]from rfl,gj];simp
            . rw[show([d]++e::l:List Nat)=d::e::l from rfl,fq (digits02.mpr hd),fu (digits02.mpr hd)];refine#[?_,rfl,GN 1];rw[show(#[[d].toArray]:F_)=#[[d].toArray]from rfl,gj];simp
          refine#[λv M'=>v=.str #[(pre++c::y).toArray]/\M'=RdM a t (k+(pre++c::y).length),#[_,GM.mpr rfl,_,aW,dv,a,t,_,_,"012",rfl,rfl,j5,?_],?_]
          . refine#[?_,congrArg D.str e1,?_]
            . rcases hp with rfl|rfl<;>simp[Str.length]at e3 ⊢<;>lia
            . rw[e2];congr 1;simp;lia
          . rintro _ _⟨rfl,rfl⟩;k_places;exact#[rfl,trivial]
        . have Sr:y=[]:=hy.resolve_right λq=>z (decide_eq_true q.1);subst Sr;exact#[rfl,by rw[G2];rfl]
      . rintro _ _⟨rfl,rfl⟩;k_places;exact#[x,#[hi,by show(pre++c::y).length<=640;lia],hR]
abbrev gD(V:Bx):Prop:=V.MM 4 "shift_from" nH Co
def FD(T:V.T "shift_from" nG nH)(NC:pS V)(uC:cJ V):gD V:=by
 refine Tx.okM T sc_shift_from (λds M R RX h=>?_) (λf cdv A outer s H E J hr hx=>⟨_,((ar (aD 1 sc_shift_from.nd (aR NC hx hr (aB (ac (aa 0) ae))))
   (ar (bX (aS (CalMth.one uC) hx hr (ah (aa 0)) (aB (ac aA ae))))
   (ax (aJ (tD (aH (ah (aa 1)) (aH (aR NC hx hr (aB (ac (aa 0) ae))) bp)))))))),λds M R RX d7 h=>?_⟩)
 .obtain⟨_,_,_,_,_,_,_,rfl,_⟩:=h;rfl
 .obtain⟨a,t,k,x,y,e,l,rfl,rfl,f8,hy,he,c9,hR⟩:=h;refine#[λd M'=>d=.int x/\M'=RdM a t (k+(numL x).length),#[a,t,k,x,44,_,rfl,rfl,f8,.inl rfl,c9,rfl,rfl],?_];rintro _ _⟨rfl,rfl⟩;k_places;have c_:=c9.app;exact#[_,GM.mpr rfl,_,aW,cu,a,t,_,44,_,",",rfl,rfl,c_,K3,a,t,_,y,e,l,rfl,rfl,hy,he,c_.next,K',hR]
abbrev jy(V:Bx):Prop:=V.D 1 "levelled" nJ BB
def FE(T:V.T "levelled" nI nJ):jy V:=by
 refine Tx.okDW T sc_levelled (λds R h=>?_) (λf cdv A outer s H E J hr=>⟨_,((ai (fR PassesOwn.never (cM (af (aa 1) ad) ad) (ai (am 2 sc_levelled.nd (yy (af (aa 0) ad) (af (aa 1) ad)))
    (ai (am 3 sc_levelled.nd (aI (ac (bo (af (aa 0) ad) (aw (aa 2) (af (aa 1) ad))) (ac (bo (af (aa 0) ad) (aw (aa 2) (af (aa 1) ad))) ae))))
    (ai (am 0 sc_levelled.nd (aa 1))
    (ao (am 1 sc_levelled.nd (aa 3)))))))
   (ai (fO (fJ (af (aa 0) ad) ad) (ao (am 0 sc_levelled.nd (aI (ac (ck (af (aa 0) ad)) (ac (ck (af (aa 0) ad)) ae))))) aT)
   (ao (ay (aI (ac (aa 0) (ac (aa 1) ae)))))))),λds R h=>?_⟩)
 .obtain⟨a,b,c,d,rfl,_⟩:=h;rfl
 .obtain⟨a,b,c,d,rfl,hb,hd,hR⟩:=h;refine#[λm z=>∃(f0 f1 s0 s1:Int) (t r:Option D),z=[be (.tup [.int f0,.int f1]),be (.tup [.int s0,.int s1]),t,r]/\Uni a b c d f0 f1 s0 s1/\f1.natAbs<4611686018427387904/\s1.natAbs<4611686018427387904/\m=s1.natAbs,#[_,a,b,c,d,t9,t9,rfl,Uni.refl a b c d,hb,hd,rfl],?_];rintro m z⟨f0,f1,s0,s1,t,r,rfl,hu,hf,hs,rfl⟩;k_places;refine#[_,rfl,ite2 (λcc=>?_) (λcc=>?_)]
  .have c':¬s1=0:=by simpa using cc
   obtain⟨g1,g2⟩:=fdm f1 s1 c';refine#[λd=>d=.int (f1.fdiv s1),#[_,rfl,_,rfl,#[c',hs],rfl],?_];rintro _ rfl;k_places;refine#[λd=>d=.tup [.int (f0-f1.fdiv s1*s0),.int (f1-f1.fdiv s1*s1)],#[_,rfl,_,rfl,.inl #[KK,KK],_,rfl,_,rfl,.inl #[KK,KK],K',rfl],?_];rintro _ rfl;k_places;refine#[λd=>d=.tup [.int s0,.int s1],rfl,?_];rintro _ rfl;k_places;refine#[λd=>d=.tup [.int (f0-f1.fdiv s1*s0),.int (f1-f1.fdiv s1*s1)],rfl,?_];rintro _ rfl;k_places;exact#[_,g1,s0,s1,_,_,_,_,rfl,hu.step _,hs,KK,rfl]
  .have c':s1=0:=by simpa using cc
   subst c';refine#[λz=>∃p0 p1:Int,z=[be (.tup [.int p0,.int p1]),be (.tup [.int s0,.int 0]),t,r]/\Lev a b c d p0 p1 s0,#[_,rfl,ite2 (λe=>?_) (λe=>?_)],?_]
   .have e':=of_decide_eq_true e;refine#[λd=>d=.tup [.int (-f0),.int (-f1)],#[_,rfl,_,rfl,K',rfl],?_];rintro _ rfl;k_places;exact#[_,_,rfl,KK,hu.neg]
   .have e':=of_decide_eq_false (Hm.mpr e);exact#[_,_,rfl,KK,hu]
   .rintro _⟨p0,p1,rfl,hL⟩;k_places;exact#[K',hR p0 p1 s0 hL]
abbrev jz(V:Bx):Prop:=V.D 2 "spread" nM BC
def FF(T:V.T "spread" nK nM)(uP:V.m "abs")(LR:jy V):jz V:=by
 refine Tx.okDW T sc_spread (λds R h=>?_) (λf cdv A outer s H E J hr=>⟨_,((ai (bg (bc (aw (af (aa 0) ad) (af (aa 1) ad)) (aw (af (aa 0) ad) (af (aa 1) ad))) (ao (ay bV)) aT)
   (ai (am 2 sc_spread.nd (av LR hr (ac (aa 0) (ac (aa 1) ae))))
   (ai (am 3 sc_spread.nd (eE uP (ac (af (af (aa 2) ad) ad) ae)))
   (ao (ay (aI (ac (aa 3) (ac (af (af (aa 2) ad) ad) (ac (aC (af (af (aa 2) ad) ad) (aa 3)) ae)))))))))),λds R h=>?_⟩)
 .obtain⟨a,b,c,d,rfl,_⟩:=h;rfl
 .obtain⟨a,b,c,d,rfl,ha,hb,hc,hd,hN,hR⟩:=h;refine#[_,rfl,_,rfl,.inl #[KK,KK],_,rfl,_,rfl,.inl #[KK,KK],ite2 (λe=>?_) (λe=>?_)]
  .exact hN (of_decide_eq_true e)
  .have e':=of_decide_eq_false (Hm.mpr e);refine#[λx=>∃p0 p1 q0:Int,x=.tup [.tup [.int p0,.int p1],.tup [.int q0,.int 0]]/\Lev a b c d p0 p1 q0,#[a,b,c,d,rfl,hb,hd,λp0 p1 q0 hL=>#[p0,p1,q0,rfl,hL]],?_];rintro _⟨p0,p1,q0,rfl,hL⟩;k_places;have hF:=fZ e' hL;refine#[λx=>x=.int (if q0<0 then -q0 else q0),#[_,rfl,_,rfl,rfl],?_];rintro _ rfl;k_places;exact#[_,rfl,_,rfl,_,rfl,_,rfl,hF.1,K',hR e' _ _ _ hF]
abbrev pT(V:Bx):Prop:=V.MM 2 "hues_by_home" nO Cw
def FG(T:V.T "hues_by_home" nN nO)(Lr:V.m "enumerate")(z7:fD V)(uO:V.gs "SIGNS" ".123456"):pT V:=by
 refine Tx.okM T sc_hues_by_home (λds M R RX h=>?_) (λf cdv A outer s H E J hr hx=>⟨_,((ar (aD 2 sc_hues_by_home.nd A1)
   (ar (AR PassesOwn.leaving rfl Lr (ah (aa 0)) (dg_cons 3 sc_hues_by_home.nd (dg_cons 4 sc_hues_by_home.nd dI)) (ax (AS PassesOwn.leaving rfl Lr (ah (aa 4)) (dg_cons 5 sc_hues_by_home.nd (dg_cons 6 sc_hues_by_home.nd dI)) (ax (eY (bx (cM (aa 6) aA)) (ax (bX (A5 (ke hr) (ah (aa 2)) (aB (ac (av z7 hr (ac (aa 1) (ac (aa 5) (ac (aa 3) ae)))) (ac (kJ (eU uO) (ac (aa 6) ae)) ae)))))) bq)))))
   (tI 2 (ax (aJ (ah (aa 2)))))))),λds M R RX d7 h=>?_⟩)
 .obtain⟨_,_,_,_,_,rfl,_⟩:=h;rfl
 .obtain⟨L,wd,w,h,s,rfl,hL,hw,hh,B_,hs,n4,hR⟩:=h;have Si:=hL.w8;refine#[λd M'=>∃p,p∉au M/\d=.ptr p/\M'=(p,.dti [])::M,λp hp=>#[p,hp,rfl,rfl],?_];rintro _ _⟨p,hp,rfl,rfl⟩;k_places;refine#[λj z M'=>∃(kv:List ((Int×Int)×Int)) (x3 x4 x5 x6:Option D),hAll w h s j (L.drop j) kv=hAll w h s 0 L []/\kv.length<=8*j/\z=[be (.lst (lstD L)),be (.tup [.int w,.int h,.int s]),be (.ptr p),x3,x4,x5,x6]/\M'=(p,.dti kv)::M,#[[],t9,t9,t9,t9,rfl,K',rfl,rfl],?_,?_]
  .rintro j d z M' hd⟨kv,x3,x4,x5,x6,e1,Ss,rfl,rfl⟩;k_places;obtain⟨x,f8,rfl⟩:=Ct hd;have hj:j<L.length:=(GZ.mp f8).1;have Th:=hL.many;obtain⟨xl,xs⟩:=hL.each x (Io f8);rw[vf f8]at e1;refine#[Cs xs,λi z M'=>∃(Ky:List ((Int×Int)×Int)) (x5 x6:Option D),hRow w h s j i (x.drop i) Ky=hRow w h s j 0 x kv/\Ky.length<=8*j+i/\i<=x.length/\z=[be (.lst (lstD L)),be (.tup [.int w,.int h,.int s]),be (.ptr p),be (.int j),be (.str #[x.toArray]),x5,x6]/\M'=(p,.dti Ky)::M,#[kv,x5,x6,rfl,KK,Hb _,rfl,rfl],?_,?_]
   .rintro i d z M' Lv⟨Ky,y5,y6,e2,Pg,hi,rfl,rfl⟩;k_places;obtain⟨c,hc,rfl⟩:=Cu Lv;have v4:i<x.length:=(GZ.mp hc).1;have sc:=xs c (Io hc);rw[vf hc,hRow]at e2;refine#[λz M'=>∃MI:List ((Int×Int)×Int),hRow w h s j (i+1) (x.drop (i+1)) MI=hRow w h s j 0 x kv/\MI.length<=8*j+(i+1)/\z=[be (.lst (lstD L)),be (.tup [.int w,.int h,.int s]),be (.ptr p),be (.int j),be (.str #[x.toArray]),be (.int i),be (.str #[[c].toArray])]/\M'=(p,.dti MI)::M,?_,?_]
    .show if(!decide ((#[[c].toArray]:F_)="."))=true then _ else _;by_cases u9:c=46
     .subst u9;rw[if_pos rfl]at e2;exact#[Ky,e2,KK,rfl,rfl]
     .rw[if_neg u9]at e2;refine ifT (by simp[one_sign,u9]) ?_;have c6:49<=c/\c<=54:=by unfold aZ at sc;lia
      obtain⟨ix,rest,ho,N2⟩:=Cr c6;refine#[#[_,cS],w,h,s,i,j,rfl,hw,hh,B_,hs,n4,ix,rest,ho,_,cS,by have:=ve Ky (hmX w h s i j) ((j:Int)%h) ((c:Int)-48);lia,λv=>?_];rw[vd,N2];exact#[_,e2,by have:=ve Ky (hmX w h s i j) ((j:Int)%h) ((c:Int)-48);lia,rfl,rfl]
    .rintro z M'⟨MI,e3,h3,rfl,rfl⟩;k_places;exact#[MI,_,_,e3,h3,v4,rfl,rfl]
   .rintro z M' hz;rw[eV,fv]at hz;obtain⟨Ky,y5,y6,e2,Pg,hi,rfl,rfl⟩:=hz;rw[Kg]at e2;refine#[Ky,_,_,_,_,?_,KK,rfl,rfl];rw[<-e1,hAll,<-e2];rfl
  .rintro z M' hz;rw[show(lstD L).length=L.length by simp[lstD]]at hz;obtain⟨kv,x3,x4,x5,x6,e1,Ss,rfl,rfl⟩:=hz;rw[Kg]at e1;refine#[_,cS,?_];rw[lx];have e2:kv=hAll w h s 0 L []:=e1;rw[<-e2]at hR;exact hR
abbrev pU(V:Bx):Prop:=V.M 3 "Motif" nQ Cy
def FH(T:V.Ti "Motif" "Motif.__init__" nP nQ)(LS:jz V)(Ph:pT V)(Pj:V.a "Motif" "place")(uK:V.a "Motif" "shifts")(KQ:V.a "Motif" "hues"):pU V:=by
 refine Txi.okIM T DY (λds R h=>?_) (λf cdv A outer s H E J hr hx=>⟨_,((ar (bY Pj (ah (aa 0)) (ah (aa 1)))
   (ar (bY uK (ah (aa 0)) (ah (av LS hr (ac (aa 3) (ac (aa 4) ae)))))
   (ax (bY KQ (ah (aa 0)) (fX (kN (aF uK (ah (aa 0))) (ah bV)) AZ (aR Ph hx hr (aH (ah (aa 2)) (aH (aF uK (ah (aa 0))) bp))))))))),λa ds R Lw h=>?_⟩)
 .obtain⟨_,_,_,_,_,_,_,rfl,_⟩:=h;rfl
 .obtain⟨k,L,wd,x,y,u,v,rfl,hL,f8,hy,hu,hv,hn,h1⟩:=h;unfold B12 at f8 hy hu hv;refine#[_,dM,by show(0:Nat)<1000;decide,?_];rw[iu,Cz];refine#[x,y,u,v,rfl,KK,KK,KK,KK,λe=>absurd e hn,λe w h s F=>?_];refine#[_,dM,Qc,?_];rw[iu,CA];refine#[_,dM,_,vg,?_];obtain⟨b1,b2,b3⟩:=F.bd (N:=288) (by
   have m1:=bQ (a:=x) (d:=v) (A:=12) (B:=12) KK KK;have m2:=bQ (a:=y) (d:=u) (A:=12) (B:=12) KK KK;lia)
  refine#[_,dM,_,vg,L,wd,w,h,s,rfl,hL,F.1,F.2.1,KK,F.2.2.1,KK,?_];refine#[_,dM,by show(2:Nat)<1000;decide,?_];rw[iu,CB];exact#[_,rfl,h1 w h s F]
abbrev jA(V:Bx):Prop:=V.MM 5 "motif_from" nS CJ
def FI(T:V.T "motif_from" nR nS)(Pk:pR V)(Kz:gD V)(uL:V.a "Reading" "place")(Pl:pU V)(uC:cJ V):jA V:=by
 refine Tx.okM T sc_motif_from (λds M R RX h=>?_) (λf cdv A outer s H E J hr hx=>⟨_,((ar (aD 1 sc_motif_from.nd (aF uL (ah (aa 0))))
   (ar (bX (aS (CalMth.one uC) hx hr (ah (aa 0)) (aB (ac aA ae))))
   (ar (aD 2 sc_motif_from.nd (aR Pk hx hr (aB (ac (aa 0) ae))))
   (ar (bX (aS (CalMth.one uC) hx hr (ah (aa 0)) (aB (ac aA ae))))
   (ar (aD 3 sc_motif_from.nd (aR Kz hx hr (aB (ac (aa 0) ae))))
   (ar (bX (aS (CalMth.one uC) hx hr (ah (aa 0)) (aB (ac aA ae))))
   (ar (aD 4 sc_motif_from.nd (aR Kz hx hr (aB (ac (aa 0) ae))))
   (ar (bX (aS (CalMth.one uC) hx hr (ah (aa 0)) (aB (ac aA ae))))
   (ax (aJ (ah (kG Pl hr (ac (aa 1) (ac (aa 2) (ac (aa 3) (ac (aa 4) ae))))))))))))))))),λds M R RX d7 h=>?_⟩)
 .obtain⟨_,_,_,_,_,_,_,_,_,rfl,_⟩:=h;rfl
 .obtain⟨g,t,k,L,a,b,c,d,l,rfl,rfl,c9,⟨MJ,ha,hb,hc,hd,hn⟩,hR⟩:=h;obtain⟨w,hL⟩:=CI MJ;have c9:At t k (91::(rowsL (L.map cs)++59::(numL a++44::(numL b++59::(numL c++44::(numL d++93::l)))))):=by simpa[motL]using c9
  have b7:k+(motL (L.map cs) a b c d).length=k+1+(rowsL (L.map cs)).length+1+(numL a).length+1+(numL b).length+1+(numL c).length+1+(numL d).length+1:=by simp[motL];lia
  rw[b7]at hR;have c_:=c9.next;have j5:=c_.app;have p6:=j5.next;have MK:At t (k+1+(rowsL (L.map cs)).length+1+(numL a).length+1+(numL b).length) _:=p6.app.next.app;have ML:=MK.next;have Pm:At t (k+1+(rowsL (L.map cs)).length+1+(numL a).length+1+(numL b).length+1+(numL c).length+1+(numL d).length) _:=ML.app.next.app;refine#[λv M'=>v=.int k/\M'=RdM g t k,#[_,aW,_,fo,rfl,rfl],?_];rintro _ _⟨rfl,rfl⟩;k_places;refine#[_,GM.mpr rfl,_,aW,cu,g,t,_,91,_,"[",rfl,rfl,c9,K3,?_];refine#[λv M'=>v=.lst (lstD (L.map cs))/\M'=RdM g t (k+1+(rowsL (L.map cs)).length),#[g,t,_,_,w,_,rfl,rfl,hL,c_,rfl,rfl],?_];rintro _ _⟨rfl,rfl⟩;k_places;refine#[_,GM.mpr rfl,_,aW,cu,g,t,_,59,_,";",rfl,rfl,j5,K3,?_];refine#[λv M'=>v=.tup [.int a,.int b]/\M'=RdM g t (k+1+(rowsL (L.map cs)).length+1+(numL a).length+1+(numL b).length),#[g,t,_,a,b,59,_,rfl,rfl,ha,hb,.inr (.inl rfl),p6,rfl,rfl],?_];rintro _ _⟨rfl,rfl⟩;k_places;refine#[_,GM.mpr rfl,_,aW,cu,g,t,_,59,_,";",rfl,rfl,MK,K3,?_];refine#[λv M'=>v=.tup [.int c,.int d]/\M'=RdM g t (k+1+(rowsL (L.map cs)).length+1+(numL a).length+1+(numL b).length+1+(numL c).length+1+(numL d).length),#[g,t,_,c,d,93,_,rfl,rfl,hc,hd,.inr (.inr (.inr rfl)),ML,rfl,rfl],?_];rintro _ _⟨rfl,rfl⟩;k_places;exact#[_,GM.mpr rfl,_,aW,cu,g,t,_,93,_,"]",rfl,rfl,Pm,K3,k,_,w,a,b,c,d,rfl,hL,ha,hb,hc,hd,hn,λw h s F=>hR _ #[k,w,h,s,rfl,F]]
abbrev jB(V:Bx):Prop:=V.M 1 "Mirror" nV CF
def FJ(T:V.Ti "Mirror" "Mirror.__init__" nU nV)(uU:V.a "Mirror" "form"):jB V:=by
 refine Txi.okI T DZ (λds R h=>?_) (λf cdv A outer s H E J hr=>#[_,((bO uU (aa 1) dJ)),λds R h=>?_])
 .obtain⟨_,_,rfl,_⟩:=h;rfl
 .obtain⟨x,fs,rfl,hR⟩:=h;exact#[K3,hR]
abbrev jC(V:Bx):Prop:=V.M 1 "Turn" nX CG
def FK(T:V.Ti "Turn" "Turn.__init__" nW nX)(uS:V.a "Turn" "form"):jC V:=by
 refine Txi.okI T D0 (λds R h=>?_) (λf cdv A outer s H E J hr=>#[_,((bO uS (aa 1) dJ)),λds R h=>?_])
 .obtain⟨_,_,rfl,_⟩:=h;rfl
 .obtain⟨x,fs,rfl,hR⟩:=h;exact#[K3,hR]
abbrev jD(V:Bx):Prop:=V.M 1 "Over" nZ CC
def FL(T:V.Ti "Over" "Over.__init__" nY nZ)(uV:V.a "Over" "above")(uW:V.a "Over" "below"):jD V:=by
 refine Txi.okI T D1 (λds R h=>?_) (λf cdv A outer s H E J hr=>#[_,((bO uV (aa 1) (bO uW (aa 2) dJ))),λds R h=>?_])
 .obtain⟨_,_,_,_,rfl,_⟩:=h;rfl
 .obtain⟨x,y,fs,gs,rfl,hR⟩:=h;refine#[K3,Qc,?_];show R (putD _ _ (putD _ _ []));rw[putD,putD,if_neg K7];exact hR
abbrev jE(V:Bx):Prop:=V.M 1 "Shifted" og CD
def FM(T:V.Ti "Shifted" "Shifted.__init__" oa og)(uQ:V.a "Shifted" "form")(KS:V.a "Shifted" "x")(KR:V.a "Shifted" "y"):jE V:=by
 refine Txi.okI T D2 (λds R h=>?_) (λf cdv A outer s H E J hr=>#[_,((bO uQ (aa 1) (bO KS (aa 2) (bO KR (aa 3) dJ)))),λds R h=>?_])
 .obtain⟨_,_,_,_,rfl,_⟩:=h;rfl
 .obtain⟨x,fs,a,b,rfl,hR⟩:=h;refine#[K3,Qc,by show(2:Nat)<1000;decide,?_];show R (putD _ _ (putD _ _ (putD _ _ [])));rw[show putD ("x":F_) (.int a) (putD ("form":F_) (.obj x fs) [])=([("form",.obj x fs),("x",.int a)]:List (F_×D))by rw[putD,putD,if_neg K7];rfl,putD,if_neg K7,putD,if_neg K7];exact hR
abbrev jF(V:Bx):Prop:=V.M 1 "Rehue" oi CH
def FN(T:V.Ti "Rehue" "Rehue.__init__" oh oi)(uX:V.a "Rehue" "form")(KU:V.a "Rehue" "old")(KW:V.a "Rehue" "new"):jF V:=by
 refine Txi.okI T D3 (λds R h=>?_) (λf cdv A outer s H E J hr=>#[_,((bO uX (aa 1) (bO KU (aa 2) (bO KW (aa 3) dJ)))),λds R h=>?_])
 .obtain⟨_,_,_,_,rfl,_⟩:=h;rfl
 .obtain⟨x,fs,a,b,rfl,hR⟩:=h;refine#[K3,Qc,by show(2:Nat)<1000;decide,?_];show R (putD _ _ (putD _ _ (putD _ _ [])));rw[show putD ("old":F_) (.int a) (putD ("form":F_) (.obj x fs) [])=([("form",.obj x fs),("old",.int a)]:List (F_×D))by rw[putD,putD,if_neg K7];rfl,putD,if_neg K7,putD,if_neg K7];exact hR
def FO(hL:5<=n)(T:V.T "over_from" iQ gv)(uJ:V.MM n "form_from" cI (dz j))(MN:jD V)(uC:cJ V):V.MM (n+1) "over_from" gv (vi j):=by
 refine Tx.okM T sc_over_from (λds M R RX h=>?_) (λf cdv A outer s H E J hr hx=>⟨_,((ar (aD 2 sc_over_from.nd (aR (hn:=K_) uJ hx hr (aB (ac (aa 0) (ac (aa 1) ae)))))
   (ar (bX (aS (hn:=K_) (CalMth.one uC) hx hr (ah (aa 0)) (aB (ac aA ae))))
   (ar (aD 3 sc_over_from.nd (aR (hn:=K_) uJ hx hr (aB (ac (aa 0) (ac (aa 1) ae)))))
   (ar (bX (aS (hn:=K_) (CalMth.one uC) hx hr (ah (aa 0)) (aB (ac aA ae))))
   (ax (aJ (ah (kG (hn:=K_) MN hr (ac (aa 2) (ac (aa 3) ae))))))))))),λds M R RX d7 h=>?_⟩)
 .obtain⟨_,_,_,_,_,_,_,rfl,_⟩:=h;rfl
 .obtain⟨a,t,k,p,q,l,d,rfl,rfl,c9,Ls,Kv,hp,hq,v7,Su,hR⟩:=h;have c_:=c9.app;have j5:=c_.next;have p6:=j5.app;refine#[λv M'=>FormOf p v/\M'=RdM a t (k+p.tl.length),#[a,t,k,p,_,d,rfl,rfl,c9,Ls,Kv,hp,v7,λv h=>#[h,rfl]],?_];rintro v _⟨hv,rfl⟩;k_places;obtain⟨fs,rfl,_⟩:=hv.objm;refine#[_,GM.mpr rfl,_,aW,cu,a,t,_,124,_,"|",rfl,rfl,c_,K3,?_];refine#[λv M'=>FormOf q v/\M'=RdM a t (k+p.tl.length+1+q.tl.length),#[a,t,_,q,_,d,rfl,rfl,j5,Ls,Kv,hq,Su,λv h=>#[h,rfl]],?_];rintro v _⟨QQ,rfl⟩;k_places;obtain⟨gs,rfl,_⟩:=QQ.objm;exact#[_,GM.mpr rfl,_,aW,cu,a,t,_,41,_,")",rfl,rfl,p6,K3,_,_,_,_,rfl,hR _ _ hv QQ]
def FP(hL:5<=n)(T:V.T "shifted_from" iR gx)(Kz:gD V)(uJ:V.MM n "form_from" cI (dz j))(MP:jE V)(uC:cJ V):V.MM (n+1) "shifted_from" gx (vj j):=by
 refine Tx.okM T sc_shifted_from (λds M R RX h=>?_) (λf cdv A outer s H E J hr hx=>⟨_,((ar (aD 2 sc_shifted_from.nd (aR (hn:=K_) Kz hx hr (aB (ac (aa 0) ae))))
   (ar (bX (aS (hn:=K_) (CalMth.one uC) hx hr (ah (aa 0)) (aB (ac aA ae))))
   (ax (aJ (io (hn:=K_) MP hr (aH (aR (hn:=K_) uJ hx hr (aB (ac (aa 0) (ac (aa 1) ae)))) (aH (ah (af (aa 2) ad)) (aH (ah (af (aa 2) ad)) bp))))))))),λds M R RX d7 h=>?_⟩)
 .obtain⟨_,_,_,_,_,_,_,_,rfl,_⟩:=h;rfl
 .obtain⟨a,t,k,x,y,p,l,d,rfl,rfl,c9,Ls,Kv,f8,hy,hp,v7,hR⟩:=h;have c_:At t (k+(numL x).length+1+(numL y).length) _:=c9.app.next.app;refine#[λv M'=>v=.tup [.int x,.int y]/\M'=RdM a t (k+(numL x).length+1+(numL y).length),#[a,t,_,x,y,58,_,rfl,rfl,f8,hy,.inr (.inr (.inl rfl)),c9,rfl,rfl],?_];rintro _ _⟨rfl,rfl⟩;k_places;refine#[_,GM.mpr rfl,_,aW,cu,a,t,_,58,_,":",rfl,rfl,c_,K3,?_];refine#[a,t,_,p,l,d,rfl,rfl,c_.next,Ls,Kv,hp,v7,λv h=>?_];obtain⟨fs,rfl,_⟩:=h.objm;exact#[_,rfl,_,rfl,_,_,_,_,rfl,hR _ h]
def FQ(hL:5<=n)(T:V.T "rehue_from" iS gy)(uF:V.m "int")(uJ:V.MM n "form_from" cI (dz j))(MQ:jF V)(uC:cJ V):V.MM (n+1) "rehue_from" gy (vk j):=by
 refine Tx.okM T sc_rehue_from (λds M R RX h=>?_) (λf cdv A outer s H E J hr hx=>⟨_,((ar (aD 2 sc_rehue_from.nd (tF uF (aH (aS (hn:=K_) (CalMth.one uC) hx hr (ah (aa 0)) (aB (ac aA ae))) bp)))
   (ar (aD 3 sc_rehue_from.nd (tF uF (aH (aS (hn:=K_) (CalMth.one uC) hx hr (ah (aa 0)) (aB (ac aA ae))) bp)))
   (ax (aJ (io (hn:=K_) MQ hr (aH (aR (hn:=K_) uJ hx hr (aB (ac (aa 0) (ac (aa 1) ae)))) (aH (ah (aa 2)) (aH (ah (aa 3)) bp))))))))),λds M R RX d7 h=>?_⟩)
 .obtain⟨_,_,_,_,_,_,_,_,rfl,_⟩:=h;rfl
 .obtain⟨a,t,k,f,g,p,l,d,rfl,rfl,c9,Ls,Kv,hf,hg,hp,v7,hR⟩:=h;have QR:∀{f:Int},1<=f/\f<=6->PySem.intText? (#[[(48+f).toNat].toArray]:F_)=be f:=λ{f} h=>by
   have:=digit_of (c:=(48+f).toNat) KK;rw[show(((48+f).toNat:Nat):Int)-48=f by lia]at this;exact this
  refine#[λv M'=>v=.int f/\M'=RdM a t (k+1),#[_,GM.mpr rfl,_,aW,cu,a,t,_,_,_,"123456",rfl,rfl,c9,vh hf,_,#[QR hf,by show(1:Nat)<=640;decide],rfl,rfl],?_];rintro _ _⟨rfl,rfl⟩;k_places;refine#[λv M'=>v=.int g/\M'=RdM a t (k+2),#[_,GM.mpr rfl,_,aW,cu,a,t,_,_,_,"123456",rfl,rfl,c9.next,vh hg,_,#[QR hg,by show(1:Nat)<=640;decide],rfl,rfl],?_];rintro _ _⟨rfl,rfl⟩;k_places;refine#[a,t,_,p,l,d,rfl,rfl,c9.next.next,Ls,Kv,hp,v7,λv h=>?_];obtain⟨fs,rfl,_⟩:=h.objm;exact#[_,_,_,_,rfl,hR _ h]
def FR(hL:5<=n)(T:V.T "form_from" iT cI)(Sv:V.MM n "over_from" gv (vi j))(Sw:V.MM n "shifted_from" gx (vj j))(uJ:V.MM n "form_from" cI (dz j))(Sx:V.MM n "rehue_from" gy (vk j))(MU:jA V)(MV:V.gi "DEEP" 5)(MX:jB V)(MY:jC V)(uI:dD V):V.MM (n+1) "form_from" cI (dz (j+1)):=by
 refine Tx.okM T sc_form_from (λds M R RX h=>?_) (λf cdv A outer s H E J hr hx=>⟨_,((ar (aD 2 sc_form_from.nd (fX (bx (fJ (aa 1) (eQ MV))) (aS (hn:=K_) (CalMth.one uI) hx hr (ah (aa 0)) (aB (ac aA ae))) (ah aA)))
   (ar (bE (bx (bc (aa 2) aA)) (ax (aJ (aR (hn:=K_) Sv hx hr (aB (ac (aa 0) (ac (aj (aa 1) ad) ae)))))) bq)
   (ar (bE (bx (bc (aa 2) aA)) (ax (aJ (aR (hn:=K_) Sw hx hr (aB (ac (aa 0) (ac (aj (aa 1) ad) ae)))))) bq)
   (ar (bE (bx (bc (aa 2) aA)) (ax (aJ (io (hn:=K_) MX hr (aH (aR (hn:=K_) uJ hx hr (aB (ac (aa 0) (ac (aj (aa 1) ad) ae)))) bp)))) bq)
   (ar (bE (bx (bc (aa 2) aA)) (ax (aJ (io (hn:=K_) MY hr (aH (aR (hn:=K_) uJ hx hr (aB (ac (aa 0) (ac (aj (aa 1) ad) ae)))) bp)))) bq)
   (ar (bE (bx (bc (aa 2) aA)) (ax (aJ (aR (hn:=K_) Sx hx hr (aB (ac (aa 0) (ac (aj (aa 1) ad) ae)))))) bq)
   (ax (aJ (aR (hn:=K_) MU hx hr (aB (ac (aa 0) ae)))))))))))),λds M R RX d7 h=>?_⟩)
 .obtain⟨_,_,_,_,_,_,rfl,_⟩:=h;rfl
 .obtain⟨a,t,k,p,l,d,rfl,rfl,c9,Ls,Kv,hp,v7,hR⟩:=h;refine#[λv M'=>v=.str (mayS "(smth" (p.tl++l))/\M'=RdM a t (k+mayN "(smth" (p.tl++l)),?_,?_]
  .show if decide ((d:Int)<5)=true then _ else _
   refine ite2 (λc=>?_) (λc=>?_)
   .exact#[_,GM.mpr rfl,_,aW,dv,a,t,_,_,"(smth",rfl,rfl,c9,rfl,rfl]
   .have c':¬((d:Int)<5):=λz=>c (decide_eq_true z);cases p with
    |mot L a b c d=>exact#[rfl,rfl]
    |_=>rw[Pat.depth]at v7;lia
  rintro _ _⟨rfl,rfl⟩;k_places;cases p with
  |mot L x y u v=>exact#[a,t,k,L,x,y,u,v,l,rfl,rfl,c9,hp,hR]
  |over p q=>
   rw[Pat.depth]at v7;have e:k+(Pat.over p q).tl.length=k+1+p.tl.length+1+q.tl.length+1:=by rw[Pat.tl];simp;lia
   have c_:At t (k+1) (p.tl++124::(q.tl++41::l)):=by have:=c9.next;simpa using this
   rw[e]at hR;exact#[a,t,k+1,p,q,l,d+1,rfl,rfl,c_,KK,KK,hp.1,hp.2,KK,KK,λu u' h1 h2=>hR _ #[u,u',rfl,h1,h2]]
  |sh x y p=>
   rw[Pat.depth]at v7;have e:k+(Pat.sh x y p).tl.length=k+1+(numL x).length+1+(numL y).length+1+p.tl.length:=by rw[Pat.tl];simp;lia
   have c_:At t (k+1) (numL x++44::(numL y++58::(p.tl++l))):=by have:=c9.next;simpa using this
   rw[e]at hR;exact#[a,t,k+1,x,y,p,l,d+1,rfl,rfl,c_,KK,KK,hp.1,hp.2.1,hp.2.2,KK,λu h1=>hR _ #[u,rfl,h1]]
  |mir p=>
   rw[Pat.depth]at v7;have e:k+(Pat.mir p).tl.length=k+1+p.tl.length:=by rw[Pat.tl];simp;lia
   rw[e]at hR;refine#[a,t,k+1,p,l,d+1,rfl,rfl,c9.next,KK,KK,hp,KK,λu h1=>?_];obtain⟨fs,rfl,_⟩:=h1.objm;exact#[_,_,rfl,hR _ #[_,rfl,h1]]
  |tur p=>
   rw[Pat.depth]at v7;have e:k+(Pat.tur p).tl.length=k+1+p.tl.length:=by rw[Pat.tl];simp;lia
   rw[e]at hR;refine#[a,t,k+1,p,l,d+1,rfl,rfl,c9.next,KK,KK,hp,KK,λu h1=>?_];obtain⟨fs,rfl,_⟩:=h1.objm;exact#[_,_,rfl,hR _ #[_,rfl,h1]]
  |hue f g p=>
   rw[Pat.depth]at v7;have e:k+(Pat.hue f g p).tl.length=k+1+2+p.tl.length:=by rw[Pat.tl,hueL hp.1,hueL hp.2.1];simp;lia
   have c_:At t (k+1) ((48+f).toNat::(48+g).toNat::(p.tl++l)):=by
    have:=c9.next;rw[hueL hp.1,hueL hp.2.1]at this;simpa using this
   rw[e]at hR;exact#[a,t,k+1,f,g,p,l,d+1,rfl,rfl,c_,KK,KK,hp.1,hp.2.1,hp.2.2,KK,λu h1=>hR _ #[u,rfl,h1]]
def FS(Sy:V.T "over_from" iQ gv)(Sz:V.T "shifted_from" iR gx)(SA:V.T "rehue_from" iS gy)(QS:V.T "form_from" iT cI)(MN:jD V)(uC:cJ V)(Kz:gD V)(MP:jE V)(uF:V.m "int")(MQ:jF V)(MU:jA V)(MV:V.gi "DEEP" 5)(MX:jB V)(MY:jC V)(uI:dD V):∀j,V.MM (5+2*j) "form_from" cI (dz j):=by
 intro j;induction j with
 |zero=>exact CalMM.never QS (λds M R RX=>CK)
 |succ j ih=>
  have MZ:=ih;have Pn:=FO (n:=5+2*j) (j:=j) K_ Sy MZ MN uC;have Po:=FP (n:=5+2*j) (j:=j) K_ Sz Kz MZ MP uC;have Pp:=FQ (n:=5+2*j) (j:=j) K_ SA uF MZ MQ uC;have MZ:=Cal.mono ih (HK _);exact FR (n:=5+2*j+1) (j:=j) K_ QS Pn Po MZ Pp MU MV MX MY uI
abbrev pV(V:Bx):Prop:=V.M 1 "Reading" ol Ci
def FT(T:V.Ti "Reading" "Reading.__init__" oj ol)(KY:V.a "Reading" "text")(uL:V.a "Reading" "place"):pV V:=by
 refine Txi.okI T D4 (λds R h=>?_) (λf cdv A outer s H E J hr=>#[_,((bO KY (aa 1) (bO uL ad dJ))),λds R h=>?_])
 .obtain⟨_,rfl,_⟩:=h;rfl
 .obtain⟨t,rfl,hR⟩:=h;refine#[K3,Qc,?_];show R (putD _ _ (putD _ _ []));rw[putD,putD,if_neg K7];exact hR
abbrev pW(V:Bx):Prop:=V.M 1 "Pattern" oq CQ
def FU(T:V.Ti "Pattern" "Pattern.__init__" om oq)(LU:V.a "Pattern" "text")(C_:V.a "Pattern" "shifts")(LO:V.a "Pattern" "form"):pW V:=by
 refine Txi.okI T D5 (λds R h=>?_) (λf cdv A outer s H E J hr=>#[_,((bO LU (aa 1) (bO C_ (aa 2) (bO LO (aa 3) dJ)))),λds R h=>?_])
 .obtain⟨_,_,_,_,_,_,rfl,_⟩:=h;rfl
 .obtain⟨t,w,h,s,x,fs,rfl,hR⟩:=h;refine#[K3,Qc,by show(2:Nat)<1000;decide,?_];show R (putD _ _ (putD _ _ (putD _ _ [])));rw[show putD ("shifts":F_) (.tup [.int w,.int h,.int s]) (putD ("text":F_) (.str t) [])=([("text",.str t),("shifts",.tup [.int w,.int h,.int s])]:List (F_×D))by rw[putD,putD,if_neg K7];rfl,putD,if_neg K7,putD,if_neg K7];exact hR
abbrev pX(V:Bx):Prop:=V.D 2 "measure" ou BF
def FV(T:V.T "measure" ot ou)(LR:jy V):pX V:=by
 refine Tx.okDW T sc_measure (λds R h=>?_) (λf cdv A outer s H E J hr=>⟨_,((ai (am 2 sc_measure.nd (af (av LR hr (ac (aI (ac ad (ac (aa 0) ae))) (ac (aI (ac ad (ac (aa 1) ae))) ae))) ad))
   (ao (ay (aI (ac (af (aa 2) ad) (ac (af (aa 2) ad) ae))))))),λds R h=>?_⟩)
 .obtain⟨x,y,rfl,_⟩:=h;rfl
 .obtain⟨x,y,rfl,hx,hy,hR⟩:=h;refine#[λd=>∃p0 p1:Int,d=.tup [.int p0,.int p1]/\Meas x y p1 p0,#[K',K',1,x,0,y,rfl,hx,hy,λp0 p1 q0 hL=>#[_,rfl,p0,p1,rfl,tW #[hL.1,hL.2]]],?_];rintro _⟨p0,p1,rfl,hM⟩;k_places;exact#[_,rfl,_,rfl,K',hR p1 p0 hM]
abbrev jG(V:Bx):Prop:=V.D 3 "met" oy BG
def FW(T:V.T "met" ow oy)(M0:pX V):jG V:=by
 refine Tx.okDW T sc_met (λds R h=>?_) (λf cdv A outer s H E J hr=>⟨_,((ai (am 2 sc_met.nd (av M0 hr (ac (af (aa 0) ad) (ac (af (aa 1) ad) ae))))
   (ai (am 3 sc_met.nd (aX (aw (af (aa 0) ad) (af (aa 1) ad)) (af (aa 2) ad)))
   (ai (am 4 sc_met.nd (aX (aw (af (aa 0) ad) (af (aa 1) ad)) (af (av M0 hr (ac (af (aa 0) ad) (ac (af (aa 1) ad) ae))) ad)))
   (ai (am 5 sc_met.nd (aw (aX (aa 4) (af (aa 0) ad)) (af (aa 0) ad)))
   (ai (am 6 sc_met.nd (bo (aw (aX (aa 4) (af (aa 1) ad)) (af (aa 1) ad)) (aa 5)))
   (ai (am 7 sc_met.nd (aX (af (aa 2) ad) (af (av M0 hr (ac (af (aa 2) ad) (ac (aa 6) ae))) ad)))
   (ai (am 8 sc_met.nd (aw (aX (aw (aa 7) (aa 6)) (af (aa 2) ad)) (af (aa 2) ad)))
   (ao (ay (aI (ac (aa 3) (ac (aw (aa 4) (aa 7)) (ac (aC (aj (aw (aa 7) (aa 5)) (aw (aa 8) (af (aa 0) ad))) (aa 3)) ae)))))))))))))),λds R h=>?_⟩)
 .obtain⟨_,_,_,_,_,_,rfl,_⟩:=h;rfl
 .obtain⟨w1,h1,s1,w2,h2,s2,rfl,a1,a2,a3,a4,a5,a6,b1,b2,b3,b4,b5,b6,hR⟩:=h;refine#[λd=>∃g u:Int,d=.tup [.int g,.int u]/\Meas w1 w2 g u,#[_,rfl,_,rfl,w1,w2,rfl,K_,K_,λg u M=>#[g,u,rfl,M]],?_];rintro _⟨g,u,rfl,M1⟩;k_places;have hg:=M1.pos a1;have OY:=M1.le a1;refine#[λd=>d=.int (w1*w2/g),#[_,rfl,_,rfl,.inl (b64B a1 a2),_,rfl,d30B hg (Iv OY a2),rfl],?_];rintro _ rfl;k_places;refine#[λd=>∃k u':Int,d=.int (h1*h2/k)/\Meas h1 h2 k u',#[_,rfl,_,rfl,.inl (b64B a3 a4),_,rfl,_,rfl,h1,h2,rfl,K_,K_,λk u' M=>#[_,rfl,d30B (M.pos a3) (Iv (M.le a3) a4),k,u',rfl,M]],?_];rintro _⟨k,u',rfl,M2⟩;k_places;obtain⟨r0,r1,r2,r3,r4,r5⟩:=kY a3 b3 M2;have SE:h1*h2<=1125899906842624:=by
   have:=bQ (a:=h1) (d:=h2) (A:=33554432) (B:=33554432) K_ K_;omega
  refine#[λd=>d=.int (h1*h2/k/h1*s1),#[_,rfl,d30B a3 a4,_,rfl,.inr (s64B a5 a6 a2),rfl],?_];rintro _ rfl;k_places;refine#[λd=>d=.int (h1*h2/k/h2*s2-h1*h2/k/h1*s1),#[_,rfl,d30B b3 b4,_,rfl,.inr (s64B b5 b6 b2),rfl],?_];rintro _ rfl;k_places;have t1:=bQ (a:=h1*h2/k/h1) (d:=s1) (A:=33554432) (B:=33554432) K_ K_;have t2:=bQ (a:=h1*h2/k/h2) (d:=s2) (A:=33554432) (B:=33554432) K_ K_;refine#[λd=>∃gg u8:Int,d=.int (g/gg)/\Meas g (h1*h2/k/h2*s2-h1*h2/k/h1*s1) gg u8,#[_,rfl,_,rfl,g,_,rfl,K_,K_,λgg u8 M=>#[_,rfl,d30B (M.pos hg) (Iv (M.le hg) (Iv OY a2)),gg,u8,rfl,M]],?_];rintro _⟨gg,u8,rfl,M3⟩;k_places;have Kt:=M3.pos hg;have c1:0<=g/gg:=IP K_ K_;have c2:g/gg<=g:=Jr _ K_;have c4:=Bq (c:=g/gg) (gap:=h1*h2/k/h2*s2-h1*h2/k/h1*s1) (N:=2251799813685248) hg c1 c2 K_;have mr:=kX a1 b1 a3 b3 M1 M2 M3;refine#[λd=>d=.int (g/gg*(h1*h2/k/h2*s2-h1*h2/k/h1*s1)/g*u),#[.inl #[K_,K_],_,rfl,#[K_,K_],_,rfl,.inl #[K_,K_],rfl],?_];rintro _ rfl;k_places;obtain⟨w0,w3,_⟩:=kY a1 b1 M1;have SG:w1*w2<=1125899906842624:=by
   have:=bQ (a:=w1) (d:=w2) (A:=33554432) (B:=33554432) K_ K_;omega
  have Qq:=bQ (a:=h1*h2/k) (d:=g/gg) (A:=1125899906842624) (B:=33554432) K_ K_;exact#[.inl #[K_,K_],.inl #[K_,K_],_,rfl,.inr #[K_,K_],w0,K',hR _ _ _ _ mr]
abbrev jH(V:Bx):Prop:=V.D 1 "mirrored" oA BD
def FX(T:V.T "mirrored" oz oA):jH V:=by
 refine Tx.okDW T D6 (λds R h=>?_) (λf cdv A outer s H E J hr=>#[_,((ao (ay (aI (ac (af (aa 0) ad) (ac (af (aa 0) ad) (ac (aC (ck (af (aa 0) ad)) (af (aa 0) ad)) ae))))))),λds R h=>?_])
 .obtain⟨w,h,s,rfl,_⟩:=h;rfl
 .obtain⟨w,h,s,rfl,hw,hR⟩:=h;exact#[_,rfl,_,rfl,_,rfl,_,rfl,hw,K',hR]
abbrev jI(V:Bx):Prop:=V.D 3 "turned" oC BE
def FY(T:V.T "turned" oB oC)(LS:jz V):jI V:=by
 refine Tx.okDW T D7 (λds R h=>?_) (λf cdv A outer s H E J hr=>#[_,((ao (ay (av LS hr (ac (aI (ac ad (ac (af (aa 0) ad) ae))) (ac (aI (ac (ck (af (aa 0) ad)) (ac (af (aa 0) ad) ae))) ae)))))),λds R h=>?_])
 .obtain⟨w,h,s,rfl,_⟩:=h;rfl
 .obtain⟨w,h,s,rfl,hw,hh,Mw,B_,hs,n4,hR⟩:=h;have hp:0<w*h:=G5 hw hh;have hn:¬0*s=w* -h:=by rw[II];lia
  exact#[_,rfl,K',_,rfl,_,rfl,K',0,w,-h,s,rfl,KK,KK,KK,KK,λe=>absurd e hn,λ_ w' h' s' f=>hR w' h' s' f]
def ok_Motif_family(hL:3<=n)(T:V.Tm "Motif" "family" "Motif.family" iU cC)(uK:V.a "Motif" "shifts"):V.Q (n+1) "Motif" "family" cC (ofX (bZ (j+1) "Motif")):=by
 refine Txm.okM T D8 (λds M R RX h=>?_) (λf cdv A outer s H E J hr hx=>⟨_,((ar (bE (kN (aF uK (ah (aa 0))) (ah bV)) (ax ir) bq)
   (ax (aJ (aF uK (ah (aa 0))))))),λds M R RX d7 h=>?_⟩)
 .obtain⟨_,_,rfl,_⟩:=h;rfl
 .obtain⟨p,v,rfl,hv,hp,hd,hc,hf,hR⟩:=h;cases p<;>simp only[Pat.cls]at hc<;>try exact absurd hc K7
  obtain⟨k,w,h,s,rfl,F⟩:=hv;exact#[_,#[rfl,rfl],_,mo_shifts,_,#[rfl,rfl],_,mo_shifts,hR w h s (Pat.Fam.mot F)]
def FZ(hL:3<=n)(T:V.Tm "Over" "family" "Over.family" iV iW)(M4:jG V)(uV:V.a "Over" "above")(uW:V.a "Over" "below")(uH:∀x,x∈(["Motif","Over","Shifted","Mirror","Turn","Rehue"]:List F_)->V.Q n x "family" cC (ofX (bZ j x))):V.Q (n+1) "Over" "family" iW (ofX (bZ (j+1) "Over")):=by
 refine Txm.okM T sc_Over_family (λds M R RX h=>?_) (λf cdv A outer s H E J hr hx=>⟨_,((ar (aD 1 sc_Over_family.nd (cG (hn:=K_) uH hx hr (aF uV (ah (aa 0)))))
   (ax (aJ (aR (hn:=K_) (CalD.toM M4) hx hr (aH (ah (aa 1)) (aH (cG (hn:=K_) uH hx hr (aF uW (ah (aa 0)))) bp))))))),λds M R RX d7 h=>?_⟩)
 .obtain⟨_,_,rfl,_⟩:=h;rfl
 .obtain⟨p,v,rfl,hv,hp,hd,hc,hf,hR⟩:=h;cases p<;>simp only[Pat.cls]at hc<;>try exact absurd hc K7
  rename_i p q;obtain⟨u,u',rfl,hu,MF⟩:=hv;obtain⟨fs,rfl,o1⟩:=hu.objm;obtain⟨gs,rfl,o2⟩:=MF.objm;obtain⟨f1,f2⟩:=Pat.Fits.over_parts hp.1 hp.2 hf;rw[Pat.depth]at hd;refine#[λd M'=>(∃w h s,p.Fam w h s/\d=.tup [.int w,.int h,.int s])/\M'=M,#[_,#[rfl,rfl],_,rfl,p.cls,p.cls_mem,fs,#[rfl,rfl],o1.fam,p,_,rfl,hu,hp.1,KK,rfl,f1,λw h s F=>#[#[w,h,s,F,rfl],rfl]],?_];rintro _ _⟨⟨w1,h1,s1,F1,rfl⟩,rfl⟩;k_places;refine#[_,#[rfl,rfl],_,fz K7,q.cls,q.cls_mem,gs,#[rfl,rfl],o2.fam,q,_,rfl,MF,hp.2,KK,rfl,f2,λw2 h2 s2 F2=>?_];obtain⟨a1,a2,a3,a4,a5,a6⟩:=f1.small F1;obtain⟨b1,b2,b3,b4,b5,b6⟩:=f2.small F2;exact#[w1,h1,s1,w2,h2,s2,rfl,a1,KK,a3,KK,a5,a6,b1,KK,b3,KK,b5,b6,λw h s A MR=>hR w h s (Pat.Fam.over F1 F2 MR)]
def F4(hL:3<=n)(T:V.Tm "Shifted" "family" "Shifted.family" iX iY)(uQ:V.a "Shifted" "form")(uH:∀x,x∈(["Motif","Over","Shifted","Mirror","Turn","Rehue"]:List F_)->V.Q n x "family" cC (ofX (bZ j x))):V.Q (n+1) "Shifted" "family" iY (ofX (bZ (j+1) "Shifted")):=by
 refine Txm.okM T D9 (λds M R RX h=>?_) (λf cdv A outer s H E J hr hx=>#[_,((ax (aJ (cG (hn:=K_) uH hx hr (aF uQ (ah (aa 0))))))),λds M R RX d7 h=>?_])
 .obtain⟨_,_,rfl,_⟩:=h;rfl
 .obtain⟨p,v,rfl,hv,hp,hd,hc,hf,hR⟩:=h;cases p<;>simp only[Pat.cls]at hc<;>try exact absurd hc K7
  rename_i a b p;obtain⟨u,rfl,hu⟩:=hv;obtain⟨fs,rfl,o1⟩:=hu.objm;rw[Pat.depth]at hd;refine#[_,#[rfl,rfl],_,rfl,p.cls,p.cls_mem,fs,#[rfl,rfl],o1.fam,p,_,rfl,hu,hp.2.2,KK,rfl,hf.of_sh,λw h s F=>?_];exact hR w h s (F.sh a b)
def F5(hL:3<=n)(T:V.Tm "Mirror" "family" "Mirror.family" iZ ja)(M5:jH V)(uU:V.a "Mirror" "form")(uH:∀x,x∈(["Motif","Over","Shifted","Mirror","Turn","Rehue"]:List F_)->V.Q n x "family" cC (ofX (bZ j x))):V.Q (n+1) "Mirror" "family" ja (ofX (bZ (j+1) "Mirror")):=by
 refine Txm.okM T Ea (λds M R RX h=>?_) (λf cdv A outer s H E J hr hx=>#[_,((ax (aJ (aR (hn:=K_) (CalD.toM M5) hx hr (aH (cG (hn:=K_) uH hx hr (aF uU (ah (aa 0)))) bp))))),λds M R RX d7 h=>?_])
 .obtain⟨_,_,rfl,_⟩:=h;rfl
 .obtain⟨p,v,rfl,hv,hp,hd,hc,hf,hR⟩:=h;cases p<;>simp only[Pat.cls]at hc<;>try exact absurd hc K7
  rename_i p;obtain⟨u,rfl,hu⟩:=hv;obtain⟨fs,rfl,o1⟩:=hu.objm;rw[Pat.depth]at hd;refine#[_,#[rfl,rfl],_,rfl,p.cls,p.cls_mem,fs,#[rfl,rfl],o1.fam,p,_,rfl,hu,hp,KK,rfl,Pat.Fits.of_mir (p:=p) hp hf,λw h s F=>?_];exact#[w,h,s,rfl,F.f.w0,hR w h _ F.mir]
def F6(hL:3<=n)(T:V.Tm "Turn" "family" "Turn.family" jb jc)(M6:jI V)(uS:V.a "Turn" "form")(uH:∀x,x∈(["Motif","Over","Shifted","Mirror","Turn","Rehue"]:List F_)->V.Q n x "family" cC (ofX (bZ j x))):V.Q (n+1) "Turn" "family" jc (ofX (bZ (j+1) "Turn")):=by
 refine Txm.okM T Eb (λds M R RX h=>?_) (λf cdv A outer s H E J hr hx=>#[_,((ax (aJ (aR (hn:=K_) (CalD.toM M6) hx hr (aH (cG (hn:=K_) uH hx hr (aF uS (ah (aa 0)))) bp))))),λds M R RX d7 h=>?_])
 .obtain⟨_,_,rfl,_⟩:=h;rfl
 .obtain⟨p,v,rfl,hv,hp,hd,hc,hf,hR⟩:=h;cases p<;>simp only[Pat.cls]at hc<;>try exact absurd hc K7
  rename_i p;obtain⟨u,rfl,hu⟩:=hv;obtain⟨fs,rfl,o1⟩:=hu.objm;rw[Pat.depth]at hd;refine#[_,#[rfl,rfl],_,rfl,p.cls,p.cls_mem,fs,#[rfl,rfl],o1.fam,p,_,rfl,hu,hp,KK,rfl,Pat.Fits.of_tur (p:=p) hp hf,λw h s F=>?_];obtain⟨a1,a2,a3,a4,a5,a6⟩:=(Pat.Fits.of_tur (p:=p) hp hf).small F;exact#[w,h,s,rfl,a1,a3,KK,KK,a5,KK,λw' h' s' F'=>hR w' h' s' (F.tur F')]
def F7(hL:3<=n)(T:V.Tm "Rehue" "family" "Rehue.family" jd je)(uX:V.a "Rehue" "form")(uH:∀x,x∈(["Motif","Over","Shifted","Mirror","Turn","Rehue"]:List F_)->V.Q n x "family" cC (ofX (bZ j x))):V.Q (n+1) "Rehue" "family" je (ofX (bZ (j+1) "Rehue")):=by
 refine Txm.okM T Ec (λds M R RX h=>?_) (λf cdv A outer s H E J hr hx=>#[_,((ax (aJ (cG (hn:=K_) uH hx hr (aF uX (ah (aa 0))))))),λds M R RX d7 h=>?_])
 .obtain⟨_,_,rfl,_⟩:=h;rfl
 .obtain⟨p,v,rfl,hv,hp,hd,hc,hf,hR⟩:=h;cases p<;>simp only[Pat.cls]at hc<;>try exact absurd hc K7
  rename_i f g p;obtain⟨u,rfl,hu⟩:=hv;obtain⟨fs,rfl,o1⟩:=hu.objm;rw[Pat.depth]at hd;refine#[_,#[rfl,rfl],_,rfl,p.cls,p.cls_mem,fs,#[rfl,rfl],o1.fam,p,_,rfl,hu,hp.2.2,KK,rfl,hf.of_hue,λw h s F=>?_];exact hR w h s (F.hue f g)
def F8(QT:V.Tm "Motif" "family" "Motif.family" iU cC)(QU:V.Tm "Over" "family" "Over.family" iV iW)(QV:V.Tm "Shifted" "family" "Shifted.family" iX iY)(QW:V.Tm "Mirror" "family" "Mirror.family" iZ ja)(QX:V.Tm "Turn" "family" "Turn.family" jb jc)(QY:V.Tm "Rehue" "family" "Rehue.family" jd je)(uK:V.a "Motif" "shifts")(M4:jG V)(uV:V.a "Over" "above")(uW:V.a "Over" "below")(uQ:V.a "Shifted" "form")(M5:jH V)(uU:V.a "Mirror" "form")(M6:jI V)(uS:V.a "Turn" "form")(uX:V.a "Rehue" "form"):∀j x,x∈(["Motif","Over","Shifted","Mirror","Turn","Rehue"]:List F_)->V.Q (3+j) x "family" cC (ofX (bZ j x)):=by
 intro j;induction j with
 |zero=>
  intro x hx;simp only[GP,Ii,or_false]at hx;rcases hx with rfl|rfl|rfl|rfl|rfl|rfl
  .exact CalMth.never QT (λds M R RX=>fA)
  .exact CalMth.never QU (λds M R RX=>fA)
  .exact CalMth.never QV (λds M R RX=>fA)
  .exact CalMth.never QW (λds M R RX=>fA)
  .exact CalMth.never QX (λds M R RX=>fA)
  .exact CalMth.never QY (λds M R RX=>fA)
 |succ j M7=>
  intro x hx;simp only[GP,Ii,or_false]at hx;rcases hx with rfl|rfl|rfl|rfl|rfl|rfl
  .exact ok_Motif_family (n:=3+j) (j:=j) K_ QT uK
  .exact FZ (n:=3+j) (j:=j) K_ QU M4 uV uW M7
  .exact F4 (n:=3+j) (j:=j) K_ QV uQ M7
  .exact F5 (n:=3+j) (j:=j) K_ QW M5 uU M7
  .exact F6 (n:=3+j) (j:=j) K_ QX M6 uS M7
  .exact F7 (n:=3+j) (j:=j) K_ QY uX M7
abbrev vQ(V:Bx):Prop:=V.MM 17 "form_from" cI (dz 6)
abbrev vR(V:Bx):Prop:=∀x,x∈(["Motif","Over","Shifted","Mirror","Turn","Rehue"]:List F_)->V.Q 9 x "family" cC (ofX (bZ 6 x))
abbrev gE(V:Bx):Prop:=V.X 18 "read" oF S_read
def F9(T:V.T "read" oE oF)(uB:V.m "len")(uJ:vQ V)(Pq:V.gi "MOST" 720)(uL:V.a "Reading" "place")(Pr:pV V)(Ps:pW V)(uH:vR V):gE V:=by
 refine CalMM.nilX (Tx.okM T sc_read (λds M R RX h=>?_) (λf cdv A outer s H E J hr hx=>⟨_,((ar (aD 1 sc_read.nd (As Pr hr (aB (ac (aa 0) ae))))
   (ar (aD 2 sc_read.nd (aR uJ hx hr (aB (ac (aa 1) (ac ad ae)))))
   (ar (bE (tm (aF uL (ah (aa 1))) (ah (cm uB (ac (aa 0) ae)))) (ax ir) bq)
   (ar (aD 3 sc_read.nd (cG uH hx hr (ah (aa 2))))
   (ar (bE (bx (fK (aw (af (aa 3) ad) (af (aa 3) ad)) (eQ Pq))) (ax ir) bq)
   (ax (aJ (ah (kG Ps hr (ac (aa 0) (ac (aa 3) (ac (aa 2) ae))))))))))))),λds M R RX d7 h=>?_⟩))
 .obtain⟨_,R0,Ks,⟨_,rfl,_⟩,_⟩:=h;rfl
 .obtain⟨rfl,R0,Ks,⟨p,rfl,ok,hG⟩,hR,hX⟩:=h;have b7:=Pat.text_short ok.wf ok.deep;have c9:At p.text 0 (p.tl++[]):=#[by rw[Hl];exact cr p,Hb _,KK];have Sl:=ok.deep;have hl:p.text.length=p.tl.length:=by rw[<-bj,cr]
  refine#[λd M'=>∃a,d=.ptr a/\M'=RdM a p.text 0,#[_,rfl,λa _=>#[a,rfl,rfl]],?_];rintro _ _⟨a,rfl,rfl⟩;k_places;refine#[λv M'=>FormOf p v/\M'=RdM a p.text p.tl.length,#[a,p.text,0,p,[],0,rfl,rfl,c9,rfl,K3,ok.wf,KK,λv h=>#[h,by rw[Jl]]],?_];rintro v _⟨hv,rfl⟩;k_places;refine#[_,aW,_,fo,KK,ite2 (λc=>absurd (of_decide_eq_true c) KK) (λ_=>?_)];obtain⟨fs,rfl,o1⟩:=hv.objm;refine#[λd M'=>∃w h s,p.Fam w h s/\d=.tup [.int w,.int h,.int s],#[p.cls,p.cls_mem,fs,#[rfl,rfl],o1.fam,p,_,rfl,hv,ok.wf,KK,rfl,ok.fits,λw h s F=>#[w,h,s,F,rfl]],?_];rintro _ M'⟨w,h,s,F,rfl⟩;k_places;have a1:=ok.fits.small F;obtain⟨w',h',s',F',hb⟩:=ok.fits;obtain⟨rfl,rfl,_⟩:=F.uniq F';refine#[_,rfl,_,rfl,.inl #[KK,KK],ite2 (λc=>absurd (of_decide_eq_true c) KK) (λ_=>?_)];exact#[_,_,_,_,_,_,rfl,hR _ _ (hG _ #[_,_,s,_,rfl,rfl,fz K7,#[F,#[_,ly K7 K7,hv],by simp[noLF,noL,noLs,o1.nl]]])]
def Ga:SpD:=λds R=>∃(p q:Pat) (d e:D) (w h:Int),ds=[d,e,.int w,.int h]/\bn p d/\bn q e/\p.Ok/\q.Ok/\0<=w/\w<=720/\0<=h/\h<=720/\((∀x y:Int,0<=x->x<w->0<=y->y<h->p.show x y=q.show x y)->R .non)/\∀x y:Int,0<=x->x<w->0<=y->y<h->p.show x y≠q.show x y->(∀x' y':Int,0<=x'->x'<w->0<=y'->(y'<y\/(y'=y/\x'<x))->p.show x' y'=q.show x' y')->R (.tup [.int x,.int y])
abbrev pY(V:Bx):Prop:=V.D 9 "first_unlike" oH Ga
def Gb(T:V.T "first_unlike" oG oH)(uA:V.m "range")(Lq:jw V):pY V:=by
 refine Tx.okDW T sc_first_unlike (λds R h=>?_) (λf cdv A outer s H E J hr=>⟨_,((ai (ce 4 PassesOwn.never rfl sc_first_unlike.nd uA (aa 3) (ao (ce 5 PassesOwn.never rfl sc_first_unlike.nd uA (aa 2) (ao (bg (cM (av (CalX.no Lq) hr (ac (aa 0) (ac (aa 5) (ac (aa 4) ae)))) (av (CalX.no Lq) hr (ac (aa 1) (ac (aa 5) (ac (aa 4) ae))))) (ao (ay (aI (ac (aa 5) (ac (aa 4) ae))))) aT)))))
   (ao (ay bV)))),λds R h=>?_⟩)
 .obtain⟨_,_,_,_,_,_,rfl,_⟩:=h;rfl
 .obtain⟨p,q,d,e,w,h,rfl,hd,he,l8,f6,w0,w7,h0,h7,hN,hS⟩:=h;obtain⟨wd,e_,sd,fs,rfl,q1,q2,fam⟩:=hd;have hd:bn p (.obj "Pattern" fs):=#[wd,e_,sd,fs,rfl,q1,q2,fam];obtain⟨SH,Lv,SI,ND,rfl,q3,q4,Pt⟩:=he;have he:bn q (.obj "Pattern" ND):=#[SH,Lv,SI,ND,rfl,q3,q4,Pt];refine#[#[K_,K_],λk z=>∃o4 o5,z=[be (.obj "Pattern" fs),be (.obj "Pattern" ND),be (.int w),be (.int h),o4,o5]/\∀x y:Int,0<=x->x<w->0<=y->y<k->p.show x y=q.show x y,#[_,_,rfl,λx y _ _ a b=>K_],?_,?_]
  .rintro k v z hk⟨o4,o5,rfl,hj⟩;k_places;obtain⟨p_,rfl⟩:=bS hk;refine#[#[K_,K_],λi z=>∃o5,z=[be (.obj "Pattern" fs),be (.obj "Pattern" ND),be (.int w),be (.int h),be (.int k),o5]/\∀x:Int,0<=x->x<i->p.show x k=q.show x k,#[_,rfl,λx a b=>K_],?_,?_]
   .rintro i v z hi⟨o5,rfl,i_⟩;k_places;obtain⟨v4,rfl⟩:=bS hi;have nn:aU (i:Int)/\aU (k:Int):=#[#[K_,K_],K_,K_];refine#[p,_,i,k,rfl,hd,l8,λ_=>#[q,_,i,k,rfl,he,f6,λ_=>?_,λn=>n nn],λn=>n nn];refine ite2 (λc=>?_) (λc=>?_)
    .refine#[O0,hS i k K_ K_ K_ K_ (λz=>by simp[z]at c) λx' y' a b c d=>?_];rcases d with d|⟨rfl,d⟩
     .exact hj x' y' a b c K_
     .exact i_ x' a K_
    .have c':p.show i k=q.show i k:=by simpa using c
     refine#[_,rfl,λx a b=>?_];by_cases e:x=i
     .rw[e];exact c'
     .exact i_ x a K_
   .rintro z⟨o5,rfl,i_⟩;k_places;rw[bA]at i_;refine#[_,_,rfl,λx y a b c d=>?_];by_cases e:y=k
    .rw[e];exact i_ x a K_
    .exact hj x y a b c K_
  .rintro z⟨o4,o5,rfl,hj⟩;k_places;rw[bA]at hj;exact hN λx y a b c d=>hj x y a b c K_
def Gc:SiD:=λds R=>∃x y:Int,ds=[.int x,.int y]/\R [("y",.int y),("x",.int x)]
abbrev pZ(V:Bx):Prop:=V.E 1 "Parted" oJ Gc
def Gd(T:V.Te "Parted" "Parted.__init__" oI oJ)(Pu:V.b "MotifError")(uAC:V.ea "Parted")(Pw:V.xf "Parted" "x")(Px:V.xf "Parted" "y"):pZ V:=by
 refine Txe.okE T Ed (λds R h=>?_) (λf cdv A outer s H E J hr=>#[_,((zK Pu uAC (ac (aa 1) (ac (aa 2) ae)) (zM uAC Pw (aa 1) (Ds uAC Px (aa 2) zI)))),λds R h=>?_])
 .obtain⟨_,_,rfl,_⟩:=h;rfl
 .obtain⟨x,y,rfl,hR⟩:=h;exact#[O0,rfl,#[(λz=>nomatch z),by show(1:Nat)<=100;decide],hR]
def Ge:SpM:=λds M R _=>∃a q f p d,ds=[.ptr a,d]/\a≠q/\M=Fl.M f a q/\bn p d/\R .non ((f.stand p d).M a q)
abbrev qc(V:Bx):Prop:=V.Q 1 "Floor" "stand" oM Ge
def Gf(T:V.Tm "Floor" "stand" "Floor.stand" oK oM)(uE:V.a "Floor" "pattern")(LV:V.a "Floor" "text")(LU:V.a "Pattern" "text"):qc V:=by
 refine CalMth.drop (Txm.okM T Ee (λds M R RX h=>?_) (λf cdv A outer s H E J hr hx=>⟨_,((ar (bY uE (ah (aa 0)) (ah (aa 1)))
   (ax (bY LV (ah (aa 0)) (aF LU (ah (aa 1))))))),λds M R RX d7 h=>?_⟩))
 .obtain⟨_,_,⟨_,_,_,_,_,rfl,_⟩,_⟩:=h;rfl
 .obtain⟨R,RX,⟨a,q,f,p,d,rfl,ne,rfl,⟨wd,e_,sd,fs,rfl,e1,e2,fam⟩,hR⟩,rfl,rfl⟩:=h;refine#[_,Fl.ma ne,by show(6:Nat)<1000;decide,?_];rw[Fl.put ne];refine#[fs,#[rfl,rfl],_,e1,_,(dP (Ne.symm ne)).trans cD,by show(6:Nat)<1000;decide,_,?_,hR];rw[dQ (Ne.symm ne),cU];exact Fl.sub (f:=f.stand p _) ne
def Fl.chg(f:Fl)(a:KF)(R:D->MS->Prop)(RX:XDM)(M:MS):D->Prop:=λd=>∃p,bn p d/\p.Ok/\(dB f.p p f.w f.l->∀q',a≠q'->R .non (((f.keep "change").stand p d).M a q'))/\∀x y,fC f.p p f.w f.l x y->RX "Parted" [("y",.int y),("x",.int x)] M
def Gg:SpM:=λds M R RX=>∃a q f t,ds=[.ptr a,.str t]/\a≠q/\M=Fl.M f a q/\f.Ok/\S_read [.str t] (f.chg a R RX M) (λx fs=>RX x fs M)
abbrev qd(V:Bx):Prop:=V.Q 19 "Floor" "change" oO Gg
def Gh(T:V.Tm "Floor" "change" "Floor.change" oN oO)(KA:gE V)(Py:pY V)(uD:V.a "Floor" "laid")(uN:V.a "Floor" "width")(uE:V.a "Floor" "pattern")(LQ:ju V)(Pz:qc V)(uAQ:pZ V):qd V:=by
 refine CalMth.drop (Txm.okM T sc_Floor_change (λds M R RX h=>?_) (λf cdv A outer s H E J hr hx=>⟨_,((ar (aD 2 sc_Floor_change.nd (aR (CalX.toM KA) hx hr (aB (ac (aa 1) ae))))
   (ar (aD 3 sc_Floor_change.nd (aR (CalD.toM Py) hx hr (aH (aF uE (ah (aa 0))) (aH (ah (aa 2)) (aH (aF uN (ah (aa 0))) (aH (aF uD (ah (aa 0))) bp))))))
   (ar (bE (bx (yM (aa 3) bV)) (ax (Ax uAQ hr hx rfl (aB (ac (af (aa 3) ad) (ac (af (aa 3) ad) ae))))) bq)
   (ar (bX (aS (CalMth.one LQ) hx hr (ah (aa 0)) (aB (ac aA ae))))
   (ax (bX (aS (CalMth.one Pz) hx hr (ah (aa 0)) (aB (ac (aa 2) ae)))))))))),λds M R RX d7 h=>?_⟩))
 .obtain⟨_,_,⟨_,_,_,_,rfl,_⟩,_⟩:=h;rfl
 .obtain⟨R,RX,⟨a,q,f,t,rfl,ne,rfl,ok,hR⟩,rfl,rfl⟩:=h;have w1:=ok.w1;have w2:=ok.w2;have l0:=ok.l0;have l1:=ok.l1;have h2:=ok.h2;refine#[λd M'=>M'=f.M a q/\f.chg a R RX (f.M a q) d,S_read.mono (RX':=λ_ _=>True) hR (λd h=>#[rfl,h]),?_];rintro d _⟨rfl,p,hd,l8,hS,hP⟩;k_places;obtain⟨wd,e_,sd,fs,rfl,e1,e2,fam⟩:=hd;have hd:bn p (.obj "Pattern" fs):=#[wd,e_,sd,fs,rfl,e1,e2,fam];refine#[λc M'=>M'=f.M a q/\((c=.non/\dB f.p p f.w f.l)\/∃x y,c=.tup [.int x,.int y]/\fC f.p p f.w f.l x y),?_,?_]
  .exact#[_,Fl.ma ne,_,gB,_,Fl.ma ne,_,jj,_,Fl.ma ne,_,dR,f.p,p,f.d,_,f.w,f.l,rfl,ok.is,hd,ok.ok,l8,KK,KK,l0,KK,λh=>#[rfl,.inl #[rfl,h]],λx y h1 h2 h3 h4 h5 h6=>#[rfl,.inr #[x,y,rfl,#[h1,h2,h3,h4],h5,h6]]]
  rintro c _⟨rfl,⟨rfl,same⟩|⟨x,y,rfl,hf⟩⟩;k_places
  .refine#[_,GM.mpr rfl,_,Fl.ma ne,rfl,a,q,f,"change",rfl,ne,rfl,ok.de,λq' ge=>?_];exact#[_,GM.mpr rfl,_,Fl.ma ge,rfl,a,q',_,p,_,rfl,ge,rfl,hd,_,Fl.sub ge,hS same q' ge]
  .refine#[_,rfl,_,rfl,O0,x,y,rfl,?_];rw[d7];exact#[_,Fl.sub ne,hP x y hf]
def Gi:SpM:=λds M R _=>∃a q f p,ds=[.ptr a,.str (Pat.text p)]/\a≠q/\M=Fl.M f a q/\f.Ok/\p.Ok/\(dB f.p p f.w f.l->∀q' d,bn p d->a≠q'->R (.tup [.str "let in"]) (((f.keep "change").stand p d).M a q'))/\∀x y,fC f.p p f.w f.l x y->R (.tup [.str "parted",.int x,.int y]) (f.M a q)
abbrev qe(V:Bx):Prop:=V.MM 20 "_law_change" oQ Gi
def Gj(T:V.T "_law_change" oP oQ)(PB:qd V)(PC:V.x "y" ["Parted"])(PD:V.x "x" ["Parted"])(ek:pN V):qe V:=by
 refine Tx.okM T sc__law_change (λds M R RX h=>?_) (λf cdv A outer s H E J hr hx=>⟨_,((ar (aD 2 sc__law_change.nd (ah bV))
   (ar (tR (λpn xe J hp hx=>(ax (eY (kN (aS (CalMth.one PB) hx hr (ah (aa 0)) (aB (ac (aa 1) ae))) (ah bV)) (ax (aD 2 sc__law_change.nd (ah (aI (ac aA ae))))) bq))) (λ_=>(zQ 3 ek sc__law_change.nd (λe=>(ao (am 2 sc__law_change.nd (aI (ac aA (ac (sU PD (aa 3)) (ac (sU PC (aa 3)) ae))))))) sT)))
   (ax (aJ (ah (aa 2))))))),λds M R RX d7 h=>?_⟩)
 .obtain⟨_,_,_,_,rfl,_⟩:=h;rfl
 .obtain⟨a,q,f,p,rfl,ne,rfl,ok,l8,hS,hP⟩:=h;refine#[λd M'=>d=.non/\M'=f.M a q,#[rfl,rfl],?_];rintro _ _⟨rfl,rfl⟩;k_places;refine#[λz M' x fs=>z=[be (.ptr a),be (.str p.text),be .non,t9]/\M'=f.M a q/\x="Parted"/\∃x y,fs=([("y",.int y),("x",.int x)]:List (F_×D))/\fC f.p p f.w f.l x y,λJ hJ=>?_,?_]
  .refine#[λz M'=>dB f.p p f.w f.l/\∃q' d,bn p d/\a≠q'/\z=[be (.ptr a),be (.str p.text),be (.tup [.str "let in"]),t9]/\M'=((f.keep "change").stand p d).M a q',?_,λz M' ⟨c,q',d,hd,ge,e1,e2⟩=>?_]
   .refine#[_,GM.mpr rfl,_,Fl.ma ne,rfl,a,q,f,p.text,rfl,ne,rfl,ok,vp (RX:=λ_ _=>True) l8 λd hd=>#[p,hd,l8,λc q' ge=>?_,λx y hf=>by rw[hJ];exact#[rfl,rfl,rfl,x,y,rfl,hf]]];dsimp only[mP,dC,rdIs,kq,id];rw[if_pos rfl];refine#[λe M'=>e=.tup [.str "let in"]/\M'=((f.keep "change").stand p d).M a q',#[P5,rfl,rfl],?_];rintro _ _⟨rfl,rfl⟩;k_places;exact#[c,q',d,hd,ge,rfl,rfl]
   .subst e1 e2;exact hS c q' d hd ge
  .rintro z M' x fs⟨rfl,rfl,rfl,x,y,rfl,hf⟩;k_places;refine#[#[K',K'],?_];rw[if_pos K7];refine#[λd=>d=.tup [.str "parted",.int x,.int y],#[GM.mpr rfl,_,rfl,GM.mpr rfl,_,rfl,by show(3:Nat)<=1000;decide,rfl],?_];rintro _ rfl;k_places;exact#[hP x y hf,NoOwn.of rfl]
abbrev qf(V:Bx):Prop:=V.D 1 "_law_whole" oS Bv
def Gk(T:V.T "_law_whole" oR oS)(Lu:V.m "isinstance")(PF:V.m "bool")(uF:V.m "int"):qf V:=by
 refine Tx.okDW T Ef (λds R h=>?_) (λf cdv A outer s H E J hr=>#[_,((ao (ay (gX (ky Lu uF (aa 0) PyProof.Rows.boot_int yY) (gW (yR (ky Lu PF (aa 0) PyProof.Rows.boot_bool kit_bool))))))),λds R h=>?_])
 .obtain⟨i,rfl,_⟩:=h;rfl
 .obtain⟨i,rfl,hR⟩:=h;exact hR
def Gm:SpD:=λds R=>∃xs:List Int,ds=[.lst (xs.map D.int),.lst (xs.map D.int)]/\xs.length=7/\R (.bl true)
abbrev qg(V:Bx):Prop:=V.D 2 "_law_seven" oV Gm
def Gn(T:V.T "_law_seven" oU oV)(uB:V.m "len")(Lu:V.m "isinstance")(Ku:V.m "list")(uA:V.m "range")(PH:qf V):qg V:=by
 refine Tx.okDW T sc__law_seven (λds R h=>?_) (λf cdv A outer s H E J hr=>⟨_,((ai (bg (cN (fM (fN (cE (ky Lu Ku (aa 0) PyProof.Rows.boot_list kit_list))) (fL (cM (cm uB (ac (aa 0) ae)) ad)))) (ao (ay cL)) aT)
   (ai (ce 2 PassesOwn.never rfl sc__law_seven.nd uA ad (ao (bg (cN (fM (fN (cE (av PH hr (ac (af (aa 0) (aa 2)) ae)))) (fL (cM (af (aa 0) (aa 2)) (af (aa 1) (aa 2)))))) (ao (ay cL)) aT)))
   (ao (ay cL))))),λds R h=>?_⟩)
 .obtain⟨_,rfl,_⟩:=h;rfl
 .obtain⟨xs,rfl,x7,hR⟩:=h;refine ite2 (λc=>absurd c (by simp[x7])) λ_=>?_;refine#[#[K3,K3],λk z=>∃o,z=[be (.lst (xs.map D.int)),be (.lst (xs.map D.int)),o],#[_,rfl],?_,?_]
  .rintro k v z hk⟨o,rfl⟩;k_places;obtain⟨p_,rfl⟩:=bS hk;have k7:k<7:=p_;have ak:atI (xs.map D.int) (k:Int)=be (.int (xs[k]' K_)):=bH (by rw[GY,G4 K_];rfl);exact#[_,ak,_,rfl,_,ak,_,ak,ite2 (λc=>absurd c K') λ_=>#[_,rfl]]
  .rintro z⟨o,rfl⟩;k_places;exact hR
def Go:SpD:=λds R=>∃(p:Pat) (w lo:Int) (n:Nat),ds=[.lst (aE p w lo n)]/\p.Ok/\0<=w/\w<=30/\n<=30/\R (.lst ((bC p 0 lo w.toNat n).map D.int))
abbrev qh(V:Bx):Prop:=V.D 1 "_law_counts" oX Go
def Gp(T:V.T "_law_counts" oW oX):qh V:=by
 refine Tx.okDW T sc__law_counts (λds R h=>?_) (λf cdv A outer s H E J hr=>⟨_,((ai (fP 1 sc__law_counts.nd (ac ad (ac ad (ac ad (ac ad (ac ad (ac ad (ac ad ae))))))))
   (ai (gZ 2 PassesOwn.never rfl sc__law_counts.nd (aa 0) (ao (Ab 3 PassesOwn.never rfl sc__law_counts.nd (aa 2) (ao (Bl 1 (kJ aA (ac (aa 3) ae)) ad)))))
   (cY 1 (ao (ay (aa 1))))))),λds R h=>?_⟩)
 .obtain⟨_,_,_,_,rfl,_⟩:=h;rfl
 .obtain⟨p,w,lo,n,rfl,ok,w0,w7,n7,hR⟩:=h;have e0:([.int 0,.int 0,.int 0,.int 0,.int 0,.int 0,.int 0]:List D)=(due7 p 0 lo w.toNat 0 0).map D.int:=rfl;refine#[K3,?_];refine#[λk z=>∃o1 o2,z=[be (.lst (aE p w lo n)),be (.own ((due7 p 0 lo w.toNat k 0).map D.int)),o1,o2],#[_,_,rfl],?_,?_]
  .rintro k v z hk⟨o1,o2,rfl⟩;k_places;obtain⟨p_,rfl⟩:=Ey hk;refine#[EB ok 0 (lo+k) w.toNat,λi z=>∃o2,z=[be (.lst (aE p w lo n)),be (.own ((due7 p 0 lo w.toNat k i).map D.int)),be (.str (aK p 0 (lo+k) w.toNat)),o2],#[_,rfl],?_,?_]
   .rintro i v z hi⟨o2,rfl⟩;k_places;obtain⟨v4,rfl⟩:=EC hi;obtain⟨u,u7,eu,e3,e4⟩:=Eu ok 0 lo w.toNat k i;obtain⟨rest,ho⟩:=EE u7;rw[eu];refine#[u,rest,ho,_,KK,by rw[GY,Hu,e3];rfl,?_];rw[Hu];exact#[_,by rw[<-e4];rfl]
   .rintro z⟨o2,rfl⟩;k_places;refine#[be (.str (aK p 0 (lo+k) w.toNat)),o2,?_];rw[eV,cA,Ev]
  .rintro z⟨o1,o2,rfl⟩;k_places;rw[show(aE p w lo n).length=n by unfold aE;simp,Ew];exact hR
abbrev qi(V:Bx):Prop:=V.D 10 "field_rows" oY C4
def Gq(T:V.T "field_rows" jg oY)(uA:V.m "range")(LP:jx V)(C_:V.a "Pattern" "shifts"):qi V:=by
 refine Tx.okDW T Eg (λds R h=>?_) (λf cdv A outer s H E J hr=>#[_,((ao (ay (fU rfl (compScope (by change cP _ (ag jg) ["pattern"] _=true;decide+kernel)) uA (af (eO C_ (aa 0)) ad) (λcl s0 H0 fp=>(av LP hr (ac (aa 0) (ac ad (ac (aa 1) (ac (af (eO C_ (aa 0)) ad) ae)))))))))),λds R h=>?_])
 .obtain⟨_,_,rfl,_⟩:=h;rfl
 .obtain⟨p,d,rfl,hd,ok,hR⟩:=h;obtain⟨w,h,s,fs,rfl,e1,e2,hp⟩:=id hd;have F:=hp.toFam;have sm:=ok.fits.small F;have wh:w*h<=720:=by
   obtain⟨w',h',s',f',hb⟩:=ok.fits;obtain⟨rfl,rfl,_⟩:=F.uniq f';exact hb
  refine#[rfl,_,e2,_,rfl,#[KK,KK],by rw[bA];lia,λk ys=>ys=(GO k).map λ(y:Nat)=>D.str (aK p 0 (y:Int) w.toNat),rfl,?_,?_]
  .rintro k v ys hk hl rfl;obtain⟨p_,rfl⟩:=bS hk;refine#[rfl,_,e2,_,rfl,p,.obj "Pattern" fs,0,k,w.toNat,by rw[Hq KK],hd,ok,KK,#[KK,KK],#[KK,KK],#[KK,KK],?_];show _=Iq _ (GO (k+1));rw[H9,Hj];rfl
  .rintro ys hl rfl;rw[bA];exact hR w h s F wh sm.2.1 sm.2.2.2.1
abbrev C_round_row(V:Bx):Prop:=V.D 2 "round_row" pd C5
def Gr(T:V.T "round_row" oZ pd)(z7:fD V):C_round_row V:=by
 refine Tx.okDW T sc_round_row (λds R h=>?_) (λf cdv A outer s H E J hr=>⟨_,((ai (am 4 sc_round_row.nd (av z7 hr (ac (aa 0) (ac (aa 2) (ac (aa 3) ae)))))
   (ai (am 5 sc_round_row.nd (af (aa 1) (af (aa 4) ad)))
   (ao (ay (aj (cz (aa 5) (cy (af (aa 4) ad)) cx) (cz (aa 5) cx (cy (af (aa 4) ad))))))))),λds R h=>?_⟩)
 .obtain⟨_,_,_,_,_,_,rfl,_⟩:=h;rfl
 .obtain⟨p,w,h,s,x,y,rfl,F,w7,h7,hR⟩:=h;have f:=F.f;have y0:=Hz y (show h≠0 by have:=f.h0;lia);have y1:=HA y f.h0;refine#[λd=>d=.tup [.int (hmX w h s x y),.int (y%h)],#[w,h,s,x,y,rfl,f.w0,f.h0,KK,f.s0,by have:=f.sw;lia,rfl],?_];rintro _ rfl;k_places;refine#[λd=>d=.str (aK p 0 (y%h) w.toNat),#[_,rfl,_,?_,rfl],?_]
  .have e:y%h=(((y%h).toNat:Nat):Int):=by lia
   rw[e];exact bH (by rw[GY,HC KK];simp)
  rintro _ rfl;k_places;have l:=cA p 0 (y%h) w.toNat;refine#[_,rfl,KK,_,rfl,KK,?_];have e:=C3 f.w0 f.h0 (λ_ _ q=>F.keeps q) x y;refine#[?_,?_]
  .rw[<-bj,<-bj,<-G2,<-bF,e,cT];simp;lia
  .rw[e];exact hR
abbrev qj(V:Bx):Prop:=V.D 1 "count_sign" pf De
def Gs(T:V.T "count_sign" pe pf)(uB:V.m "len"):qj V:=by
 refine Tx.okDW T Eh (λds R h=>?_) (λf cdv A outer s H E J hr=>#[_,((ao (ay (aj (aw (aX (aa 2) (cm uB (ac (aa 0) ae))) (tT (aa 0) (ac (aa 1) ae))) (tT (cz (aa 0) cx (cy (aC (aa 2) (cm uB (ac (aa 0) ae))))) (ac (aa 1) ae)))))),λds R h=>?_])
 .obtain⟨_,_,_,_,_,_,rfl,_⟩:=h;rfl
 .obtain⟨p,x,y,v,m,w,rfl,ok,v0,v6,w0,w7,m0,m1,kw,hR⟩:=h;have l:=cA p x y w;have q0:0<=m/(w:Int):=IP m0 KK;have q1:m/(w:Int)<=m:=Jr _ m0;have r0:=Hz m (show(w:Int)≠0 by lia);have r1:=HA m (show 0<(w:Int)by lia);have er:m%(w:Int)=(((m%(w:Int)).toNat:Nat):Int):=by lia
  have e2:Txt.slice (aK p x y w) t9 (be (m%(w:Int)))=aK p x y (m%(w:Int)).toNat:=by
   rw[er,Dd p x y KK];rfl
  refine#[KK,#[by rw[l];lia,by rw[l];lia],.inl #[by rw[l];lia,by rw[l];lia],KK,by rw[l];lia,KK,?_];show R (.int (m/((aK p x y w).length:Int)*occC (aK p x y w) (aP v)+occC (Txt.slice (aK p x y w) t9 (be (m%((aK p x y w).length:Int)))) (aP v)));rw[l,e2,vz ok x y v0 v6,vz ok x y v0 v6];have LB:∀k:Nat,(λk:Nat=>p.show (x+k) y) (k+w)=(λk:Nat=>p.show (x+k) y) k:=λk=>by
   have:=kw (x+k) y;rw[Iu]at this;show p.show (x+((k+w:Nat):Int)) y=p.show (x+(k:Int)) y;rw[<-this,Ij,IN]
  have:=Da (f:=λk:Nat=>p.show (x+k) y) w0 LB v m.toNat;have d1:m/(w:Int)=((m.toNat/w:Nat):Int):=by rw[Int.natCast_ediv,Hq m0]
  have d2:(m%(w:Int)).toNat=m.toNat%w:=by
   have:m%(w:Int)=((m.toNat%w:Nat):Int):=by rw[J6,Hq m0]
   lia
  rw[d1,d2,this];exact hR
abbrev gG(V:Bx):Prop:=V.X 11 "count_all" ph lz
def Gu(T:V.T "count_all" jh ph)(uR:V.m "max")(uA:V.m "range")(PJ:V.m "min")(Lr:V.m "enumerate")(Lp:jv V)(PK:qi V)(PL:C_round_row V)(PM:qj V)(uO:V.gs "SIGNS" ".123456")(C_:V.a "Pattern" "shifts"):gG V:=by
  refine Tx.okXW T sc_count_all (λds R RX h=>?_) (λf cdv A outer s H E J hr hx=>⟨_,((ai (sr (sP Lp hx hr (ac (aa 1) (ac (aa 2) ae))))
      (ai (sr (sP Lp hx hr (ac (aa 3) (ac (aa 4) ae))))
      (ai (am 5 sc_count_all.nd (eO C_ (aa 0)))
      (ai (am 6 sc_count_all.nd (av PK hr (ac (aa 0) ae)))
      (ai (am 7 sc_count_all.nd (fS rfl uR (ac (aj (bo (aa 3) (aa 1)) ad) (ac ad ae))))
      (ai (am 8 sc_count_all.nd (aw (af (aa 5) ad) (af (aa 5) ad)))
      (ai (Be 9 rfl (compScope (by change cP _ (ag jh) ["pattern","left","top","right","bottom","family","rows","many","again","counts","y","times","row","hue","sign"] _=true;decide+kernel)) sc_count_all.nd (eU uO) (λcl s0 H0 fp=>ad))
      (ai (zE 10 PassesOwn.leaving rfl sc_count_all.nd uA (aa 2) (zm rfl PJ (ac (aj (aa 4) ad) (ac (aj (aa 2) (aa 8)) ae))) (ai (am 11 sc_count_all.nd (aj (aX (bo (aa 4) (aa 10)) (aa 8)) ad))
        (ai (am 12 sc_count_all.nd (av PL hr (ac (aa 5) (ac (aa 6) (ac (aa 1) (ac (aa 10) ae))))))
        (ao (Bi PassesOwn.leaving rfl Lr (eU uO) (dg_cons 13 sc_count_all.nd (dg_cons 14 sc_count_all.nd dI)) (ao (sO 9 (aj (kC 9 (aa 13)) (aw (aa 11) (av PM hr (ac (aa 12) (ac (aa 14) (ac (aa 7) ae)))))) (aa 13))))))))
      (cY 9 (ao (ay (aa 9))))))))))))),λds R RX d7 h=>?_⟩)
  . obtain⟨_,_,_,_,_,_,rfl,_⟩:=h;rfl
  . obtain⟨p,d,left,top,right,a_,rfl,hd,ok,hR,hX⟩:=h;obtain⟨w,h,s,fs,rfl,e1,e2,hp⟩:=id hd;have F:=hp.toFam;have sm:=ok.fits.small F;refine#[left,top,rfl,λn1=>?_,λn1=>by rw[d7];exact hX λz=>n1 #[z.1,z.2.1]];refine#[right,a_,rfl,λn2=>?_,λn2=>by rw[d7];exact hX λz=>n2 #[z.2.2.1,z.2.2.2]];have hR:=hR #[n1.1,n1.2,n2.1,n2.2];unfold aU at n1 n2;refine#[λd=>d=.tup [.int w,.int h,.int s],#[rfl,_,e2,rfl],?_];rintro _ rfl;k_places;refine#[λd=>d=gm p w h/\w*h<=720,#[p,_,rfl,hd,ok,λw' h' s' F' hb _ _=>by obtain⟨rfl,rfl,rfl⟩:=F.uniq F';exact#[rfl,hb]],?_];rintro _⟨rfl,hb⟩;k_places;refine#[λd=>d=.int ((right-left+1).toNat:Nat),congrArg D.int (Dk _),?_];rintro _ rfl;k_places;have SJ:0<w*h:=G5 F.f.w0 F.f.h0;refine#[λd=>d=.int (w*h),#[_,rfl,_,rfl,.inl #[KK,KK],rfl],?_];rintro _ rfl;k_places;generalize hm:(right-left+1).toNat=m at*;generalize hn:(a_-top+1).toNat=n at*;generalize hN:(w*h).toNat=N at*;refine#[K7,K7,λk ys=>ys=Hs k (D.int 0),rfl,?_,?_]
    . rintro k v ys hk hl rfl;show _=Hs (k+1) _;rw[List.replicate_succ']
    rintro ys hl rfl;have wN:w*h=(N:Int):=KK
    have v4:=Dh (top:=top) hn wN;have Tj:=vB n1.1 n2.1 hm;have Tk:=vB n1.2 n2.2 hn;refine#[Di #[n1.2.1,n1.2.2] #[n2.2.1,n2.2.2] SJ hb,λk z=>∃PN Lk Ll u_ v3,z=[be (.obj "Pattern" fs),be (.int left),be (.int top),be (.int right),be (.int a_),be (.tup [.int w,.int h,.int s]),be (gm p w h),be (.int m),be (.int (w*h)),be (.own ((GO 7).map λ(v:Nat)=>D.int (cj p left top m n N k v))),PN,Lk,Ll,u_,v3],#[t9,t9,t9,t9,t9,?_],?_,?_]
    . have e7:(bP (".123456":F_)).length=7:=by decide+kernel
      rw[e7];rfl
    . rintro k v z hk⟨PN,Lk,Ll,u_,v3,rfl⟩;k_places;obtain⟨p_,rfl⟩:=range2_int hk;rw[v4]at p_;refine#[λd=>d=.int (((n:Int)-1-k)/N+1),#[#[KK,KK],?_],?_]
      . rw[wN];congr 3;exact Dj hn p_
      rintro _ rfl;k_places;refine#[λd=>d=.str (aK p left (top+k) w.toNat),#[p,w,h,s,left,top+k,rfl,F,sm.2.1,sm.2.2.2.1,rfl],?_];rintro _ rfl;k_places;refine#[K7,λi z=>∃u_ v3,z=[be (.obj "Pattern" fs),be (.int left),be (.int top),be (.int right),be (.int a_),be (.tup [.int w,.int h,.int s]),be (gm p w h),be (.int m),be (.int (w*h)),be (.own ((GO 7).map λ(v:Nat)=>D.int (if v<i then cj p left top m n N (k+1) v else cj p left top m n N k v))),be (.int (top+k)),be (.int (((n:Int)-1-k)/N+1)),be (.str (aK p left (top+k) w.toNat)),u_,v3],#[_,_,rfl],?_,?_]
      . rintro i v z hi⟨u_,v3,rfl⟩;k_places;rw[Dg]at hi;have i7:i<7:=by simpa using(GZ.mp hi).1
        have ev:v=.str #[[aP (i:Int)].toArray]:=by
          rw[GY,HC i7]at hi;exact(Option.some.inj hi).symm
        subst ev;have ci:=vx (λk'=>p.show (left+k') (top+k)) i m;have tq:0<=((n:Int)-1-k)/N/\((n:Int)-1-k)/N<=(n:Int)-1-k:=#[IP KK KK,Jr _ KK];refine#[_,bH (by rw[GY,HC i7];rfl),p,left,top+k,i,m,w.toNat,rfl,ok,KK,KK,KK,KK,KK,KK,by rw[Hq KK];exact F.across,?_];refine#[.inl #[KK,KK],i,?_,?_]
        . unfold ixN;rw[if_pos KK,if_pos SN];simp
        refine#[be (.int i),be (.str #[[aP (i:Int)].toArray]),?_];rw[Hu,if_neg (HI i)];have e:cj p left top m n N k i+(((n:Int)-1-k)/N+1)*cntN (λk'=>p.show (left+k') (top+k)) i m=cj p left top m n N (k+1) i:=rfl;rw[e];have q:=vA (n:=7) (i:=i) (λ(v:Nat)=>D.int (if v<i then cj p left top m n N (k+1) v else cj p left top m n N k v)) (λ(v:Nat)=>D.int (if v<i+1 then cj p left top m n N (k+1) v else cj p left top m n N k v)) (λv hv ne=>by
          by_cases c:v<i
          . rw[if_pos c,if_pos KK]
          . rw[if_neg c,if_neg KK])
        rw[if_pos (show i<i+1 by lia)]at q;rw[q];rfl
      . rintro z⟨u_,v3,rfl⟩;k_places;refine#[be (.int (top+k)),be (.int (((n:Int)-1-k)/N+1)),be (.str (aK p left (top+k) w.toNat)),u_,v3,?_];have:∀v∈GO 7,D.int (if v<(bP (".123456":F_)).length then cj p left top m n N (k+1) v else cj p left top m n N k v)=D.int (cj p left top m n N (k+1) v):=λv hv=>by
          rw[if_pos (by  have e7:(bP (".123456":F_)).length=7:=by decide+kernel
                         rw[e7];simpa using hv)]
        rw[Ia this]
    . rintro z⟨PN,Lk,Ll,u_,v3,rfl⟩;k_places;have e:((GO ((if top+w*h<a_+1 then top+w*h else a_+1)-top).toNat).map λ(k:Nat)=>D.int (top+(k:Int))).length=min n N:=by simp[v4]
      rw[e];have fold:∀v:Nat,cj p left top m n N (min n N) v=bB p v left top m n:=λv=>Df KK (by rw[<-wN];exact F.down) v left top m n;simp only[fold];have e2:((GO 7).map λ(v:Nat)=>D.int (bB p v left top m n))=(bC p left top m n).map D.int:=by unfold bC;rw[Ie];rfl
      rw[e2];exact hR
def Gv:SiM:=λa ds R=>∃p w h,ds=[.str (Pat.text p),.int w,.int h]/\p.Ok/\∀d q,bn p d->a≠q->R (Fl.M #[p,d,w,h,0,[]] a q)
abbrev qk(V:Bx):Prop:=V.N 19 "Floor" pj Gv
def Gw(T:V.Ti "Floor" "Floor.__init__" pi pj)(KA:gE V)(uE:V.a "Floor" "pattern")(LV:V.a "Floor" "text")(uN:V.a "Floor" "width")(Kx:V.a "Floor" "height")(uD:V.a "Floor" "laid")(Lo:V.a "Floor" "deeds"):qk V:=by
 refine Txi.okIN T Ei (λa ds R h=>?_) (λf cdv A outer s H E J hr hx=>⟨_,((ar (bY uE (ah (aa 0)) (aR (CalX.toM KA) hx hr (aB (ac (aa 1) ae))))
   (ar (bY LV (ah (aa 0)) (ah (aa 1)))
   (ar (bY uN (ah (aa 0)) (ah (aa 2)))
   (ar (bY Kx (ah (aa 0)) (ah (aa 3)))
   (ar (bY uD (ah (aa 0)) (ah ad))
   (ax (bY Lo (ah (aa 0)) (kO (aB ae)))))))))),λa ds R Lw h=>?_⟩)
 .obtain⟨_,_,_,rfl,_⟩:=h;rfl
 .obtain⟨p,w,h,rfl,ok,hR⟩:=h;refine vp (RX:=λ_ _=>True) ok λd hd=>?_;refine#[_,cD,by show(0:Nat)<1000;decide,?_];rw[cU];refine#[_,cD,Qc,?_];rw[cU];refine#[_,cD,by show(2:Nat)<1000;decide,?_];rw[cU];refine#[_,cD,by show(3:Nat)<1000;decide,?_];rw[cU];refine#[_,cD,by show(4:Nat)<1000;decide,?_];rw[cU];refine#[by show(0:Nat)<=1000;decide,λq hq=>?_];have ne:a≠q:=λe=>hq (e ▸ GS);refine#[_,(dP (Ne.symm ne)).trans cD,by show(5:Nat)<1000;decide,?_];rw[dQ (Ne.symm ne),cU];exact hR d q hd ne
def Gx:SpM:=λds M R _=>∃a q f,ds=[.ptr a]/\a≠q/\M=Fl.M f a q/\f.Ok/\R (.lst ((bC f.p 0 0 f.w.toNat f.l.toNat).map D.int)) (f.M a q)
abbrev ql(V:Bx):Prop:=V.Q 12 "Floor" "lies" pp Gx
def Gy(T:V.Tm "Floor" "lies" "Floor.lies" pk pp)(KC:gG V)(uD:V.a "Floor" "laid")(uN:V.a "Floor" "width")(uE:V.a "Floor" "pattern"):ql V:=by
 refine Txm.okM T Ej (λds M R RX h=>?_) (λf cdv A outer s H E J hr hx=>#[_,((ax (aJ (aR (CalX.toM KC) hx hr (aH (aF uE (ah (aa 0))) (aH (ah ad) (aH (ah ad) (aH (db (aF uN (ah (aa 0))) (ah ad)) (aH (db (aF uD (ah (aa 0))) (ah ad)) bp))))))))),λds M R RX d7 h=>?_])
 .obtain⟨_,_,_,rfl,_⟩:=h;rfl
 .obtain⟨a,q,f,rfl,ne,rfl,ok,hR⟩:=h;have w1:=ok.w1;have w2:=ok.w2;have l0:=ok.l0;have l1:=ok.l1;have h2:=ok.h2;refine#[_,Fl.ma ne,_,gB,_,Fl.ma ne,_,jj,_,Fl.ma ne,_,dR,f.p,f.d,0,0,f.w-1,f.l-1,rfl,ok.is,ok.ok,λ_=>?_,λz=>absurd #[#[KK,KK],#[KK,KK],#[KK,KK],KK,KK] z];rw[show(f.w-1-0+1).toNat=f.w.toNat by lia,show(f.l-1-0+1).toNat=f.l.toNat by lia];exact hR
def Gz:SpM:=λds M R _=>∃a q f,ds=[.ptr a]/\a≠q/\M=Fl.M f a q/\f.Ok/\R (.lst ((bC f.p 0 f.l f.w.toNat (f.h-f.l).toNat).map D.int)) (f.M a q)
abbrev qm(V:Bx):Prop:=V.Q 12 "Floor" "still" pr Gz
def GA(T:V.Tm "Floor" "still" "Floor.still" pq pr)(KC:gG V)(Kx:V.a "Floor" "height")(uN:V.a "Floor" "width")(uD:V.a "Floor" "laid")(uE:V.a "Floor" "pattern"):qm V:=by
 refine Txm.okM T El (λds M R RX h=>?_) (λf cdv A outer s H E J hr hx=>#[_,((ax (aJ (aR (CalX.toM KC) hx hr (aH (aF uE (ah (aa 0))) (aH (ah ad) (aH (aF uD (ah (aa 0))) (aH (db (aF uN (ah (aa 0))) (ah ad)) (aH (db (aF Kx (ah (aa 0))) (ah ad)) bp))))))))),λds M R RX d7 h=>?_])
 .obtain⟨_,_,_,rfl,_⟩:=h;rfl
 .obtain⟨a,q,f,rfl,ne,rfl,ok,hR⟩:=h;have w1:=ok.w1;have w2:=ok.w2;have l0:=ok.l0;have l1:=ok.l1;have h2:=ok.h2;refine#[_,Fl.ma ne,_,gB,_,Fl.ma ne,_,dR,_,Fl.ma ne,_,jj,_,Fl.ma ne,_,vI,f.p,f.d,0,f.l,f.w-1,f.h-1,rfl,ok.is,ok.ok,λ_=>?_,λz=>absurd #[#[KK,KK],#[KK,KK],#[KK,KK],KK,KK] z];rw[show(f.w-1-0+1).toNat=f.w.toNat by lia,show(f.h-1-f.l+1).toNat=(f.h-f.l).toNat by lia];exact hR
def GB{fa:KF}{fd:Tu}(F:Fun V.K "law" "law" gz fa fd)(uA:V.m "range")(LM:jt V)(PP:pH V)(uZ:jk V)(NE:pK V)(PQ:pO V)(PR:pP V)(PU:qe V)(M8:qg V)(NF:qh V)(KC:gG V)(KA:gE V)(PV:qk V)(PX:ql V)(PY:qm V):FnOk V.P V.w V.K V.mg V.base (Exc.CX1 V.P V.w) 21 fa fd pv (lSp V.K eL):=by
 refine DD (Fun.okM F sc_law (λds M R RX h=>?_) (λcdv A outer s H E J hr hx=>⟨_,((ar (aD 1 sc_law.nd (ah (av LM hr (ac (aa 0) (ac ad ae)))))
   (ar (aD 2 sc_law.nd (ah (av PP hr (ac (aa 1) (ac (aa 0) (ac ad (ac (av uZ hr (ac (aa 0) (ac ad ae))) ae)))))))
   (ar (aD 3 sc_law.nd (ah (aj ad (aC (av uZ hr (ac (aa 0) (ac ad ae))) ad))))
   (ar (aD 4 sc_law.nd (ah (aj ad (aC (av uZ hr (ac (aa 0) (ac ad ae))) ad))))
   (ar (eY (bx (bc (aC (av uZ hr (ac (aa 0) (ac ad ae))) ad) ad)) (ar (aD 3 sc_law.nd (ah ad))
    (ax (aD 4 sc_law.nd (ah ad)))) bq)
   (ar (aD 5 sc_law.nd (ah (aC (av uZ hr (ac (aa 0) (ac ad ae))) (aj (aa 4) ad))))
   (ar (aD 6 sc_law.nd (ah (av NE hr (ac (af (aa 1) ad) (ac (aa 3) (ac (aa 4) ae))))))
   (ar (aD 7 sc_law.nd (ah (av NE hr (ac (af (aa 2) ad) (ac (aa 3) (ac (aa 4) ae))))))
   (ar (aD 8 sc_law.nd (DB PV hr (aB (ac (af (aa 1) ad) (ac (aa 3) (ac (aa 4) ae))))))
   (ar (bE (mt_w (tz (bx (fK (aa 5) ad)) (tw (DF (kM (aR PQ hx hr (aB (ac (aa 8) (ac (aa 5) (ac cL ae))))) (ah ad)))))) (ax (aJ (ah cL))) bq)
   (ar (aD 9 sc_law.nd (ah (yH (av PR hr (ac (cz (aa 6) cx (cy (aa 5))) (ac (aa 7) ae))) bV)))
   (ar (bE (Ag (Dm (ke hr) (aR PU hx hr (aB (ac (aa 8) (ac (af (aa 2) ad) ae)))) (ah (aI (ac aA ae)))) (ah (aa 9))) (ax (aJ (ah cL))) bq)
   (ar (aD 10 sc_law.nd (ah (af (aa 1) ad)))
   (ar (eY (bx (cE (aa 9))) (ar (aD 6 sc_law.nd (ah (aa 7)))
    (ax (aD 10 sc_law.nd (ah (af (aa 2) ad))))) bq)
   (ar (aD 11 sc_law.nd (cG (CalMth.one PX) hx hr (ah (aa 8))))
   (ar (aD 12 sc_law.nd (cG (CalMth.one PY) hx hr (ah (aa 8))))
   (ar (bE (bx (cN (fM (fN (cE (av M8 hr (ac (aa 11) (ac (av NF hr (ac (cz (aa 6) cx (cy (aa 5))) ae)) ae))))) (fL (fN (cE (av M8 hr (ac (aa 12) (ac (av NF hr (ac (cz (aa 6) (cy (aa 5)) cx) ae)) ae))))))))) (ax (aJ (ah cL))) bq)
   (ar (aD 13 sc_law.nd (ah (av (CalX.no KC) hr (ac (av (CalX.no KA) hr (ac (aa 10) ae)) (ac ad (ac ad (ac (bo (aa 3) ad) (ac (bo (aa 4) ad) ae))))))))
   (ax (aJ (ah (av M8 hr (ac (aa 13) (ac (fU rfl (compScope (by change cP _ (ag gz) ["_law_script","_law_part","_law_twin_here","_law_wide","_law_high","_law_laid","_law_lines_here","_law_others","_law_floor","_law_fits","_law_stands","_law_lies","_law_still","_law_told"] _=true;decide+kernel)) uA ad (λcl s0 H0 fp=>(aj (af (aa 11) (aa 14)) (af (aa 12) (aa 14))))) ae))))))))))))))))))))))))),λds M R RX d7 h=>?_⟩))
 .obtain⟨rfl,_,⟨ns,rfl,_⟩,rfl⟩:=h;rfl
 .obtain⟨rfl,R0,⟨ns,rfl,hl,hR⟩,rfl⟩:=h;have Tl:∀i:Int,0<=i%12/\i%12<12:=λi=>#[KK,KK];refine#[λd M'=>M'=[]/\PatD d,#[ns,5,rfl,K3,λp ok=>#[rfl,p,rfl,ok]],?_];rintro _ _⟨rfl,p,rfl,l8⟩;k_places;refine#[λd M'=>M'=[]/\PatD d,#[ns,4,rfl,K3,p,ns,25,_,rfl,l8,K3,λq ok=>#[rfl,q,rfl,ok]],?_];rintro _ _⟨rfl,q,rfl,f6⟩;k_places;refine#[λd M'=>M'=[]/\∃w:Int,d=.int w/\1<=w/\w<=30,#[ns,0,rfl,K3,K3,rfl,_,rfl,KK,KK],?_];rintro _ _⟨rfl,w,rfl,w1,w2⟩;k_places;refine#[λd M'=>M'=[]/\∃h:Int,d=.int h/\1<=h/\h<=30,#[ns,1,rfl,K3,K3,rfl,_,rfl,KK,KK],?_];rintro _ _⟨rfl,h,rfl,h1,h2⟩;k_places;refine#[λz M'=>M'=[]/\∃w h:Int,z=[be (.rol (ns.map D.int)),be p.D,be q.D,be (.int w),be (.int h),t9,t9,t9,t9,t9,t9,t9,t9,t9]/\1<=w/\w<=30/\1<=h/\h<=30,?_,?_]
  .refine#[ns,3,rfl,K3,K3,ite2 (λ_=>?_) (λ_=>#[rfl,w,h,rfl,w1,w2,h1,h2])];refine#[λd M'=>M'=[]/\d=.int 30,#[rfl,rfl],?_];rintro _ _⟨rfl,rfl⟩;k_places;refine#[λd M'=>M'=[]/\d=.int 30,#[rfl,rfl],?_];rintro _ _⟨rfl,rfl⟩;k_places;exact#[K',30,30,rfl,K3,K3,K3,K3]
  clear w1 w2 h1 h2 w h;rintro _ _⟨rfl,w,h,rfl,w1,w2,h1,h2⟩;k_places;refine#[λd M'=>M'=[]/\∃l:Nat,d=.int l/\(l:Int)<=h,#[ns,2,rfl,K3,KK,rfl,(cell ns 2%(h+1)).toNat,by rw[Hq (Hz _ KK)],by have:=HA (cell ns 2) (show 0<h+1 by lia);lia],?_];rintro _ _⟨rfl,l,rfl,l1⟩;k_places;refine#[λd M'=>M'=[]/\d=.lst (aE p w 0 h.toNat),#[_,rfl,p,w,h,rfl,l8,KK,KK,KK,KK,rfl,rfl],?_];rintro _ _⟨rfl,rfl⟩;k_places;refine#[λd M'=>M'=[]/\d=.lst (aE q w 0 h.toNat),#[_,rfl,q,w,h,rfl,f6,KK,KK,KK,KK,rfl,rfl],?_];rintro _ _⟨rfl,rfl⟩;k_places;refine#[λd M'=>∃a qa d0,d=.ptr a/\a≠qa/\bn p d0/\M'=Fl.M #[p,d0,w,h,0,[]] a qa,#[_,rfl,λa _=>#[p,w,h,rfl,l8,λd0 qa is ne=>#[a,qa,d0,rfl,ne,is,rfl]]],?_];rintro _ _⟨a,qa,d0,rfl,ne,is,rfl⟩;k_places;have LL:=Fl.ok_new is l8 w1 w2 h1 h2;refine(λ(hr:∀M',(∃f qa,a≠qa/\M'=Fl.M f a qa/\f.Ok/\f.p=p/\f.w=w/\f.h=h/\f.l=l)->_)=>ite2 (λc=>?_) (λc=>ite2 (λz=>nomatch z) λ_=>hr _ #[_,qa,ne,rfl,LL,rfl,rfl,rfl,?_])) ?_
  .have c':=of_decide_eq_true c;exact#[a,qa,_,l,true,rfl,ne,rfl,LL,KK,KK,λz=>absurd z (by show¬(h-0<(l:Int));lia),λ_ q' ge=>#[_,rfl,ite2 (λz=>nomatch z) λ_=>hr _ #[_,q',ge,rfl,LL.lay KK (by show(l:Int)<=h-0;lia),rfl,rfl,rfl,HH _]]]
  .have c':¬(0<(l:Int)):=λz=>c (decide_eq_true z);show(0:Int)=l;lia
  clear LL is ne qa d0;rintro M'⟨f,qa,ne,rfl,NG,rfl,rfl,rfl,fl⟩;k_places;refine#[λd M'=>M'=f.M a qa/\∃b:Bool,d=.bl b/\(b=true↔dB f.p q f.w l),#[f.p,q,f.w,l,f.h.toNat,by rw[vN KK],l8,f6,KK,w2,KK,KK,λsame=>#[rfl,true,rfl,λ_=>same,λ_=>rfl],λx y hf=>#[rfl,false,rfl,(λz=>nomatch z),λz=>absurd (z x y hf.1.1 hf.1.2.1 hf.1.2.2.1 hf.1.2.2.2) hf.2.1]],?_];rintro _ _⟨rfl,b,rfl,hb⟩;k_places;have bt:dB f.p q f.w f.l->b=true:=λsame=>hb.mpr (by rw[<-fl];exact same);have bf:∀x y,fC f.p q f.w f.l x y->b=false:=λx y hf=>by
   cases b with
   |false=>rfl
   |true=>exact absurd (hb.mp rfl x y hf.1.1 hf.1.2.1 hf.1.2.2.1 (by rw[<-fl];exact hf.1.2.2.2)) hf.2.1
  refine(λ(hr:∀M',(∃g qb,a≠qb/\M'=Fl.M g a qb/\g.Ok/\g.w=f.w/\g.h=f.h/\g.l=l/\(b=true->g.p=q)/\(b=false->g.p=f.p))->_)=>#[_,rfl,a,qa,f,q,rfl,ne,rfl,NG,f6,λsame q' d hd ge=>#[P5,#[rfl,rfl],ite2 (λc=>absurd c (by rw[bt same];decide+kernel)) λ_=>hr _ #[_,q',ge,rfl,(NG.keep _).stand hd f6,rfl,rfl,fl,(λ_=>rfl),λz=>nomatch (bt same).symm.trans z]],λx y hf=>#[P5,#[rfl,rfl],ite2 (λc=>absurd c (by rw[bf x y hf];show¬((!decide (false=false))=true);decide)) λ_=>hr _ #[f,qa,ne,rfl,NG,rfl,rfl,fl,(λz=>nomatch (bf x y hf).symm.trans z),λ_=>rfl]]]) ?_;rintro M'⟨g,qb,ne,rfl,NH,gw,gh,gl,gp,QZ⟩;k_places;refine#[λd M'=>M'=g.M a qb/\d=.str f.p.text,#[_,rfl,rfl,rfl],?_];rintro _ _⟨rfl,rfl⟩;k_places;refine#[λz M'=>M'=g.M a qb/\z=[be (.rol (ns.map D.int)),be f.p.D,be q.D,be (.int f.w),be (.int f.h),be (.int l),be (.lst (aE g.p f.w 0 f.h.toNat)),be (.lst (aE q f.w 0 f.h.toNat)),be (.ptr a),be (.bl b),be (.str g.p.text),t9,t9,t9],ite2 (λc=>?_) (λc=>?_),?_]
  .rw[gp c];refine#[λd M'=>M'=g.M a qb/\d=.lst (aE q f.w 0 f.h.toNat),#[rfl,rfl],?_];rintro _ _⟨rfl,rfl⟩;k_places;refine#[λd M'=>M'=g.M a qb/\d=.str q.text,#[_,rfl,rfl,rfl],?_];rintro _ _⟨rfl,rfl⟩;k_places;exact#[K',K']
  .rw[QZ (by simpa using c)];exact#[rfl,rfl]
  clear gp QZ bt bf hb f6 NG l8;rintro z _⟨rfl,rfl⟩;k_places;obtain⟨r,er⟩:∃r,r=g.p:=#[_,rfl];have M9:=NH.ok;have lh:=NH.l1;rw[<-er]at M9 ⊢;have ec:∀lo n,(bC r 0 lo f.w.toNat n).length=7:=λlo n=>by unfold bC;simp
  refine#[λd M'=>M'=g.M a qb/\d=.lst ((bC r 0 0 f.w.toNat l).map D.int),#[_,GM.mpr rfl,_,Fl.ma ne,rfl,a,qb,g,rfl,ne,rfl,NH,rfl,by rw[gw,gl,er];rfl],?_];rintro _ _⟨rfl,rfl⟩;k_places;refine#[λd M'=>M'=g.M a qb/\d=.lst ((bC r 0 l f.w.toNat (f.h.toNat-l)).map D.int),#[_,GM.mpr rfl,_,Fl.ma ne,rfl,a,qb,g,rfl,ne,rfl,NH,rfl,by rw[gw,gl,gh,er,show(f.h-(l:Int)).toNat=f.h.toNat-l by lia]],?_];rintro _ _⟨rfl,rfl⟩;k_places;have eh:f.h.toNat=(l:Int).toNat+(f.h.toNat-l):=KK
  refine#[r,f.w,0,l,by rw[vN KK],M9,KK,w2,KK,_,rfl,ec _ _,ite2 (λz=>nomatch z) λ_=>?_];refine#[r,f.w,l,f.h.toNat-l,by rw[eh,vJ r f.w _ KK,Hu,Nat.add_sub_cancel_left],M9,KK,w2,KK,_,rfl,ec _ _,ite2 (λz=>nomatch z) λ_=>?_];refine#[λd M'=>d=.lst ((bC r 0 0 f.w.toNat f.h.toNat).map D.int),?_,?_]
  .refine CS (R:=λd=>ic lz [d,.int 0,.int 0,.int (f.w-1),.int (f.h-1)] (λd=>d=.lst ((bC r 0 0 f.w.toNat f.h.toNat).map D.int))) M9 λd hd=>Dl hd M9 #[#[KK,KK],#[KK,KK],#[KK,KK],#[KK,KK]] ?_;rw[show(f.w-1-0+1).toNat=f.w.toNat by lia,show(f.h-1-0+1).toNat=f.h.toNat by lia]
  rintro _ _ rfl;refine#[#[K3,K3],by rw[bA];decide,λk ys=>ys=(GO k).map λ(v:Nat)=>D.int (bB r v 0 0 f.w.toNat l+bB r v 0 l f.w.toNat (f.h.toNat-l)),rfl,?_,?_]
  .rintro k v ys hk hl rfl;obtain⟨p_,rfl⟩:=bS hk;have k7:k<7:=p_;refine#[_,vK k7,_,vK k7,?_];show _=Iq _ (GO (k+1));rw[H9,Hj];rfl
  .rintro ys hl rfl;rw[bA];refine#[bC r 0 0 f.w.toNat f.h.toNat,?_,ec _ _,hR];have e:((GO 7).map λ(v:Nat)=>D.int (bB r v 0 0 f.w.toNat l+bB r v 0 l f.w.toNat (f.h.toNat-l)))=(bC r 0 0 f.w.toNat f.h.toNat).map D.int:=by
    unfold bC;rw[Ie];apply Ia;intro v _;have:=Ez r v 0 0 f.w.toNat l (f.h.toNat-l);rw[HH,<-show f.h.toNat=l+(f.h.toNat-l)by lia]at this;exact congrArg D.int this
   rw[show(7:Int).toNat=7 from rfl,e]
end
abbrev GC:SL:=aO (top 3) 0
abbrev GD:SL:=aO (top 4) 0
local macro_rules | `(tactic| walk_at "b1") => `(tactic| exact Bb λ_ _ _ _ _ _ _ => rfl)
local macro_rules | `(tactic| walk_at "b2") => `(tactic| exact bind2 λ_ _ _ _ _ _ _ _ => rfl)
local macro_rules | `(tactic| walk_at "b3") => `(tactic| exact bind3 λ_ _ _ _ _ _ _ _ _ => rfl)
local macro_rules | `(tactic| walk_at "b4") => `(tactic| exact bind4 λ_ _ _ _ _ _ _ _ _ _ => rfl)
local macro_rules | `(tactic| walk_at "b5") => `(tactic| exact bind5 λ_ _ _ _ _ _ _ _ _ _ _ => rfl)
local macro_rules | `(tactic| walk_at "bd") => `(tactic| exact λ_ _ _ _ _ _ _ _ _ _ _ _ _ _ h hs => ⟨.of_defaults rfl h hs rfl rfl, .of_defaults rfl h hs rfl rfl⟩)
structure TopIn(K:Ex):Prop where
 uLD:FnIn K "_law_at" lC
 uGA:FnIn K "_law_draws" lF
 uGQ:FnIn K "_law_lines" lH
 uHK:FnIn K "_law_shift_pair" lK
 uHT:FnIn K "_law_motif_text" lM
 uGP:FnIn K "_law_motif" lP
 uIK:FnIn K "_law_wrapped" iA
 uHI:FnIn K "_law_gcd" lU
 uLE:FnIn K "_law_on" lW
 uLO:FnIn K "_law_leaf_family" lZ
 uFJ:FnIn K "_law_in_family" mf
 uKS:FnIn K "_law_both" mj
 uHZ:FnIn K "_law_family" mm
 uHV:FnIn K "_law_over" mo
 uIQ:FnIn K "_law_pattern" mx
 uKT:FnIn K "_law_shifted_home" mz
 uJA:FnIn K "_law_respelled" mC
 uGC:FnIn K "_law_twin" mF
 uKN:FnIn K "_law_leaf_shows" mH
 uGR:FnIn K "_law_shows" mJ
 uFN:FnIn K "_law_floor_rows" iB
 uKE:FnIn K "refuse_far" mQ
 uJX:FnIn K "home" mU
 uHJ:FnIn K "cell_at" mW
 uEY:FnIn K "row_from" iN
 uES:FnIn K "_law_lay" nj
 uKP:FnIn K "_law_parted" nt
 uJC:FnIn K "line_from" nA
 uHL:FnIn K "lines_from" nC
 uIL:FnIn K "number_from" nE
 uKB:FnIn K "shift_from" nG
 uIX:FnIn K "levelled" nI
 uJR:FnIn K "spread" nK
 uJL:FnIn K "hues_by_home" nN
 uKC:FnIn K "motif_from" nR
 uLM:FnIn K "over_from" iQ
 uII:FnIn K "shifted_from" iR
 uHN:FnIn K "rehue_from" iS
 uGH:FnIn K "form_from" iT
 uGE:FnIn K "measure" ot
 uIF:FnIn K "met" ow
 uGU:FnIn K "mirrored" oz
 uFR:FnIn K "turned" oB
 uGS:FnIn K "read" oE
 uGX:FnIn K "first_unlike" oG
 uLL:FnIn K "_law_change" oP
 uJN:FnIn K "_law_whole" oR
 uHE:FnIn K "_law_seven" oU
 uJO:FnIn K "_law_counts" oW
 uFK:FnIn K "field_rows" jg
 uFF:FnIn K "round_row" oZ
 uEV:FnIn K "count_sign" pe
 uJZ:FnIn K "count_all" jh
 uGO:FnIn K "law" gz
 uLP:NnIn K "len"
 uJI:NnIn K "range"
 uGM:NnIn K "int"
 uHW:NnIn K "str"
 uKQ:NnIn K "list"
 uIJ:NnIn K "abs"
 uHS:NnIn K "max"
 uHX:NnIn K "enumerate"
 uJF:NnIn K "isinstance"
 uEW:NnIn K "bool"
 uJB:NnIn K "min"
 uT:ClIn K "Floor"
 uBN:ClIn K "Motif"
 uBX:ClIn K "Over"
 uBO:ClIn K "Shifted"
 uCG:ClIn K "Mirror"
 uDI:ClIn K "Turn"
 uBW:ClIn K "Rehue"
 uDY:ClIn K "Pattern"
 uCB:ClIn K "Reading"
 uIS:InIn K "Motif" "Motif.__init__" nP
 uHP:InIn K "Mirror" "Mirror.__init__" nU
 uKR:InIn K "Turn" "Turn.__init__" nW
 uIM:InIn K "Over" "Over.__init__" nY
 uIW:InIn K "Shifted" "Shifted.__init__" oa
 uFC:InIn K "Rehue" "Rehue.__init__" oh
 uIH:InIn K "Reading" "Reading.__init__" oj
 uKD:InIn K "Pattern" "Pattern.__init__" om
 uEU:InIn K "Floor" "Floor.__init__" pi
 uID:MtIn K "Floor" "keep" "Floor.keep" mM
 uJE:MtIn K "Motif" "shows" "Motif.shows" iC
 uFA:MtIn K "Over" "shows" "Over.shows" iD
 uIZ:MtIn K "Shifted" "shows" "Shifted.shows" iF
 uFE:MtIn K "Mirror" "shows" "Mirror.shows" iH
 uJD:MtIn K "Turn" "shows" "Turn.shows" iJ
 uHR:MtIn K "Rehue" "shows" "Rehue.shows" iL
 uIU:MtIn K "Floor" "rows" "Floor.rows" iO
 uHF:MdIn K "Floor" "lay" "Floor.lay" nh 1
 uKO:MtIn K "Reading" "may_take" "Reading.may_take" nv
 uJT:MtIn K "Reading" "take" "Reading.take" ny
 uHD:MtIn K "Motif" "family" "Motif.family" iU
 uHC:MtIn K "Over" "family" "Over.family" iV
 uKY:MtIn K "Shifted" "family" "Shifted.family" iX
 uHQ:MtIn K "Mirror" "family" "Mirror.family" iZ
 uJW:MtIn K "Turn" "family" "Turn.family" jb
 uIG:MtIn K "Rehue" "family" "Rehue.family" jd
 uLQ:MtIn K "Floor" "stand" "Floor.stand" oK
 uHB:MtIn K "Floor" "change" "Floor.change" oN
 uFG:MtIn K "Floor" "lies" "Floor.lies" pk
 uKI:MtIn K "Floor" "still" "Floor.still" pq
 uLN:NoIn K "Floor" "deeds"
 uKZ:NoIn K "Floor" "laid"
 uFT:NoIn K "Floor" "pattern"
 uFS:NoIn K "Motif" "hues"
 uJY:NoIn K "Motif" "shifts"
 uLH:NoIn K "Over" "above"
 uKH:NoIn K "Over" "below"
 uHG:NoIn K "Shifted" "form"
 uLG:NoIn K "Shifted" "y"
 uGL:NoIn K "Shifted" "x"
 uLA:NoIn K "Mirror" "form"
 uKF:NoIn K "Turn" "form"
 uFW:NoIn K "Rehue" "form"
 uFD:NoIn K "Rehue" "old"
 uFO:NoIn K "Rehue" "new"
 uKW:NoIn K "Pattern" "form"
 uKL:NoIn K "Floor" "width"
 uGB:NoIn K "Floor" "height"
 uJJ:NoIn K "Reading" "text"
 uLB:NoIn K "Reading" "place"
 uGF:NoIn K "Motif" "place"
 uIN:NoIn K "Pattern" "text"
 uFV:NoIn K "Pattern" "shifts"
 uEX:NoIn K "Floor" "text"
 uHH:CiIn K "KEPT" 20
 uHY:CiIn K "FAR" 1000000000000
 uFU:CsIn K "SIGNS" ".123456"
 uGG:CiIn K "LONGEST" 8
 uFY:CiIn K "DEEP" 5
 uGJ:CiIn K "MOST" 720
 eb:EbIn K
 uIO:E1In K "WrongSign" "WrongSign.__init__" GC
 uIC:E1In K "OneLine" "OneLine.__init__" GD
 uIY:E0In K "TooGreat"
 uEN:E0In K "TooFar"
 uEG:E0In K "NoRow"
 uAQ:E1In K "Parted" "Parted.__init__" oI
 uAC:EaIn K "Parted"
 uEJ:NoIn K "Parted" "x"
 uEF:NoIn K "Parted" "y"
 uEP:EgIn K "Parted"
 uJV:EiIn K "MotifError"
 uIV:EmIn K "MotifError" "MotifError"
 uJG:EmIn K "MotifError" "WrongSign"
 uGN:EmIn K "MotifError" "OneLine"
 uJQ:EmIn K "MotifError" "TooGreat"
 uJM:EmIn K "MotifError" "TooFar"
 uGK:EmIn K "MotifError" "NoRow"
 uGW:EmIn K "MotifError" "Parted"
 uIT:EmIn K "WrongSign" "MotifError"
 uLF:EmIn K "WrongSign" "WrongSign"
 uIA:EmIn K "WrongSign" "OneLine"
 uFM:EmIn K "WrongSign" "TooGreat"
 uHO:EmIn K "WrongSign" "TooFar"
 uJH:EmIn K "WrongSign" "NoRow"
 uKA:EmIn K "WrongSign" "Parted"
 uKU:EmIn K "OneLine" "MotifError"
 uJS:EmIn K "OneLine" "WrongSign"
 uKK:EmIn K "OneLine" "OneLine"
 uGI:EmIn K "OneLine" "TooGreat"
 uGD:EmIn K "OneLine" "TooFar"
 uLJ:EmIn K "OneLine" "NoRow"
 uIB:EmIn K "OneLine" "Parted"
 uJU:EmIn K "TooGreat" "MotifError"
 uGV:EmIn K "TooGreat" "WrongSign"
 uKJ:EmIn K "TooGreat" "OneLine"
 uEZ:EmIn K "TooGreat" "TooGreat"
 uFH:EmIn K "TooGreat" "TooFar"
 uFL:EmIn K "TooGreat" "NoRow"
 uKG:EmIn K "TooGreat" "Parted"
 uHM:EmIn K "TooFar" "MotifError"
 uHA:EmIn K "TooFar" "WrongSign"
 uFX:EmIn K "TooFar" "OneLine"
 uFP:EmIn K "TooFar" "TooGreat"
 uGY:EmIn K "TooFar" "TooFar"
 uFQ:EmIn K "TooFar" "NoRow"
 uLK:EmIn K "TooFar" "Parted"
 uET:EmIn K "NoRow" "MotifError"
 uGZ:EmIn K "NoRow" "WrongSign"
 uGT:EmIn K "NoRow" "OneLine"
 uLI:EmIn K "NoRow" "TooGreat"
 uFI:EmIn K "NoRow" "TooFar"
 uIR:EmIn K "NoRow" "NoRow"
 uJK:EmIn K "NoRow" "Parted"
 uFB:EmIn K "Parted" "MotifError"
 uKM:EmIn K "Parted" "WrongSign"
 uIP:EmIn K "Parted" "OneLine"
 uKV:EmIn K "Parted" "TooGreat"
 uKX:EmIn K "Parted" "TooFar"
 uLC:EmIn K "Parted" "NoRow"
 uHU:EmIn K "Parted" "Parted"
def GE{V:Bx}{h:Heap}(t:TopIn V.K)(X:V.K.In h)(G:h.Ns Pi V.mg){fa:KF}{fd:Tu}(F:Fun V.K "law" "law" gz fa fd):FnOk V.P V.w V.K V.mg V.base (Exc.CX1 V.P V.w) 21 fa fd pv (lSp V.K eL):=by
 have uB:=mg_none_of X G t.uLP;have uA:=mg_none_of X G t.uJI;have uF:=mg_none_of X G t.uGM;have uY:=mg_none_of X G t.uHW;have Ku:=mg_none_of X G t.uKQ;have uP:=mg_none_of X G t.uIJ;have uR:=mg_none_of X G t.uHS;have Lr:=mg_none_of X G t.uHX;have Lu:=mg_none_of X G t.uJF;have PF:=mg_none_of X G t.uEW;have PJ:=mg_none_of X G t.uJB;have Lo:=t.uT.a t.uLN;have uD:=t.uT.a t.uKZ;have uE:=t.uT.a t.uFT;have KQ:=t.uBN.a t.uFS;have uK:=t.uBN.a t.uJY;have uV:=t.uBX.a t.uLH;have uW:=t.uBX.a t.uKH;have uQ:=t.uBO.a t.uHG;have KR:=t.uBO.a t.uLG;have KS:=t.uBO.a t.uGL;have uU:=t.uCG.a t.uLA;have uS:=t.uDI.a t.uKF;have uX:=t.uBW.a t.uFW;have KU:=t.uBW.a t.uFD;have KW:=t.uBW.a t.uFO;have LO:=t.uDY.a t.uKW;have uN:=t.uT.a t.uKL;have Kx:=t.uT.a t.uGB;have KY:=t.uCB.a t.uJJ;have uL:=t.uCB.a t.uLB;have Pj:=t.uBN.a t.uGF;have LU:=t.uDY.a t.uIN;have C_:=t.uDY.a t.uFV;have LV:=t.uT.a t.uEX;have Pb:=t.uHH.g X G;have Pc:=t.uHY.g X G;have uO:=t.uFU.g X G;have NB:=t.uGG.g X G;have MV:=t.uFY.g X G;have Pq:=t.uGJ.g X G;have Pd:=t.uEN.k t.eb X G;have Pf:=t.uEG.k t.eb X G;have uAC:=t.uAQ.a t.eb t.uAC X G;have Pw:=t.uEJ.all;have Px:=t.uEF.all;have Pu:=t.uJV.b X G;have PC:V.x "y" ["Parted"]:=AllP.mem #[t.uEP.g uAC t.uEF,trivial];have PD:V.x "x" ["Parted"]:=AllP.mem #[t.uEP.g uAC t.uEJ,trivial];have ek:pN V:=Bc #[(let ⟨C,N,bm,k,_⟩:=t.eb.k X G;#[C,N,bm,k]),(t.uIO.c t.eb X G),(t.uIC.c t.eb X G),(let ⟨C,N,bm,k,_⟩:=t.uIY.k t.eb X G;#[C,N,bm,k]),(let ⟨C,N,bm,k,_⟩:=t.uEN.k t.eb X G;#[C,N,bm,k]),(let ⟨C,N,bm,k,_⟩:=t.uEG.k t.eb X G;#[C,N,bm,k]),(t.uAQ.c t.eb X G),trivial] #[#[t.uIV,t.uJG,t.uGN,t.uJQ,t.uJM,t.uGK,t.uGW,trivial],#[t.uIT,t.uLF,t.uIA,t.uFM,t.uHO,t.uJH,t.uKA,trivial],#[t.uKU,t.uJS,t.uKK,t.uGI,t.uGD,t.uLJ,t.uIB,trivial],#[t.uJU,t.uGV,t.uKJ,t.uEZ,t.uFH,t.uFL,t.uKG,trivial],#[t.uHM,t.uHA,t.uFX,t.uFP,t.uGY,t.uFQ,t.uLK,trivial],#[t.uET,t.uGZ,t.uGT,t.uLI,t.uFI,t.uIR,t.uJK,trivial],#[t.uFB,t.uKM,t.uIP,t.uKV,t.uKX,t.uLC,t.uHU,trivial],trivial];have uZ:jk V:=EH (t.uLD.tx X G Mb) uB;have LD:jl V:=EI (t.uGA.tx X G NZ) uA uZ;have OP:pz V:=EJ (t.uGQ.tx X G Mi) uA uB;have OQ:pA V:=EK (t.uHK.tx X G Mi) uF;have OR:pB V:=EL (t.uHT.tx X G NZ) uY;have Lm:jn V:=EM (t.uGP.tx X G Mb) LD OP OQ OR;have uM:gC V:=EN (t.uIK.tx X G Mb) uY Ku uF;have LI:jp V:=EO (t.uHI.tx X G Mb) uP;have LJ:jq V:=EQ (t.uLE.tx X G (by walk_at "b4"));have Ny:pC V:=ER (t.uLO.tx X G Mi) uP LI LJ;have OX:pD V:=ES (t.uFJ.tx X G NZ);have O1:pE V:=ET (t.uKS.tx X G Mb) LI OX;have LK:jr V:=EU (t.uHZ.tx X G Mi) Ny O1;have KO:js V:=EV (t.uHV.tx X G Mb) uR LK;have LM:jt V:=EW (t.uIQ.tx X G Mb) uA LD Lm uM KO;have O6:pF V:=EZ (t.uKT.tx X G Mb) LK uM;have O7:pG V:=E2 (t.uJA.tx X G NZ) uB Ku;have PP:pH V:=E4 (t.uGC.tx X G (by walk_at "b4")) uM KO O6 Lm O7 LM;have O_:pI V:=E5 (t.uKN.tx X G NZ) uA uB uF LJ;have Pa:pJ V:=E6 (t.uGR.tx X G NZ) O_;have NE:pK V:=E8 (t.uFN.tx X G NZ) uA Pa;have LQ:ju V:=Fb (t.uID.txm t.uT Mb) Pb Lo uD uE;have Lp:jv V:=Fc (t.uKE.tx X G Mb) uR uP Pc Pd;have z7:fD V:=Fd (t.uJX.tx X G NZ);have uG:vO V:=Fj (t.uJE.txm t.uBN NZ) (t.uFA.txm t.uBX NZ) (t.uIZ.txm t.uBO NZ) (t.uFE.txm t.uCG NZ) (t.uJD.txm t.uDI NZ) (t.uHR.txm t.uBW NZ) z7 KQ uK uV uW uQ KR KS uU uS uX KU KW 6;have Lq:jw V:=Fk (t.uHJ.tx X G NZ) Lp LO uG;have LP:jx V:=Fo (t.uEY.tx X G (by walk_at "b4")) uA Lq uO;have Pe:pL V:=Fq (t.uIU.txm t.uT Mi) uA LP uD uN uE;have Nz:pM V:=Fs (t.uHF.txd t.uT (by walk_at "bd")) uR Kx uD LQ Pe Pf;have PQ:pO V:=Fu (t.uES.tx X G NZ) Nz ek;have PR:pP V:=Fw (t.uKP.tx X G Mb) uA uB;have uI:dD V:=Fx (t.uKO.txm t.uCB Mb) uB KY uL;have uC:cJ V:=Fy (t.uJT.txm t.uCB Mb) uI;have NA:pQ V:=Fz (t.uJC.tx X G NZ) uA uO uC uI;have Pk:pR V:=FA (t.uHL.tx X G Mi) uB NA NB uI;have NC:pS V:=FC (t.uIL.tx X G Mi) uF uI uC;have Kz:gD V:=FD (t.uKB.tx X G Mi) NC uC;have LR:jy V:=FE (t.uIX.tx X G Mb);have LS:jz V:=FF (t.uJR.tx X G Mb) uP LR;have Ph:pT V:=FG (t.uJL.tx X G Mb) Lr z7 uO;have Pl:pU V:=FH (t.uIS.txi X G (by walk_at "b5")) LS Ph Pj uK KQ;have MU:jA V:=FI (t.uKC.tx X G Mi) Pk Kz uL Pl uC;have MX:jB V:=FJ (t.uHP.txi X G Mb) uU;have MY:jC V:=FK (t.uKR.txi X G Mb) uS;have MN:jD V:=FL (t.uIM.txi X G NZ) uV uW;have MP:jE V:=FM (t.uIW.txi X G (by walk_at "b4")) uQ KS KR;have MQ:jF V:=FN (t.uFC.txi X G (by walk_at "b4")) uX KU KW;have uJ:vQ V:=FS (t.uLM.tx X G Mb) (t.uII.tx X G Mb) (t.uHN.tx X G Mb) (t.uGH.tx X G Mb) MN uC Kz MP uF MQ MU MV MX MY uI 6;have Pr:pV V:=FT (t.uIH.txi X G Mb) KY uL;have Ps:pW V:=FU (t.uKD.txi X G (by walk_at "b4")) LU C_ LO;have M0:pX V:=FV (t.uGE.tx X G Mb) LR;have M4:jG V:=FW (t.uIF.tx X G Mb) M0;have M5:jH V:=FX (t.uGU.tx X G Mi);have M6:jI V:=FY (t.uFR.tx X G Mi) LS;have uH:vR V:=F8 (t.uHD.txm t.uBN Mi) (t.uHC.txm t.uBX Mi) (t.uKY.txm t.uBO Mi) (t.uHQ.txm t.uCG Mi) (t.uJW.txm t.uDI Mi) (t.uIG.txm t.uBW Mi) uK M4 uV uW uQ M5 uU M6 uS uX 6;have KA:gE V:=F9 (t.uGS.tx X G Mi) uB uJ Pq uL Pr Ps uH;have Py:pY V:=Gb (t.uGX.tx X G (by walk_at "b4")) uA Lq;have uAQ:pZ V:=Gd (t.uAQ.txe t.eb X G NZ) Pu uAC Pw Px;have Pz:qc V:=Gf (t.uLQ.txm t.uT Mb) uE LV LU;have PB:qd V:=Gh (t.uHB.txm t.uT Mb) KA Py uD uN uE LQ Pz uAQ;have PU:qe V:=Gj (t.uLL.tx X G Mb) PB PC PD ek;have PH:qf V:=Gk (t.uJN.tx X G Mi) Lu PF uF;have M8:qg V:=Gn (t.uHE.tx X G Mb) uB Lu Ku uA PH;have NF:qh V:=Gp (t.uJO.tx X G Mi);have PK:qi V:=Gq (t.uFK.tx X G Mi) uA LP C_;have PL:C_round_row V:=Gr (t.uFF.tx X G (by walk_at "b4")) z7;have PM:qj V:=Gs (t.uEV.tx X G NZ) uB;have KC:gG V:=Gu (t.uJZ.tx X G (by walk_at "b5")) uR uA PJ Lr Lp PK PL PM uO C_;have PV:qk V:=Gw (t.uEU.txi X G (by walk_at "b4")) KA uE LV uN Kx uD Lo;have PX:ql V:=Gy (t.uFG.txm t.uT Mi) KC uD uN uE;have PY:qm V:=GA (t.uKI.txm t.uT Mi) KC Kx uN uD uE;exact GB F uA LM PP uZ NE PQ PR PU M8 NF KC KA PV PX PY
def all_mk{l:IT}{w:Tp}{K:Ex}{h:Heap}{mg:F_->Option KB}{fa:KF}(X:K.In h)(G:h.Ns Pi mg)(Lf:mg "law"=be (.ref fa))(t:TopIn K):
  ∃fd:Tu,(∀(s:Os) (v:KB),Ux s fd #[[v],[]] [("_law_script",v)])/\∀base:Heap,K.In base->base.Ns Pi mg->FnOk l.prog w K mg base (Exc.CX1 l.prog w) 21 fa fd ["_law_script"] (lSp K eL):=by
 obtain⟨fd,b,F⟩:=t.uGO.law X G Lf (λ_ _ _ _ _ _ _=>rfl);exact#[fd,b,λbase _ _=>GE (V:=#[l.prog,w,K,mg,base]) t X G F]
def law_walk{l:IT}{q:SZ}{k6:List F_}{XP:(F_->Option KB)->Heap->Prop}{YP:Tp->Heap->Prop}{d:DefRec}{K:Params->Ex}(hn:l.most=be 63)(L_:d.params.defaults=[])
  (hY:∀(w:Tp) (h:Heap),YP w h->(K w.params).In h)
  (F:∀(w:Tp) (mg:F_->Option KB) (fa:KF) (h:Heap),(K w.params).In h->h.Ns Pi mg->mg d.name=be (.ref fa)->
   ∃fd:Tu,(∀(s:Os) (u:KB),Ux s fd #[[u],[]] [("_law_script",u)])/\∀base:Heap,(K w.params).In base->base.Ns Pi mg->FnOk l.prog w (K w.params) mg base (Exc.CX1 l.prog w) 21 fa fd ["_law_script"] (lSp (K w.params) eL)):
  JA q k6 XP YP l.row.toRowW d [] (λf vs=>PySem.call f vs):=
 L2.walk_of (n:=63) (k:=21) (x:="_law_script") (CX:=λw=>Exc.CX1 l.prog w) (sp:=λw=>lSp (K w.params) eL) hn K3 L_ #[rfl,K3,K3] hY F (λ_ _ a ns hl _ hS=>zg hl hS) λ_ _ _ _ _ h=>by obtain⟨_,_,_,_,_,_,_,_,_,_,_,_,_,_,_,z⟩:=h;exact z
end My
open PySem PySem.W PyProof.Rows
set_option maxRecDepth 100000 in
set_option maxHeartbeats 0 in
theorem PySem.Challenge.cw_motiffield_k34_to_be_brought_holds : PySem.Challenge.rw_motiffield_k34_to_be_brought.Holds := by
  w_on;o_law;k_head;(case hw =>w_witness2)
  k_fill
  refine My.law_walk (l :=PySem.Challenge.rw_motiffield_k34_to_be_brought) rfl rfl (λw h Y =>kIn_of Y) ?F
  case F =>
    intro w mg fa h KX G j9;refine My.all_mk KX G j9 ?_;constructor
    all_goals first|((with_reducible refine' My.fnIn_mk ?a ?l ?c ?k);(case a =>k_is);(case l =>k_is);(case c =>k_is);(case k =>k_is))|((with_reducible refine' My.nnIn_mk ?a);(case a =>k_is))|((with_reducible refine' My.noIn_mk ?a ?b);(case a =>k_is);(case b =>k_is))|((with_reducible refine' My.mtIn_mk ?a ?b ?i ?l ?c ?k);(case a =>k_is);(case b =>k_is);(case i =>k_is);(case l =>k_is);(case c =>k_is);(case k =>k_is))|((with_reducible refine' My.mdIn_mk ?a ?b ?i' ?l ?c ?k ?d);(case a =>k_is);(case b =>k_is);(case i' =>k_is);(case l =>k_is);(case c =>k_is);(case k =>k_is);(case d =>k_is))|((with_reducible refine' My.inIn_mk ?a ?mk ?b ?i ?kp ?l ?c ?k);(case a =>k_is);(case mk =>k_is);(case b =>k_is);(case i =>k_is);(case kp =>k_is);(case l =>k_is);(case c =>k_is);(case k =>k_is))|((with_reducible refine' My.clIn_mk ?a ?pg ?hd ?po ?sa ?ha ?hn ?ht ?hm);(case a =>k_is);(case pg =>k_is);(case hd =>k_is);(case po =>k_is);(case sa =>k_is);(case ha =>k_is);(case hn =>k_is);(case ht =>k_is);(case hm =>k_is))|((with_reducible refine' My.ciIn_mk ?a);(case a =>k_is))|((with_reducible refine' My.csIn_mk ?a);(case a =>k_is))|((with_reducible refine' My.ebIn_mk ?a ?kp ?o ?nk ?al ?ni);(case a =>k_is);(case kp =>k_is);(case o =>k_is);(case nk =>k_is);(case al =>rfl);(case ni =>k_is))|((with_reducible refine' My.e0In_mk ?b ?a ?kp ?o ?nk ?al ?ni);(case b =>k_is);(case a =>k_is);(case kp =>k_is);(case o =>k_is);(case nk =>k_is);(case al =>rfl);(case ni =>k_is))|((with_reducible refine' My.e1In_mk ?b ?a ?kp ?o ?j ?i ?l ?c ?k);(case b =>k_is);(case a =>k_is);(case kp =>k_is);(case o =>k_is);(case j =>k_is);(case i =>k_is);(case l =>k_is);(case c =>k_is);(case k =>k_is))|((with_reducible refine' My.eaIn_mk ?a ?b);(case a =>k_is);(case b =>k_is))|((with_reducible refine' My.egIn_mk ?a ?b ?c);(case a =>k_is);(case b =>k_is);(case c =>k_is))|((with_reducible refine' My.eiIn_mk ?a ?b ?c ?d);(case a =>k_is);(case b =>k_is);(case c =>k_is);(case d =>k_is))|((with_reducible refine' My.emIn_mkT ?e ?a ?c ?d);(case e =>decide);(case a =>k_is);(case c =>k_is);(case d =>k_is))|((with_reducible refine' My.emIn_mkF ?e ?a ?c ?d);(case e =>decide);(case a =>k_is);(case c =>k_is);(case d =>k_is))
end
