import PyProof.Rows.All
import Wide.All
import OpenK.AllK
import Wide.FinOn
import Lean
import PyProof.EqAt
import PyProof.EqKinds
import PyProof.TupleCall
import PySem.Challenge.RW_motiffield_k43_whole_changed_text
set_option compiler.extract_closed false
set_option Elab.async false
set_option linter.all false
set_option maxRecDepth 100000
set_option maxHeartbeats 4000000
local macro_rules|`(command|def $x:declId $s:optDeclSig $v:declVal)=>`(command|noncomputable def $x:declId $s:optDeclSig $v:declVal)
local macro_rules|`(command|abbrev $x:declId $s:optDeclSig $v:declVal)=>`(command|noncomputable abbrev $x:declId $s:optDeclSig $v:declVal)
local macro_rules|`(#[$x,*])=>`(⟨$x,*⟩)
theorem KK{p:Prop}(h:p:=by lia):p:=h
theorem Lf{p:Prop}(h:p:=by decide+kernel):p:=h
theorem Lj{p:Prop}(h:p:=by decide):p:=h
theorem Lm{p:Prop}(h:p:=by omega):p:=h
theorem Ln{p:Prop}(h:p:=by simp):p:=h
theorem Mh{p:Prop}(h:p:=by k_memK):p:=h
theorem Mr{p:Prop}(h:p:=by walk_at "b2"):p:=h
theorem Mt{p:Prop}(h:p:=by grind):p:=h
theorem MB{p:Prop}(h:p:=by walk_at "b1"):p:=h
theorem Nw{p:Prop}(h:p:=by show(2:Nat)<=1000;decide):p:=h
theorem Oi{p:Prop}(h:p:=by cases q:cd.mro with|nil=>rw[q]at hm;simp[aN]at hm|cons _ _=>rfl):p:=h
theorem Ph{p:Prop}(h:p:=by walk_at "b3"):p:=h
theorem Qm{p:Prop}(h:p:=by intro x no;cases x<;>first|rfl|cases no):p:=h
theorem Qx{p:Prop}(h:p:=by show(1:Nat)<1000;decide):p:=h
theorem QF{p:Prop}(h:p:=by rw[<-hY];rfl):p:=h
theorem Ta{p:Prop}(h:p:=by simp;lia):p:=h
theorem Tb{p:Prop}(h:p:=by unfold mroIn;rw[hc,Ik,if_neg (by rw[ne];decide),eN Lf hm]):p:=h
open PySem renaming Str->Kq
open Option renaming some->be,none->v7
open PySem renaming Value->KB,Addr->KF,wpAny_bind->KM,Shared->Os,mainGlobals->Pi,wpAny_pure->P3,Stmt->SB,model->SL,Expr->SZ,Program->T3,wpAny->T4,World->T5,Around->T6,starEach->T7,assignEach->T8,attributeBase->T9,eval->T_,FuncData->Ua,Pos->Ub,wpAny_Call_Name_kw->Uc,wpAny_newObj_type->Ue,wpAny_mono->Ug,swapsWith->Uh,bootBuiltins->Ui,Obj->Uj,wpAny_loadPart_at->Uk,compareOp->Ul,PassesOwn->Um,excClassObj->Uo,wpAny_holding->Up,binaryOp->Uq,wpAny_passesOwn->Ur,behindInMarks->Us,sysModules->Ut,holding->Uu,Scope->Uv,wpAny_standAt->Uw,swapsWithSole->Ux,swappedStores->Uy,ExceptHandler->Uz,wpAny_getItem_str_slice->UA,keywordEach->UB,codeAny_mono->UC,backTo->UD,plainObj_wpAny_Assign_Attribute->UE,wpAny_call->UF,assign->UG,wpAny_field->UH,sliceBounds->UI,codeAny_call_builtin->UJ,bindArgs->UK,NameKind->UL,wpAny_execs_nil->UM,wpAny_isSubtype_exc->UN,standAt->UO,Env->UP,wpAny_truthy_bool->UQ,wpAny_pyIter_enum->UR,sizeLine_eq->US,tupleKind->UU,noteFrame->UV,backToKw->UW,rawInt->UX,BindsTo->UY,post_val_or_str->UZ,letOwnedTupleGo->U0,wpAny_setField->U1,getMethod->U2,codeAny->U3,Keyword->U4,isInstance->U5,wpAny_assign_Name->U7,callerA->U8,wpAny_lookBehind->U9,setFlight->U',pastItsLine_dict->U_,IsPart->Va,atKey->Vb,valueAt->Vd,getItem->Ve,wpAny_loadPart->Vf,wpAny_letOwnedTupleGo_enum->Vg,handleBy->Vh,dictSetDefault->Vi,bindName->Vj,Operator->Vk,wpAny_comprehension_free->Vl,assignInOrder->Vm,cLine->Vn,bindL->Vo,bindC->Vp,ClassData->Vq,wpAny_nsSet1->Vr,setItem->Vt,seqIndex_neg->Vu,leaving->Vv,getAttr->Vw,codeAny_compStart_list->Vx,call_meetsIn->Vy,Sem->Vz,codeAny_handlers_test->VB,wpAny_of_eq->VC,wpAny_newFunctionEnv->VD,seqIndex_of->VE,callWith->VF,Model->VG,GenState->VH,wpAny_handleBy_cons->VI,wpAny_call_exc_subT->VJ,wpAny_rule->VL,wpAny_entryPlaceOf->VM,wpAny_Name->VN,typeIs_str->VO,tupleKind_room_in1->VP,builtinsNs->VQ,wpAny_frameOf_fun->VR,setAttr->VS,release->VT,relabel->VU,foldedSetIterable->VV,Tok->VX,CmpOp->VY
open PyProof.Rows renaming envOfC->Ud,AllBare->UT,assignInOrder_cons->U6,subscriptTail_builtinR->Vs,IntsAre->VA,assignInOrder_nil->VW
open PySem.Spec renaming same->Vc
open PySem.W renaming Frag->Ex,findIn->GT,mroIn->Hy,OpenLaw->IU,clsIn->IZ,handedIn->Jy,WalkO->JC
open List renaming mem_singleton->GN,mem_cons->GP,length_map->GQ,mem_cons_of_mem->GR,range->GS,mem_cons_self->GU,length_cons->GV,getElem?_map->GX,size_toArray->GZ,length_append->G0,getElem?_eq_some_iff->G1,getElem?_set_ne->G2,lookup_cons->G4,getElem?_eq_getElem->G5,set_cons_succ->G7,map_cons->G8,set_cons_zero->G9,mem_append_right->Hb,mem_map->Hd,mem_append->Hi,getElem_mem->Hk,map_append->Hl,append_nil->Hn,getElem?_eq_none->Hr,getElem?_range->Hs,getElem?_set_self->Ht,replicate->Hu,getElem?_append_left->Hv,length_set->Hx,mem_of_getElem?->Hz,append_assoc->HA,nodup_cons->HC,getElem?_append_right->HD,length_drop->HE,all_eq_true->HF,lookup->HK,getElem?_set->HM,ext_getElem?->HN,drop->HP,take_of_length_le->HQ,getD->HV,not_mem_nil->HW,drop_eq_getElem_cons->HX,mem_append_left->HY,map_nil->HZ,find?_cons->H8,nodup_append->Ia,length->Ii,length_take->Ij,map->Il,range_succ->Im,map_congr_left->Io,map_map->Iq,take_length->Ir,filterMap_cons->Iy,getElem?_take_of_lt->IC,all_cons->ID,any_cons->IE,drop_zero->IM,of_mem_zip->IQ,getElem?_replicate->IR,length_singleton->IS,contains_cons->IV,forIn_cons->IW,length_range->Jl,getElem?_drop->Jn,drop_of_length_le->Jp,mem_of_mem_drop->Js,drop_eq_nil_of_le->Jt,mem_filter->Jv,mem_filterMap->Jw,filterMap_map->JA,nodup_nil->JF,take_succ->JJ,dropLast_cons₂->JL,eq_nil_of_length_eq_zero->JN,map_take->Ka,take_range->Kb,set_append_left->Kc,set_append_right->Kd,mem_or_eq_of_mem_set->Ke,map_set->Kf,take_append_drop->Kg,drop_length->Kh
open Nat renaming le_refl->GO,ne_of_lt->GW,le_trans->GY,lt_of_lt_of_le->Ha,zero_le->Hc,ne_of_gt->HB,pow_succ->HI,lt_irrefl->HJ,le_succ->HL,lt_or_ge->H9,pow_le_pow_right->Ic,min_eq_left->Ih,succ_mul->Ip,le_of_lt->Ix,le_of_eq->IB,mul_le_mul->IH,pow_pos->IK,not_lt_zero->IL,min_eq_right->IN,le_of_not_lt->IT,lt_succ_of_lt->IY,add_comm->Jh,zero_add->Jo,sub_zero->Jq,lt_succ_self->Jz,lt_of_le_of_lt->JD,lt_trans->JE,log2_lt->JG,add_sub_add_right->JI,succ_ne_self->JM,mul_le_mul_right->JQ,le_max_left->JU,le_max_right->JV,pow_add->JW,add_sub_cancel->J0,mod_eq_of_lt->J6,mul_succ->J9
open Bool renaming false_ne_true->G3,and_eq_true->Hj,eq_false_iff->Ho,eq_iff_iff->IA,or_true->IF
open Int renaming mul_pos->G6,mul_comm->Hf,toNat_of_nonneg->Hg,mul_le_mul_of_nonneg_right->Hm,mul_ediv_cancel->Hq,toNat_natCast->Hw,emod_nonneg->HG,emod_lt_of_pos->HH,natAbs_mul->HR,emod_def->HS,mul_nonpos_of_nonpos_of_nonneg->HU,eq_of_mul_eq_mul_right->Ib,emod_add_mul_ediv->Ie,zero_add->Ig,natCast_add->Iu,add_zero->Iv,le_trans->Iw,dvd_mul_of_dvd_right->II,mul_neg->IJ,ediv_nonneg->IP,mul_nonneg->Jb,fmod_eq_zero_of_dvd->Jc,natCast_mul->Jd,neg_mul->Je,eq_of_mul_eq_mul_left->Jf,dvd_add->Jg,mul_eq_zero->Ji,sub_mul->Jj,add_mul->Jk,add_assoc->Jr,ediv_le_self->Ju,natAbs_eq_zero->JH,fmod_nonneg_of_pos->JO,fmod_lt_of_pos->JP,mul_emod_left->JR,mul_le_mul_of_nonneg_left->JS,dvd_mul_of_dvd_left->JT,mul_fdiv_cancel_of_fmod_eq_zero->JX,dvd_antisymm->JY,zero_mul->JZ,add_mul_emod_self_right->J2,add_mul_ediv_right->J3,dvd_add_left->J4,dvd_mul_right->J5,natCast_emod->J7,ediv_eq_zero_of_lt->J8
open Option renaming bind_some->Ik,getD_none->JB,map_eq_some_iff->Ki
open Array renaming length_toList->Iz,getElem?_eq_some_iff->IG,all_toList->Ja,getElem?_eq_getElem->JK,toList_inj->J1
open PySem.W (InitBack any_some callWith_K callWith_K0 cellsFrom_some cls_value codeIn codeRec_of emptyDict eq_bytes findCls findObj_own fnOf get_value hasDictIn hideAll hideAll_get hideAll_none hideAll_size instObj isFn isNs_of_in kIn_of keepIn ki_setAt ki_setBack kia_one kitOne kitx_bool kitx_dict kitx_float kitx_int kitx_list kitx_none kitx_own kitx_str kitx_tuple kun_itemsOf len_bytes lookIn make_core makesIn makes_of methodCall_KW methodObj method_cls method_fn mg_none_of mg_of ne_bytes nsIn nsMap_none_of_in nsOkIn of_hideAll osa_open plainGet plainGet_of plainOver readsIn specialIn tailIn tail_of_in takerIn takesIn truthy_bytes)
def qZ0(_:0=0:=by rfl):=0
nonrec def zA0:=qZ0._auto_1
def qZ1(_:0=0:=by decide):=0
nonrec def zA1:=qZ1._auto_1
def qZ2(_:0=0:=by first|exact .inl rfl|exact .inr rfl|assumption):=0
nonrec def zA2:=qZ2._auto_1
def qZ3(_:0=0:=by exact λ_=>rfl):=0
nonrec def zA3:=qZ3._auto_1
def qZ4(_:0=0:=by first|exact Or.inl rfl|exact Or.inr rfl):=0
nonrec def zA4:=qZ4._auto_1
def qZ5(_:0=0:=by first|exact Or.inl rfl|exact Or.inr (Or.inl rfl)|exact Or.inr (Or.inr rfl)):=0
nonrec def zA5:=qZ5._auto_1
def qZ6(_:0=0:=by exact λ_ _=>rfl):=0
nonrec def zA6:=qZ6._auto_1
def qZ7(_:0=0:=by intros;rfl):=0
nonrec def zA7:=qZ7._auto_1
namespace PySem.W.Fast
def tw18162572056982168546:=Nat
def tw912608943843805460:=Nat
def tw2296659418695404011:=Nat
def tw15142434273249558983:=Nat
def tw7701808073947196509:=Nat
def tw5241670819575896323:=Nat
def tw11003785530488282388:=Nat
def tw9405630786619975070:=Nat
def tw15741338114502620312:=Nat
def tw10805715059548904113:=Nat
def tw4447485960059675592:=Nat
def tw271229577743955206:=Nat
def tw15906983466936700727:=Nat
def tw13174032926910556229:=Nat
def tw3601830350164278614:=Nat
def tw17424486111246035748:=Nat
def tw15087085463593682393:=Nat
def tw3876085232482730930:=Nat
def tw18187276313526376555:=Nat
def tw3672452255104218184:=Nat
def tw4345867883046804271:=Nat
def tw6108388370698207410:=Nat
def tw15747920374004984023:=Nat
def tw18318493124405602622:=Nat
def tw11395205514394704392:=Nat
def tw11996837910553299311:=Nat
def tw12393541313859868599:=Nat
def tw15218331740664386350:=Nat
def tw9032332002420898696:=Nat
def tw11711347721372798647:=Nat
def tw9501568241369739170:=Nat
def tw2056097088040985221:=Nat
def tw2802399372112104655:=Nat
def tw6289840933515172223:=Nat
def tw6155150057362607158:=Nat
def tw3419230414940551732:=Nat
def tw6256972727753221197:=Nat
def tw16744037869285463664:=Nat
def tw9259122880304683643:=Nat
def tw12185678126626374868:=Nat
def tw8591104507264341861:=Nat
def tw292468115157044783:=Nat
def tw9636786115848301048:=Nat
def tw3374656338535847262:=Nat
def tw5740945020202746440:=Nat
def tw15130773737202865006:=Nat
def tw6851950415101967606:=Nat
def tw2861016731168427940:=Nat
def tw5410471101058774939:=Nat
def tw6190411765904897787:=Nat
def tw2562279651232927657:=Nat
def tw5938459672422510649:=Nat
def tw9633163889591482076:=Nat
def tw16776822094868945987:=Nat
def tw17342038661516814971:=Nat
def tw11757730106498167971:=Nat
def tw17664583324754878419:=Nat
def tw3400446991267201142:=Nat
def tw3761682096108721134:=Nat
def tw15237305091081480153:=Nat
def tw9041372485868461502:=Nat
def tw1643888052619976282:=Nat
def tw213211798384061731:=Nat
def tw4762180459823288623:=Nat
def tw7206401937120591672:=Nat
def tw17925252533683788497:=Nat
def tw11660640795766690800:=Nat
def tw8951586118900174346:=Nat
def tw10117627972258601396:=Nat
def tw670806481728149701:=Nat
def tw8848895753780940316:=Nat
def tw1142709168335263528:=Nat
def tw2716511991263023730:=Nat
def tw71329480899827904:=Nat
def tw2227213372021697634:=Nat
def tw5549144749930291330:=Nat
def tw12031308550481052929:=Nat
def tw7176779822279068610:=Nat
def tw17817477216311747663:=Nat
def tw8874340488430276653:=Nat
def tw14037107485713276144:=Nat
def tw3297787962162187851:=Nat
def tw15862055934856377532:=Nat
def tw4059058077413489376:=Nat
def tw7308833757053107618:=Nat
def tw14410872829365539934:=Nat
def tw17719693427253847202:=Nat
def tw16319493208886238093:=Nat
def tw9248005937628213581:=Nat
def tw11253130375697738704:=Nat
def tw10356784488800344263:=Nat
def tw3813547799521043918:=Nat
def tw16129892934798465355:=Nat
def tw9813216709963130616:=Nat
def tw1455083302945324033:=Nat
def tw15336107235353253424:=Nat
def tw2480872551941807782:=Nat
def tw4138510165159597425:=Nat
def tw2278823603901788727:=Nat
def tw1195017161859012769:=Nat
def tw8729528973318450811:=Nat
def tw6159137362313175437:=Nat
def tw11500481770887883719:=Nat
def tw5844255622020261244:=Nat
def tw16246370455727364274:=Nat
def tw15448022701952328918:=Nat
def tw15412150456691388022:=Nat
def tw8863550998981693225:=Nat
def tw8071161850730900351:=Nat
def tw17770710422684127607:=Nat
def tw13869315675675676303:=Nat
def tw4569325674065807721:=Nat
def tw12176230387266323798:=Nat
def tw16777719607526043519:=Nat
def tw6147411404387200429:=Nat
def tw2143341950629998243:=Nat
def tw11422852125557440950:=Nat
def tw7196770955943202605:=Nat
def tw3662445222206459446:=Nat
def tw10394630711976897941:=Nat
def tw14901810329888575702:=Nat
def tw10970160744111115604:=Nat
def tw801781327919438833:=Nat
def tw15841478238220479455:=Nat
def tw4829601151340521335:=Nat
def tw12420131883174131659:=Nat
def tw11623101874300052097:=Nat
def tw5954626083664430991:=Nat
def tw17853524626418672822:=Nat
def tw18355753264773799500:=Nat
def tw5413950471089753371:=Nat
def tw3731148086927219848:=Nat
def tw6120271586391763463:=Nat
def tw6152126936880757160:=Nat
def tw3974946604372616599:=Nat
def tw11319723036511320573:=Nat
def tw2585769116450044746:=Nat
def tw4691553173902121312:=Nat
def tw4455215799206178665:=Nat
def tw7441682975253586305:=Nat
def tw18287281615987766823:=Nat
def tw7171229044081823803:=Nat
def tw10202825942986081701:=Nat
def tw16174065358395211101:=Nat
def tw16243758761720577139:=Nat
def tw15924203658174993774:=Nat
def tw2217999513247585110:=Nat
def tw652740450954223702:=Nat
def tw5861535476957860982:=Nat
def tw11968139994199522826:=Nat
def tw2744064624883952845:=Nat
def tw9073682559666425463:=Nat
def tw11202226664989701143:=Nat
def tw11598172975366644808:=Nat
def tw3127321035774251020:=Nat
def tw8428119663392220457:=Nat
def tw12528773907718889406:=Nat
def tw7757118479069230581:=Nat
def tw4685452089146360429:=Nat
def tw6631608673597263298:=Nat
def tw2823908944073273124:=Nat
def tw308860059078166123:=Nat
def tw4501999438380875263:=Nat
def tw17085464734930056916:=Nat
def tw2969297345111017693:=Nat
def tw11465397880648937096:=Nat
def tw7614222269015496175:=Nat
def tw17696801673824882439:=Nat
def tw6903244279888883266:=Nat
def tw4784250462872137204:=Nat
def tw17077128313463691976:=Nat
def tw9275632835857861029:=Nat
def tw4723955589402088622:=Nat
def tw14143560597254739631:=Nat
def tw4853681779247884342:=Nat
def tw9234713986584261685:=Nat
def tw5434208393927495907:=Nat
def tw14393841383888818197:=Nat
def tw7546238746199320792:=Nat
def tw7562148252790839103:=Nat
def tw17707896869001834623:=Nat
def tw4974001316631277774:=Nat
def tw5930571110573154914:=Nat
def tw9753335881505003601:=Nat
def tw11292965242721652767:=Nat
def tw8457631743123256554:=Nat
def tw10047615538283695520:=Nat
def tw11200919259710136195:=Nat
def tw9109031611186611731:=Nat
def tw3941020763999609958:=Nat
def tw13399691598888294360:=Nat
def tw2651924891820437485:=Nat
def tw3743138322791187770:=Nat
def tw13183652088068764727:=Nat
def tw5679205697275526722:=Nat
def tw5533669347913761040:=Nat
def tw7915314229598641929:=Nat
def tw5078765746297108985:=Nat
def tw4540610001524469396:=Nat
def tw1469352045918982430:=Nat
def tw7654269217419514518:=Nat
def tw9811477723524599025:=Nat
def tw15713337885682403897:=Nat
def tw38616198454581504:=Nat
def tw2498747292920602262:=Nat
def tw9819634529489292254:=Nat
def tw8631283518684247503:=Nat
def tw11507111815649343107:=Nat
def tw13064809028088891094:=Nat
def tw7451034818070292062:=Nat
def tw1364321127693508009:=Nat
def tw1942230461767182613:=Nat
def tw143538581784643396:=Nat
def tw12018521098946558771:=Nat
def tw2949595653705708985:=Nat
def tw17403395131496198617:=Nat
def tw13770681512558471254:=Nat
def tw11753247473916782362:=Nat
def tw16458364305005596886:=Nat
def tw14580229199655041146:=Nat
def tw15907349851958940809:=Nat
def tw11579681115009339623:=Nat
def tw9666739459176175175:=Nat
def tw8260305333758077766:=Nat
def tw14147857762132636861:=Nat
def tw12461032402997023057:=Nat
def tw5728785505746220301:=Nat
def tw11405856423458811330:=Nat
def tw4412641344321880907:=Nat
def tw18357163776423920569:=Nat
def tw16661533550818381126:=Nat
def tw2726449008039366479:=Nat
def tw2074698958476946469:=Nat
def tw10463733535584312848:=Nat
def tw6929215667803942508:=Nat
def tw2619966263079651707:=Nat
def tw13982543985389908243:=Nat
def tw6108404739140285542:=Nat
def tw18277002817254241791:=Nat
def tw8185756370837144108:=Nat
def tw6413900718906638806:=Nat
def tw14154287233224906490:=Nat
def tw16552298425056111376:=Nat
def tw6090544337634976113:=Nat
def tw14089876353571601590:=Nat
def tw11045154074155361488:=Nat
def tw11544760401273291229:=Nat
def tw3859083405142950148:=Nat
def tw13042790592212902631:=Nat
def tw3669667249438079499:=Nat
def tw15094384270595475483:=Nat
def tw4849871355720931247:=Nat
def tw8333663706242901851:=Nat
def tw1998034478664816718:=Nat
def tw8933800950703426059:=Nat
def tw16999600373304506877:=Nat
def tw8450172744123446763:=Nat
def tw14580987181624070878:=Nat
def tw14806232282079025255:=Nat
def tw6281111681047589597:=Nat
def tw10873328581085530250:=Nat
def tw16425714811446598251:=Nat
def tw7661069925174299191:=Nat
def tw15613742410725722352:=Nat
def tw15069122408892312094:=Nat
def tw15080261171569597934:=Nat
def tw6843593654744275165:=Nat
def tw10673081712357180065:=Nat
def tw8314337940005088647:=Nat
def tw5251297885340641834:=Nat
def tw2856404842415395504:=Nat
def tw16040456699603510057:=Nat
def tw1371999373826242136:=Nat
def tw4005179481480227162:=Nat
def tw17577966138172339240:=Nat
def tw12810100544912717006:=Nat
def tw12388519563214493267:=Nat
def tw6140504987697089652:=Nat
def tw14840566676979059479:=Nat
def tw3139258561037597528:=Nat
def tw3643740412665805314:=Nat
def tw4205608658738004533:=Nat
def tw2673919846367764273:=Nat
def tw6423647959552501437:=Nat
def tw5273212024601675127:=Nat
def tw4009555523265774179:=Nat
def tw12826497982070686078:=Nat
def tw16467284247251984671:=Nat
def tw12378902096855399410:=Nat
def tw8114195830064056276:=Nat
def tw5708733438815341981:=Nat
def tw13479571321854198655:=Nat
def tw10410568804400912698:=Nat
def tw16902852410743493854:=Nat
def tw7713619172289019594:=Nat
def tw812175066909296089:=Nat
def tw13239677643395287587:=Nat
def tw6520244975690407739:=Nat
def tw3265629751127064148:=Nat
def tw2457097645964374040:=Nat
def tw13685861473718874810:=Nat
def tw2273204756534032420:=Nat
def tw3153302016885992710:=Nat
def tw5895760675521281827:=Nat
def tw3999160730933505367:=Nat
def tw16005406017635574705:=Nat
def tw12032703160920602649:=Nat
def tw15220940869317991265:=Nat
def tw7588802646189199728:=Nat
def tw16970698046698095360:=Nat
def tw14832501931122446176:=Nat
def tw4246765229372689170:=Nat
def tw674989395942384922:=Nat
def tw7415538874477675645:=Nat
def tw8437014984342830298:=Nat
def tw7651525895672521476:=Nat
def tw8362993920493761340:=Nat
def tw13726289629061966280:=Nat
def tw12177048398083179148:=Nat
def tw9068060665137346488:=Nat
def tw8263691949106003085:=Nat
def tw7666620863328172651:=Nat
def tw4326775380483791291:=Nat
def tw8588622605798385486:=Nat
def tw16562836219563062162:=Nat
def tw16390657233848637387:=Nat
def tw3465344775427463998:=Nat
def tw12467214155938236435:=Nat
def tw7267374898841771035:=Nat
def tw6795158288202492857:=Nat
def tw6976427544620126603:=Nat
def tw3642583295446094424:=Nat
def tw3791682934389109570:=Nat
def tw15835634879475332643:=Nat
def tw15784174530855109064:=Nat
def tw12908411642841255157:=Nat
def tw16403333773546742112:=Nat
def tw1842806447183900920:=Nat
def tw11341369650099298090:=Nat
def tw6302412050787440688:=Nat
def tw4171278106514471690:=Nat
def tw6344461969318996335:=Nat
def tw13770095528658092406:=Nat
def tw7466811306098876210:=Nat
def tw38234156370422725:=Nat
def tw2479423979083949169:=Nat
def tw14352893380501041605:=Nat
def tw5806339703418254942:=Nat
def tw89473657594987381:=Nat
def tw15057900934281435329:=Nat
def tw14877693886540669146:=Nat
def tw1833689372956905916:=Nat
def tw17403062446792353450:=Nat
def tw10162869727951203242:=Nat
def tw15168600029412482365:=Nat
def tw7682628316592664601:=Nat
def tw4693816254831577250:=Nat
def tw15798707958505531338:=Nat
def tw13992604781160623515:=Nat
def tw12295344151735886112:=Nat
def tw18420101410968527827:=Nat
def tw7654404613687468960:=Nat
def tw16195558267277817738:=Nat
def tw9983851400153723349:=Nat
def tw1427226997973638907:=Nat
def tw3949840890000638247:=Nat
def tw10066740150023893949:=Nat
def tw219206404849791855:=Nat
def tw10119871750624533644:=Nat
def tw935859115197282611:=Nat
def tw5539580952780116277:=Nat
def tw14709128906480982153:=Nat
def tw6310474316163527076:=Nat
def tw1003258800223373272:=Nat
def tw8055460378582100415:=Nat
def tw16996134455362024193:=Nat
def tw15219336711824119588:=Nat
def tw1981666298976031180:=Nat
def tw6241148670331192881:=Nat
def tw17914844495156126448:=Nat
def tw1215828174937463788:=Nat
def tw12427134016605801958:=Nat
def tw12426471495246673878:=Nat
def tw16601057046037294580:=Nat
def tw13627572168130704254:=Nat
def tw4289771965580356652:=Nat
def tw1087662902326164748:=Nat
def tw9994127393180975099:=Nat
def tw14082516116610386262:=Nat
def tw11930956323407281732:=Nat
def tw8730964246448307147:=Nat
def tw14919137061323174273:=Nat
def tw15063753532984038572:=Nat
def tw2582419728267735497:=Nat
def tw12264993704175274077:=Nat
def tw9312209115944284309:=Nat
def tw9378744179576667927:=Nat
def tw1113049043387169640:=Nat
def tw15787304281438769696:=Nat
def tw10261905498008774117:=Nat
def tw17315355665546671662:=Nat
def tw10808853538228404728:=Nat
def tw12815144913826341905:=Nat
def tw1299019625425372900:=Nat
def tw5311689215423948519:=Nat
def tw8809852780360438384:=Nat
def tw6187674201432983088:=Nat
def tw3814465721484085600:=Nat
def tw2231965634036395893:=Nat
def tw3686295061571124008:=Nat
def tw1246860713118057983:=Nat
def tw12358059645776554983:=Nat
def tw6469315076687029439:=Nat
def tw11532152337960136546:=Nat
def tw16680170241677036139:=Nat
def tw17735860952083722867:=Nat
def tw11944559982488512752:=Nat
def tw4458511852335383221:=Nat
def tw13300213594689800346:=Nat
def tw2104780990687013508:=Nat
def tw2225620106199370545:=Nat
def tw17824100434141104945:=Nat
def tw6852786975961663318:=Nat
def tw11521951432203933920:=Nat
def tw2044487823093461620:=Nat
def tw1182149788364775505:=Nat
def tw7797657970588107759:=Nat
def tw17619940381167999164:=Nat
def tw10867238846918679638:=Nat
def tw307102217236896469:=Nat
def tw12577760225075296568:=Nat
def tw650561565980692416:=Nat
def tw5913243833061039641:=Nat
def tw10120058170319847916:=Nat
def tw1915742463468924268:=Nat
def tw3245338057290986531:=Nat
def tw2711164760558867846:=Nat
def tw14284184643356529481:=Nat
def tw5622030113058774235:=Nat
def tw2578025561236902098:=Nat
def tw6421139560627153487:=Nat
def tw16661447996236000784:=Nat
def tw3347024500323899501:=Nat
def tw6032285610761487074:=Nat
def tw13145541252050958924:=Nat
def tw2544684516593225458:=Nat
def tw1242043869586254865:=Nat
def tw15550628241234605515:=Nat
def tw2156672736590596587:=Nat
def tw17181271832650251273:=Nat
def tw13658019521310023549:=Nat
def tw15012099115506229848:=Nat
def tw6033823486633267376:=Nat
def tw15219307515140980674:=Nat
def tw3141336492563737438:=Nat
def tw5486611144237931374:=Nat
def tw2868290422864781348:=Nat
def tw10607307155449941494:=Nat
def tw3683045424161341281:=Nat
def tw2199631755413386820:=Nat
def tw243035235291378058:=Nat
def tw17237735761179638396:=Nat
def tw10223819388970860950:=Nat
def tw9117431084324434059:=Nat
def tw13319447673881508776:=Nat
def tw3033040506665270981:=Nat
def tw9417917476887321762:=Nat
def tw15833721425585385790:=Nat
def tw17634931620742799415:=Nat
def tw17334244858351200742:=Nat
def tw10515112991149882691:=Nat
def tw9734790625311452509:=Nat
def tw15958722417886024609:=Nat
def tw1683835609566525747:=Nat
def tw8732716411133470644:=Nat
def tw17550075707476719190:=Nat
def tw8552311322907321461:=Nat
def tw5742942144864128176:=Nat
def tw18179884912755453393:=Nat
def tw10690944118565402760:=Nat
def tw12176800570842954820:=Nat
def tw4277775773245698342:=Nat
def tw6058884398358627438:=Nat
def tw11207278379232896539:=Nat
def tw16939690562211592448:=Nat
def tw9183367811053424292:=Nat
def tw16702870405099972308:=Nat
def tw5924286645342673515:=Nat
def tw16602765627375831881:=Nat
def tw10100126585686252752:=Nat
def tw3213034606458370377:=Nat
def tw3918722443791319960:=Nat
def tw9895268480351171423:=Nat
def tw3081110567012379297:=Nat
def tw10910460931825252911:=Nat
def tw15850852579507044139:=Nat
def tw1275802103375123431:=Nat
def tw5797168460302903342:=Nat
def tw17529037561315938264:=Nat
def tw15461108856129967208:=Nat
def tw16148115819057926463:=Nat
def tw11796483259811351393:=Nat
def tw9623043567875831287:=Nat
def tw12585395626556893497:=Nat
def tw2707797834453825346:=Nat
def tw16524272627090415608:=Nat
def tw1888467795370978560:=Nat
def tw9883756668361920579:=Nat
def tw9766848315689040624:=Nat
def tw13489417868616118850:=Nat
def tw14807368351811790004:=Nat
def tw887022571948035373:=Nat
def tw6575188153413608451:=Nat
def tw1679242342364326071:=Nat
def tw10015633639564910514:=Nat
def tw6666307428526513898:=Nat
def tw10353474609183956623:=Nat
def tw5035363106919799658:=Nat
def tw17950078342010414325:=Nat
def tw4163919059562157680:=Nat
def tw11068394800479592327:=Nat
def tw6495124095050050275:=Nat
def tw1730379247227249838:=Nat
def tw16350306441039973099:=Nat
def tw9608783156321888235:=Nat
def tw6342751995350916787:=Nat
def tw1868008791626432838:=Nat
def tw13596569717029334786:=Nat
def tw11868502279755952650:=Nat
def tw1887551612338605353:=Nat
def tw6218972139902487810:=Nat
def tw11740168239333542827:=Nat
def tw10799830824193695921:=Nat
def tw14869878943137454044:=Nat
def tw8067490388667640988:=Nat
def tw12983995252547732672:=Nat
def tw7366077132527788256:=Nat
def tw14756523963459282014:=Nat
def tw3131367449672259037:=Nat
def tw13845314326336578576:=Nat
def tw8056096920776038479:=Nat
def tw2666109294009125175:=Nat
def tw10999683852847823510:=Nat
def tw10495399616606117583:=Nat
def tw12631643809658084791:=Nat
def tw15262080827585246211:=Nat
def tw14685098104620590974:=Nat
def tw9673977069917562053:=Nat
def tw4524350279276129942:=Nat
def tw113868977847799845:=Nat
def tw8706432151387596646:=Nat
end PySem.W.Fast
section
namespace L2
open PySem PySem.Spec PyProof.Rows
abbrev Key:=Sum Int Kq
def eE:Key->KB->Bool
 |.inl k,v=>Value.isInt k v
 |.inr x,v=>Value.isStrOf x v
def keyH(w:T5):Key->Int
 |.inl k=>hashInt k
 |.inr x=>hashStr w x
def keyIs_shape:∀{k:Key} {v:KB},eE k v=true->(∃i t,k=Sum.inl i/\v=Value.int i t)\/(∃x t,k=Sum.inr x/\v=Value.str x t)
 |.inl i,v,h=>by
  obtain⟨t,e⟩:=Value.isInt_shape (k:=i) (v:=v) h;exact .inl #[i,t,rfl,e]
 |.inr x,v,h=>by
  obtain⟨t,e⟩:=Value.isStrOf_shape (x:=x) (v:=v) h;exact .inr #[x,t,rfl,e]
def we(i:Int)(t:VX):eE (.inl i) (.int i t)=true:=by simp[eE,Value.isInt]
def wg(x:Kq)(t:VX):eE (.inr x) (.str x t)=true:=by simp[eE,Value.isStrOf]
def wj(a b:Int):decide ((Sum.inl a:Key)=Sum.inl b)=(a==b):=by
 by_cases e:a=b
 .subst e;simp
 .have h:¬(Sum.inl a:Key)=Sum.inl b:=λq=>e (Sum.inl.inj q);rw[decide_eq_false h];exact(beq_eq_false_iff_ne.mpr e).symm
def wk(a b:Kq):decide ((Sum.inr a:Key)=Sum.inr b)=decide (a=b):=by
 by_cases e:a=b
 .subst e;simp
 .have h:¬(Sum.inr a:Key)=Sum.inr b:=λq=>e (Sum.inr.inj q);rw[decide_eq_false h,decide_eq_false e]
def wl(a:Int)(b:Kq):decide ((Sum.inl a:Key)=Sum.inr b)=false:=decide_eq_false (λq=>nomatch q)
def wn(a:Kq)(b:Int):decide ((Sum.inr a:Key)=Sum.inl b)=false:=decide_eq_false (λq=>nomatch q)
def bJ(prog:T3)(w:T5):PySem.KeyKind prog w Key where
 is:=eE
 hash:=keyH w
 inj:=λv a b ha hb=>by
  rcases keyIs_shape ha with⟨i,t,rfl,rfl⟩|⟨x,t,rfl,rfl⟩
  .rcases keyIs_shape hb with⟨j,u,rfl,e⟩|⟨y,u,rfl,e⟩
   .injection e with e1 _;rw[e1]
   .exact nomatch e
  .rcases keyIs_shape hb with⟨j,u,rfl,e⟩|⟨y,u,rfl,e⟩
   .exact nomatch e
   .injection e with e1 _;rw[e1]
 byValue:=λk v h=>by
  rcases keyIs_shape h with⟨i,t,rfl,rfl⟩|⟨x,t,rfl,rfl⟩<;>rfl
 pyHash:=λhv h=>by
  rcases keyIs_shape hv with⟨i,t,rfl,rfl⟩|⟨x,t,rfl,rfl⟩
  .exact wpAny_pyHash_int h
  .exact wpAny_pyHash_str h
 eqBool:=λhu hv h=>by
  rcases keyIs_shape hu with⟨i,t,rfl,rfl⟩|⟨x,t,rfl,rfl⟩
  .rcases keyIs_shape hv with⟨j,u,rfl,rfl⟩|⟨y,u,rfl,rfl⟩
   .rw[wj]at h;exact wpAny_eqBool_int h
   .rw[wl]at h;exact SeqAt.EqAt.int_str i t y u _ _ _ _ h
  .rcases keyIs_shape hv with⟨j,u,rfl,rfl⟩|⟨y,u,rfl,rfl⟩
   .rw[wn]at h;exact SeqAt.EqAt.str_int x t j u _ _ _ _ h
   .rw[wk]at h;exact wpAny_eqBool_str h
 «strs»:=λk x t v h=>by
  rcases keyIs_shape h with⟨i,u,rfl,e⟩|⟨y,u,rfl,e⟩
  .exact nomatch e
  .injection e with e1 _;subst e1;cases v<;>rfl
def mixKind_int(prog:T3)(w:T5)(i:Int)(t:VX):(bJ prog w).is (.inl i) (.int i t)=true:=we i t
def wo(prog:T3)(w:T5)(x:Kq)(t:VX):(bJ prog w).is (.inr x) (.str x t)=true:=wg x t
inductive V where
 |non|bl (b:Bool)|int (i:Int)|str (x:Str)|byt (b:Array UInt8)|flt (b:UInt64)|ref (a:KF)|ty (n:String)
 deriving DecidableEq
def RelV:V->KB->Prop
 |.non,u=>u=Value.none
 |.bl b,u=>u=Value.bool b
 |.int i,u=>∃t,u=Value.int i t
 |.str x,u=>∃t,u=Value.str x t
 |.byt b,u=>∃t,u=Value.bytes b t
 |.flt b,u=>∃t,u=Value.float b t
 |.ref a,u=>u=Value.ref a
 |.ty n,u=>u=Value.type n
abbrev Vals:List V->List KB->Prop:=Paired RelV
variable{xs:List V}{us:List KB}
def Vals.length(r:Vals xs us):xs.length=us.length:=Paired.length r
def Vals.get:∀{xs:List V} {us:List KB} {i:Nat} {x:V},Vals xs us->xs[i]?=be x->∃u,us[i]?=be u/\RelV x u
 |_,_,_,_,.nil,e=>by simp at e
 |_,_,0,_,.cons r _,e=>by simp at e;subst e;exact#[_,rfl,r]
 |_,_,i+1,x,.cons _ t,e=>by
  obtain⟨u,h1,h2⟩:=Vals.get (i:=i) (x:=x) t (by simpa using e);exact#[u,by simpa using h1,h2]
def Vals.set{x:V}{u:KB}(r:RelV x u):∀{xs:List V} {us:List KB} (i:Nat),Vals xs us->Vals (xs.set i x) (us.set i u)
 |_,_,_,.nil=>.nil
 |_,_,0,.cons _ t=>.cons r t
 |_,_,i+1,.cons q t=>.cons q (Vals.set r i t)
def Vals.append:∀{xs ys:List V} {us ws:List KB},Vals xs us->Vals ys ws->Vals (xs++ys) (us++ws):=by
 intro xs ys us ws h s;induction h with
 |nil=>exact s
 |cons r _ e=>exact .cons r e
def Vals.take:∀{xs:List V} {us:List KB} (n:Nat),Vals xs us->Vals (xs.take n) (us.take n)
 |_,_,0,_=>.nil
 |_,_,_+1,.nil=>.nil
 |_,_,n+1,.cons r t=>.cons r (Vals.take n t)
def Vals.drop:∀{xs:List V} {us:List KB} (n:Nat),Vals xs us->Vals (xs.drop n) (us.drop n)
 |_,_,0,r=>r
 |_,_,_+1,.nil=>.nil
 |_,_,n+1,.cons _ t=>Vals.drop n t
def RelO:Option V->Option KB->Prop
 |some v,be u=>RelV v u
 |none,v7=>True
 |_,_=>False
def KV{κ:Type}:List (κ×V)->List (κ×KB)->Prop:=Paired λ(p:κ×V) (q:κ×KB)=>p.1=q.1/\RelV p.2 q.2
def kV:Key->V
 |.inl i=>.int i
 |.inr x=>.str x
inductive HO where
  |lst (xs:List V)
  |tup (xs:List V)
  |dK (a9:List (Key×V))|dT (a9:List (List Key×V))
  |set (S:Int->Bool) (n:Nat)
  |ins (C dx:KF) (fs:List (Kq×V))
  |own (x:KF)
  |xd (fs:List (Kq×V))
  |met (f x:KF)
  |rng (lo hi:Int)
  |frz (o:Uj) (u:HO)
  |tbl (ps:Array KB)
  |ext (φ:Heap->Prop)
abbrev Hp:=KF->Option HO
def upd(H:Hp)(a:KF)(o:HO):Hp:=λb=>if b=a then be o else H b
variable{H:Hp}{a:KF}{o:HO}
def aA:upd H a o a=be o:=by unfold upd;rw[if_pos rfl]
variable{b:KF}
def ar(h:b≠a):upd H a o b=H b:=by unfold upd;rw[if_neg h]
def wr{u:HO}(h:H a=be o)(h':H b=be u)(d:o≠u):a≠b:=by
 intro e;subst e;rw[h]at h';exact d (Option.some.inj h')
def bE(h:H a=be o)(h':H b=v7):a≠b:=by
 intro e;subst e;rw[h]at h';cases h'
section
variable (P:T3)(w:T5)
def ObjOk(H:Hp)(h:Heap)(a:KF):HO->Prop
 |.lst xs=>xs.length<=sizeLine/\∃(its:List KB) (n:Nat),Vals xs its/\h.get? a=be {cls:=.type "list",data:=.seq its.toArray n}
 |.tup xs=>xs.length<=sizeLine/\∃its:List KB,Vals xs its/\IsTup h a its.toArray
 |.dK a9=>a9.length<=sizeLine/\(a==Ut)=false/\∃vs,KV a9 vs/\h.DictOf (bJ P w) a vs
 | .dT a9=>a9.length<=sizeLine/\(a==Ut)=false/\∃xs:List (List Key×KF×KB),
   Paired (λ(p:List Key×V) (q:List Key×KF×KB)=>p.1=q.1/\H q.2.1=be (.tup (p.1.map kV))/\RelV p.2 q.2.2) a9 xs/\
   ∃o es ep,h.get? a=be o/\o.ExactDict/\o.data=.dict es ep/\es.toList=xs.map (entryOfKey (UU (bJ P w)))/\(xs.map (·.1)).Nodup
 |.set S n=>h.SetOf (intKind P w) a S n
 | .ins C dx fs=>H dx=be (.own a)/\fs.length<=1000/\dx≠a/\h.get? a=be (instObj C dx)/\
   ∃mA,h.Ns1 dx mA/\(∀f,RelO (fs.lookup f) (mA f))/\PySem.Within mA (fs.map (·.1))
 |.own _=>∃o,h.get? a=be o
 |.xd fs=>∃mA,h.Ns1 a mA/\∀f,RelO (fs.lookup f) (mA f)
 |.rng lo hi=>∃t u v,h.get? a=be {cls:=.type "range",data:=.fields [.int lo t,.int hi u,.int 1 v].toArray}
 |.frz o u=>h.get? a=be o/\ObjOk H h a u
 |.tbl ps=>h.get? a=be {cls:=.none,data:=.fields ps}
 |.met f x=>h.get? a=be (methodObj (.ref f) (.ref x))
 |.ext φ=>φ h/\(∃o,h.get? a=be o)/\∀h1 h2:Heap,φ h1->(∀o,h1.get? a=be o->h2.get? a=be o)->φ h2
def HOk(H:Hp)(h:Heap):Prop:=∀a o,H a=be o->ObjOk P w H h a o
end
section
variable {P:T3}{w:T5}{H H':Hp}{h h':Heap}{a:KF}{o:HO}
def ObjOk.lt(x:ObjOk P w H h a o):a<h.objs.size:=by
 cases o with
 |lst xs=>obtain⟨_,_,_,_,e⟩:=x;exact Heap.lt_size e
 |tup xs=>obtain⟨_,_,_,p⟩:=x;exact p.lt
 |dK a9=>obtain⟨_,_,_,_,o,_,_,e,_⟩:=x;exact Heap.lt_size e
 |dT a9=>obtain⟨_,_,_,_,o,_,_,e,_⟩:=x;exact Heap.lt_size e
 |set S n=>obtain⟨o,_,_,_,e,_⟩:=x;exact Heap.lt_size e
 |ins C dx fs=>obtain⟨_,_,_,e,_⟩:=x;exact Heap.lt_size e
 |own y=>obtain⟨_,e⟩:=x;exact Heap.lt_size e
 |xd fs=>obtain⟨_,⟨_,_,_,e,_⟩,_⟩:=x;exact Heap.lt_size e
 |rng lo hi=>obtain⟨_,_,_,e⟩:=x;exact Heap.lt_size e
 |frz ob u=>obtain⟨e,_⟩:=x;exact Heap.lt_size e
 |tbl ps=>exact Heap.lt_size (show h.get? a=be _ from x)
 |met f y=>exact Heap.lt_size (show h.get? a=be _ from x)
 |ext φ=>obtain⟨_,⟨_,e⟩,_⟩:=x;exact Heap.lt_size e
def Paired.mapP{α β:Type}{F G:α->β->Prop}:∀{l₁:List α} {l₂:List β},Paired F l₁ l₂->(∀a b,F a b->G a b)->Paired G l₁ l₂:=by
 intro l₁ l₂ h f;induction h with
 |nil=>exact .nil
 |cons r _ e=>exact .cons (f _ _ r) e
def ObjOk.stay(x:ObjOk P w H h a o)(k:∀b u,(b=a\/H b=be (.own a))->h.get? b=be u->h'.get? b=be u)
  (ho:∀b,H b=be (.own a)->H' b=be (.own a)) (ht:∀b xs,H b=be (.tup xs)->H' b=be (.tup xs)):ObjOk P w H' h' a o:=by
 induction o with
 |lst xs=>obtain⟨z,its,n,r,e⟩:=x;exact#[z,its,n,r,k _ _ (.inl rfl) e]
 |tup xs=>obtain⟨z,its,r,ob,e,c⟩:=x;exact#[z,its,r,ob,k _ _ (.inl rfl) e,c]
 |dK a9=>obtain⟨z,y,vs,r,ob,es,ep,e,c⟩:=x;exact#[z,y,vs,r,ob,es,ep,k _ _ (.inl rfl) e,c]
 |dT a9=>
  obtain⟨z,y,xs,r,ob,es,ep,e,c⟩:=x;exact#[z,y,xs,Paired.mapP r λp q z=>#[z.1,ht _ _ z.2.1,z.2.2],ob,es,ep,k _ _ (.inl rfl) e,c]
 |set S n=>obtain⟨ob,es,ep,t,e,c⟩:=x;exact#[ob,es,ep,t,k _ _ (.inl rfl) e,c]
 |ins C dx fs=>
  obtain⟨d,z,ne,e,mA,⟨od,es,ep,e2,c⟩,r⟩:=x;exact#[ho _ d,z,ne,k _ _ (.inl rfl) e,mA,#[od,es,ep,k _ _ (.inr d) e2,c],r]
 |own y=>obtain⟨ob,e⟩:=x;exact#[ob,k _ _ (.inl rfl) e]
 |xd fs=>obtain⟨mA,⟨od,es,ep,e,c⟩,r⟩:=x;exact#[mA,#[od,es,ep,k _ _ (.inl rfl) e,c],r]
 |rng lo hi=>obtain⟨t,u,v,e⟩:=x;exact#[t,u,v,k _ _ (.inl rfl) e]
 |frz ob u ih=>obtain⟨e,q⟩:=x;exact#[k _ _ (.inl rfl) e,ih q]
 |tbl ps=>
  have e:h.get? a=be {cls:=.none,data:=.fields ps}:=x;show h'.get? a=be {cls:=.none,data:=.fields ps};exact k a _ (.inl rfl) e
 |met f y=>
  have e:h.get? a=be (methodObj (.ref f) (.ref y)):=x;show h'.get? a=be (methodObj (.ref f) (.ref y));exact k a _ (.inl rfl) e
 |ext φ=>obtain⟨p,⟨o,e⟩,st⟩:=x;exact#[st _ _ p λo q=>k _ _ (.inl rfl) q,#[o,k _ _ (.inl rfl) e],st]
def HOk.lt(x:HOk P w H h)(e:H a=be o):a<h.objs.size:=(x a o e).lt
def HOk.fresh(x:HOk P w H h)(e:h.objs.size<=a):H a=none:=by
 cases q:H a with
 |none=>rfl
 |some u=>exact absurd (Ha (x.lt q) e) (HJ _)
def HOk.kept(x:HOk P w H h)(k:∀b u,h.get? b=be u->h'.get? b=be u):HOk P w H h':=λa o e=>
 (x a o e).stay (λb u _ q=>k b u q) (λ_ q=>q) λ_ _ q=>q
def HOk.laid(x:HOk P w H h)(k:∀b u,h.get? b=be u->h'.get? b=be u)(hp:h.objs.size<=a)(new:ObjOk P w (upd H a o) h' a o):HOk P w (upd H a o) h':=λb u e=>by
 have hn:=x.fresh hp;by_cases hb:b=a
 .subst hb;rw[aA]at e;cases e;exact new
 .rw[ar hb]at e;exact(x b u e).stay (λc v _ q=>k c v q) (λc q=>by rw[ar (bE q hn)];exact q) λc xs q=>by rw[ar (bE q hn)];exact q
end
def Rd(H:Hp)(a:KF)(u:HO):Prop:=H a=be u\/∃o,H a=be (.frz o u)
variable{P:T3}{w:T5}{h:Heap}
def Rd.ok{u:HO}(r:Rd H a u)(x:HOk P w H h):ObjOk P w H h a u:=by
 rcases r with r|⟨o,r⟩
 .exact x a u r
 .obtain⟨_,q⟩:=x a _ r;exact q
def Mut:Option HO->Prop
 |some (.lst _)=>True
 |some (.dK _)=>True
 |some (.dT _)=>True
 |some (.set _ _)=>True
 |some (.ins _ _ _)=>True
 |some (.ext _)=>True
 |_=>False
section
variable {P:T3}{w:T5}{H:Hp}{h h':Heap}{x e:KF}{o':HO}
def HOk.write(ok:HOk P w H h)(mu:Mut (H x))(he:e=x\/H e=be (.own x))(k:∀b u,b≠e->h.get? b=be u->h'.get? b=be u)(G_:∃u,h'.get? e=be u)
  (new:ObjOk P w (upd H x o') h' x o'):HOk P w (upd H x o') h':=λb u q=>by
 have nown:∀c y,H c=be (.own y)->c≠x:=λc y r z=>by subst z;rw[r]at mu;exact mu
 have NZ:∀c xs,H c=be (.tup xs)->c≠x:=λc xs r z=>by subst z;rw[r]at mu;exact mu
 by_cases hb:b=x
 .subst hb;rw[aA]at q;cases q;exact new
 .rw[ar hb]at q;by_cases La:b=e
  .have q':H b=be (.own x):=by
    rcases he with z|z
    .exact absurd (La.trans z) hb
    .rw[La];exact z
   rw[q]at q';cases q';obtain⟨v,hv⟩:=G_;exact#[v,by rw[La];exact hv]
  .refine(ok b u q).stay (λc v hc r=>k c v ?_ r) (λc r=>by rw[ar (nown c b r)];exact r) λc xs r=>by rw[ar (NZ c xs r)];exact r
   rcases hc with rfl|hc
   .exact La
   .rintro rfl;rcases he with z|z
    .exact nown c b hc z
    .rw[hc]at z;cases z;exact hb rfl
end
structure Un(fs ex:List KF)(H H':Hp)(h h':Heap):Prop where
 keep:∀b o,h.get? b=be o->H b=v7->b∉fs->b∉ex->h'.get? b=be o
 slot:∀b o,h.get? b=be o->H b=v7->b∈fs->b∉ex->∃sl,h'.get? b=be {o with slots:=sl}
 free:∀b o,h.get? b=be o->H b=v7->b∉ex->H' b=v7
 there:∀b o,h.get? b=be o->b∉ex->∃o',h'.get? b=be o'
 tups:∀b xs,H b=be (.tup xs)->H' b=be (.tup xs)
 frzs:∀b o u,H b=be (.frz o u)->H' b=be (.frz o u)
 tbls:∀b ps,H b=be (.tbl ps)->∃more,H' b=be (.tbl (ps++more))
section
variable {fs l7 ex Qh:List KF}{H H1 H2:Hp}{h h1 h2 h':Heap}{a x e:KF}{o:HO}
def Un.any(u:Un fs ex H H1 h h1){b:KF}{ob:Uj}(q:h.get? b=be ob)(n:H b=v7)(hx:b∉ex):∃sl,h1.get? b=be {ob with slots:=sl}:=by
 by_cases hb:b∈fs
 .exact u.slot b ob q n hb hx
 .exact#[ob.slots,u.keep b ob q n hb hx]
def Un.kept(k:∀b u,h.get? b=be u->h'.get? b=be u):Un fs ex H H h h':=
 #[λb ob q _ _ _=>k b ob q,λb ob q _ _ _=>#[ob.slots,k b ob q],λ_ _ _ n _=>n,λb ob q _=>#[ob,k b ob q],λ_ _ q=>q,λ_ _ _ q=>q,λ_ ps q=>#[[].toArray,by rw[q];simp]]
def Un.refl:Un fs ex H H h h:=Un.kept λ_ _ q=>q
def Un.laid(k:∀b u,h.get? b=be u->h'.get? b=be u)(hp:h.objs.size<=a)(hn:H a=v7):Un fs ex H (upd H a o) h h' where
 keep:=λb u q _ _ _=>k b u q
 slot:=λb u q _ _ _=>#[u.slots,k b u q]
 free:=λb u q n _=>by rw[ar (GW (Ha (Heap.lt_size q) hp))];exact n
 there:=λb u q _=>#[u,k b u q]
 tups:=λb xs q=>by rw[ar (bE q hn)];exact q
 frzs:=λb u xs q=>by rw[ar (bE q hn)];exact q
 tbls:=λb ps q=>#[[].toArray,by rw[ar (bE q hn),q];simp]
def Un.write(mu:Mut (H x))(he:e=x\/H e=be (.own x))(k:∀b u,b≠e->h.get? b=be u->h'.get? b=be u)(G_:∃u,h'.get? e=be u):Un fs ex H (upd H x o) h h':=by
 have hx:∀b,H b=v7->b≠x:=λb n z=>by subst z;rw[n]at mu;exact mu
 have hb:∀b,H b=v7->b≠e:=λb n z=>by
  subst z;rcases he with r|r
  .exact hx b n r
  .rw[n]at r;cases r
 have hm:∀b u,H b=be u->¬Mut (be u)->b≠x:=λb u q nm z=>by subst z;rw[q]at mu;exact nm mu
 refine⟨λb u q n _ _=>k b u (hb b n) q,λb u q n _ _=>#[u.slots,k b u (hb b n) q],λb u q n _=>by rw[ar (hx b n)];exact n,λb u q _=>?_,
  λb xs q=>by rw[ar (hm b _ q λz=>z)];exact q,λb u xs q=>by rw[ar (hm b _ q λz=>z)];exact q,λb ps q=>#[[].toArray,by rw[ar (hm b _ q λz=>z),q];simp]⟩
 by_cases La:b=e
 .subst La;exact G_
 .exact#[u,k b u La q]
end
def trk(h:Heap)(H:Hp):List KF:=(GS h.objs.size).filter λa=>(H a).isSome
def hidT(h:Heap)(H:Hp):Heap:=hideAll h (trk h H)
def wt(h:Heap)(H:Hp):(hidT h H).objs.size=h.objs.size:=hideAll_size _ _
def wu{o:Uj}(e:h.get? b=be o)(n:H b=v7):(hidT h H).get? b=be o:=
 hideAll_get _ e λhm=>by
  have q:(H b).isSome=true:=(Jv.mp hm).2;rw[n]at q;simp at q
def wv{o:Uj}(e:(hidT h H).get? b=be o):h.get? b=be o/\H b=none:=by
 have e':h.get? b=be o:=of_hideAll (trk h H) e;refine#[e',?_];cases q:H b with
 |none=>rfl
 |some x=>
  have hm:b∈trk h H:=Jv.mpr #[List.mem_range.mpr (Heap.lt_size e'),by simp[q]];have z:(hidT h H).get? b=none:=hideAll_none (trk h H) hm;rw[z]at e;cases e
structure Mod(K:Ex)(mg:Str->Option KB)(base:Heap):Prop where
 kin:K.In base
 glob:base.Ns Pi mg
 blt:∃mb,base.Ns VQ mb/\∀x:Kq,x≠"__name__"->mb x=Ui x
 nolimit:base.NoLimit
structure Cx where
 prog:T3
 w:T5
 K:Ex
 mg:Kq->Option KB
 base:Heap
 A:T6
 N:List Kq
 s₀:Os
 H₀:Hp
 env:UP
 outer:List UP
 stack:List UP
 ex:List KF
 fn:Kq->Bool
 calm:Bool
 pn:List (KF×Uj)
 xe:KB->Os->Prop
abbrev zSE(X:Cx)(e:SZ)(es:List SZ):Prop:=T7 (e::es) X.env=(false,T_ e X.env)::T7 es X.env
abbrev zPL(X:Cx)(p:Ub)(es:List SZ):Prop:=(UD p (T7 es X.env)).any (·.1)=false
abbrev zHF(X:Cx)(p:Ub)(es:List SZ):Prop:=((UD p (T7 es X.env)).all (λx=>!x.1)&&(UW p (UB [] X.env)).all (λx=>x.1.isSome)&&decide (es.length+([]:List U4).length+(if([]:List U4).isEmpty then 0 else 1)<30))=true
abbrev zFN(X:Cx)(x:Kq):Prop:=X.fn x=true\/X.env.scope.names.lookup x=be .local
abbrev zND(x:Kq):Prop:=(x==("__debug__":Kq))=false
abbrev zNC(x:Kq):Prop:=(x==("__classdict__":Kq))=false
abbrev zFS(X:Cx)(e:SZ)(y:KB):Prop:=VV e X.env y=pure y
def frs(l:List UP):List KF:=l.filterMap (·.frame)
abbrev Cx.fs(X:Cx):List KF:=frs X.outer
def Vis(sc:Uv)(x:Kq):Prop:=sc.names.lookup x=be .local\/sc.names.lookup x=be .cell\/sc.names.lookup x=be .free
def Loc(sc:Uv)(x:Kq):Prop:=sc.names.lookup x=be .local\/sc.names.lookup x=be .cell
def Look(env:UP)(h:Heap)(m:Kq->Option KB)(x:Kq)(u:KB):Prop:=
 (env.kindOf x=be .local/\m x=be u)\/((env.kindOf x=be .cell\/env.kindOf x=be .free)/\∃c,env.cells.lookup x=be c/\h.IsCell c (be u))
structure Cx.Ok(X:Cx):Prop where
 mod:Mod X.K X.mg X.base
 kind:X.env.scope.kind=.function
 glob:X.env.globals=Pi
 blt:X.env.builtins=VQ
 above:X.s₀.heap.objs.size<=X.env.locals
 inj:∀x y c,X.env.cells.lookup x=be c->X.env.cells.lookup y=be c->x=y
 has:∀x,(X.env.kindOf x=be .cell\/X.env.kindOf x=be .free)->∃c,X.env.cells.lookup x=be c
 cab:∀x c,X.fn x=true->X.env.cells.lookup x=be c->X.s₀.heap.objs.size<=c
 hd:X.calm=true->X.A.handled=v7
 frames:X.A.frames=be X.stack
 stk:X.stack=X.outer\/(X.stack=X.env::X.outer/\X.env.frame=be X.env.locals)
 exf:∀b∈X.ex,b≠X.env.locals/\∀x c,X.env.cells.lookup x=be c->c≠b
 bs:∀b o,X.base.get? b=be o->X.s₀.heap.get? b=be o/\X.H₀ b=v7
 bsz:X.base.objs.size<=X.s₀.heap.objs.size
 noex:∀b o,X.base.get? b=be o->b∉X.ex
 exfs:∀b∈X.ex,b∉X.fs
 funs:X.s₀.heap.FunFrames X.base X.outer
 frf:∀b∈X.fs,X.H₀ b=v7
structure Inv(X:Cx)(pins:List (KF×Uj))(σ:List (Option V))(H:Hp)(s:Os):Prop where
 ok:X.Ok
 os:s.os=X.s₀.os
 bare:UT s.gens
 base:Un X.fs X.ex X.H₀ H X.s₀.heap s.heap
 loc:∃m,s.heap.Ns X.env.locals m/\∀(i:Nat) (x:Kq) (v:V),X.N[i]?=be x->σ[i]?=be (be v)->Vis X.env.scope x->∃u,RelV v u/\Look X.env s.heap m x u
 cell:∀x c,X.env.cells.lookup x=be c->∃v,s.heap.IsCell c v
 free:H X.env.locals=v7
 freeC:∀x c,X.env.cells.lookup x=be c->H c=v7
 pin:∀p∈X.pn++pins,s.heap.get? p.1=be p.2/\H p.1=v7/\p.1≠X.env.locals/\p.1∉X.fs/\∀v,p.2.data≠.cell v
 hok:HOk X.prog X.w H s.heap
 len:σ.length=X.N.length
section
variable {X:Cx}{pins:List (KF×Uj)}{σ:List (Option V)}{H H':Hp}{s:Os}{h':Heap}
def Cx.Ok.nofr(ok:X.Ok){b:KF}{o:Uj}(e:X.base.get? b=be o):b∉X.fs:=λhb=>by
 have:=(ok.funs.mem hb).1;rw[e]at this;cases this
def Inv.bs(I:Inv X pins σ H s):∀b o,X.base.get? b=be o->s.heap.get? b=be o/\H b=none:=λb o e=>
 #[I.base.keep b o (I.ok.bs b o e).1 (I.ok.bs b o e).2 (I.ok.nofr e) (I.ok.noex b o e),I.base.free b o (I.ok.bs b o e).1 (I.ok.bs b o e).2 (I.ok.noex b o e)]
def Inv.bk(I:Inv X pins σ H s):∀b o,X.base.get? b=be o->s.heap.get? b=be o:=λb o e=>(I.bs b o e).1
def Inv.mod(I:Inv X pins σ H s):Mod X.K X.mg X.base:=I.ok.mod
def Inv.kIn(I:Inv X pins σ H s):X.K.In s.heap:=I.ok.mod.kin.keeps I.bk
def Inv.lt(I:Inv X pins σ H s):X.env.locals<s.heap.objs.size:=let ⟨_,hn,_⟩:=I.loc;hn.lt
def Inv.sz(I:Inv X pins σ H s):X.s₀.heap.objs.size<=s.heap.objs.size:=GY I.ok.above (Ix I.lt)
def Inv.nofs(I:Inv X pins σ H s){a:KF}(h:s.heap.objs.size<=a):a∉X.fs:=λhb=>by
 obtain⟨_,o,ho,_⟩:=I.ok.funs.mem hb;exact absurd (Ha (Heap.lt_size ho) (GY I.sz h)) (HJ _)
def Inv.cne(I:Inv X pins σ H s):∀x c,X.env.cells.lookup x=be c->c≠X.env.locals:=λx c e z=>by
 obtain⟨v,o,ho,hd⟩:=I.cell x c e;obtain⟨m,⟨o',es,ep,Lb,e_,_⟩,_⟩:=I.loc;rw[z,Lb]at ho;cases ho;rw[e_]at hd;cases hd
def Inv.funs(I:Inv X pins σ H s):s.heap.FunFrames X.base X.outer:=by
 have all:∀(l:List UP),(∀b∈frs l,b∈X.fs)->X.s₀.heap.FunFrames X.base l->s.heap.FunFrames X.base l:=by
  intro l;induction l with
  |nil=>intro _ _;trivial
  |cons env r ih=>
   intro hs hl;obtain⟨hk,⟨L,o,hf,hn,ho,hd⟩,hr⟩:=hl;have hL:L∈X.fs:=hs L (by unfold frs;rw[Iy,hf];exact GU);obtain⟨sl,e⟩:=I.base.slot L o ho (I.ok.frf L hL) hL λz=>I.ok.exfs L z hL;exact#[hk,#[L,_,hf,hn,e,hd],ih (λb hb=>hs b (by unfold frs;rw[Iy,hf];exact GR _ hb)) hr]
 exact all X.outer (λ_ hb=>hb) I.ok.funs
def Inv.stack(I:Inv X pins σ H s):s.heap.FunFrames X.base X.stack:=by
 rcases I.ok.stk with e|⟨e,hf⟩
 .rw[e];exact I.funs
 .rw[e];obtain⟨m,hn,_⟩:=I.loc;refine .cons (by rw[I.ok.kind];decide) hf hn ?_ I.funs;exact Heap.get?_none_of_le (GY I.ok.bsz I.ok.above)
def Inv.stkSub(I:Inv X pins σ H s):∀b∈frs X.stack,b∈X.env.locals::X.fs:=λb hb=>by
 rcases I.ok.stk with e|⟨e,hf⟩
 .rw[e]at hb;exact GR _ hb
 .rw[e]at hb;unfold frs at hb;rw[Iy,hf]at hb;exact hb
def Inv.stkFree(I:Inv X pins σ H s):∀b∈frs X.stack,H b=none:=λb hb=>by
 rcases GP.mp (I.stkSub b hb)with e|hb
 .rw[e];exact I.free
 .obtain⟨_,o,ho,_⟩:=I.ok.funs.mem hb;exact I.base.free b o ho (I.ok.frf b hb) λz=>I.ok.exfs b z hb
variable{g':Array VH}{ch:List KF}
def Inv.step{t':Nat}{d':Drawn}(I:Inv X pins σ H s)
  (H_:∀b∈ch,(b∈X.ex\/X.s₀.heap.objs.size<=b)/\b≠X.env.locals/\(∀x c,X.env.cells.lookup x=be c->c≠b)/\∀p∈X.pn++pins,p.1≠b)
  (keep:∀b o,b≠X.env.locals->b∉X.fs->b∉ch->s.heap.get? b=be o->H b=v7->h'.get? b=be o)
  (slot:∀b o,b≠X.env.locals->b∈X.fs->b∉ch->s.heap.get? b=be o->H b=v7->∃sl,h'.get? b=be {o with slots:=sl}) (free:∀b o,b∉ch->s.heap.get? b=be o->H b=v7->H' b=v7)
  (there:∀b o,b∉ch->s.heap.get? b=be o->∃o',h'.get? b=be o')
  (tups:∀b xs,H b=be (.tup xs)->H' b=be (.tup xs)) (frzs:∀b o u,H b=be (.frz o u)->H' b=be (.frz o u)) (tbls:∀b ps,H b=be (.tbl ps)->∃more,H' b=be (.tbl (ps++more)))
  (ns:∀m,s.heap.Ns X.env.locals m->h'.Ns X.env.locals m) (hok:HOk X.prog X.w H' h') (hg:UT g'):
  Inv X pins σ H' {s with heap:=h',gens:=g',drawn:=d',toks:=t'}:=by
 have Qi:∀b o,X.s₀.heap.get? b=be o->b≠X.env.locals:=λb o e=>GW (Ha (Heap.lt_size e) I.ok.above);have Np:∀b o,X.s₀.heap.get? b=be o->b∉X.ex->b∉ch:=λb o e hx hb=>by
  rcases(H_ b hb).1 with z|z
  .exact hx z
  .exact absurd (Ha (Heap.lt_size e) z) (HJ _)
 have m4:∀x c,X.env.cells.lookup x=be c->∀v,s.heap.IsCell c v->h'.IsCell c v:=λx c e v ⟨o,ho,hd⟩=>by
  have Me:c∉ch:=λz=>(H_ c z).2.2.1 x c e rfl;by_cases hc:c∈X.fs
  .obtain⟨sl,q⟩:=slot c o (I.cne x c e) hc Me ho (I.freeC x c e);exact#[_,q,hd]
  .exact#[o,keep c o (I.cne x c e) hc Me ho (I.freeC x c e),hd]
 refine#[I.ok,I.os,hg,#[λb o e n hb hx=>?_,λb o e n hb hx=>?_,λb o e n hx=>?_,λb o e hx=>?_,λb xs e=>tups b xs (I.base.tups b xs e),λb o xs e=>frzs b o xs (I.base.frzs b o xs e),λb ps e=>?_],?_,λx c e=>?_,?_,λx c e=>?_,λp hp=>?_,hok,I.len]
 .exact keep b o (Qi b o e) hb (Np b o e hx) (I.base.keep b o e n hb hx) (I.base.free b o e n hx)
 .obtain⟨sl,e1⟩:=I.base.slot b o e n hb hx;obtain⟨v4,e2⟩:=slot b _ (Qi b o e) hb (Np b o e hx) e1 (I.base.free b o e n hx);exact#[v4,e2]
 .obtain⟨o',e1⟩:=I.base.there b o e hx;exact free b o' (Np b o e hx) e1 (I.base.free b o e n hx)
 .obtain⟨o',e1⟩:=I.base.there b o e hx;exact there b o' (Np b o e hx) e1
 .obtain⟨m1,e1⟩:=I.base.tbls b ps e;obtain⟨m2,e2⟩:=tbls b _ e1;exact#[m1++m2,by rw[e2,Array.append_assoc]]
 .obtain⟨m,hn,hl⟩:=I.loc;refine#[m,ns m hn,λi x v e1 e2 e3=>?_];obtain⟨u,r,l⟩:=hl i x v e1 e2 e3;refine#[u,r,?_];rcases l with l|⟨k,c,e,z⟩
  .exact .inl l
  .exact .inr #[k,c,e,m4 x c e _ z]
 .obtain⟨v,z⟩:=I.cell x c e;exact#[v,m4 x c e v z]
 .obtain⟨m,⟨o,_,_,ho,_⟩,_⟩:=I.loc;exact free _ o (λz=>(H_ _ z).2.1 rfl) ho I.free
 .obtain⟨v,o,ho,hd⟩:=I.cell x c e;exact free c o (λz=>(H_ c z).2.2.1 x c e rfl) ho (I.freeC x c e)
 .obtain⟨e,n,ne,nf,d⟩:=I.pin p hp;have Me:p.1∉ch:=λz=>(H_ p.1 z).2.2.2 p hp rfl;exact#[keep p.1 p.2 ne nf Me e n,free p.1 p.2 Me e n,ne,nf,d]
def Inv.un{t':Nat}(I:Inv X pins σ H s)(u:Un X.fs [] H H' s.heap h')(hok:HOk X.prog X.w H' h'):Inv X pins σ H' {s with heap:=h',toks:=t'}:=by
 obtain⟨m,⟨o,es,ep,ho,r⟩,_⟩:=id I.loc;obtain⟨sl,hL⟩:=u.any ho I.free Ln;exact I.step (g':=s.gens) (d':=s.drawn) (ch:=[]) (λ_ z=>nomatch z) (λb o _ hb _ e n=>u.keep b o e n hb Ln) (λb o _ hb _ e n=>u.slot b o e n hb Ln) (λb o _ e n=>u.free b o e n Ln) (λb o _ e=>u.there b o e Ln) u.tups u.frzs u.tbls (λm' hm=>by
  obtain⟨o',N1,N2,Lb,r'⟩:=hm;rw[ho]at Lb;cases Lb;exact#[_,N1,N2,hL,r']) hok I.bare
def Inv.call{t':Nat}{d':Drawn}(I:Inv X pins σ H s)(u:Un (frs X.stack) ch H H' s.heap h')(hok:HOk X.prog X.w H' h')(hg:UT g')
  (H_:∀b∈ch,(b∈X.ex\/X.s₀.heap.objs.size<=b)/\b≠X.env.locals/\(∀x c,X.env.cells.lookup x=be c->c≠b)/\∀p∈X.pn++pins,p.1≠b):
  Inv X pins σ H' {s with heap:=h',gens:=g',drawn:=d',toks:=t'}:=by
 obtain⟨m,⟨o,es,ep,ho,r⟩,_⟩:=id I.loc;obtain⟨sl,hL⟩:=u.any ho I.free λz=>(H_ _ z).2.1 rfl;exact I.step (ch:=ch) H_ (λb o hL hb hc e n=>u.keep b o e n (λz=>(GP.mp (I.stkSub b z)).elim hL hb) hc) (λb o _ _ hc e n=>u.any e n hc) (λb o hc e n=>u.free b o e n hc) (λb o hc e=>u.there b o e hc) u.tups u.frzs u.tbls (λm' hm=>by
  obtain⟨o',N1,N2,Lb,r'⟩:=hm;rw[ho]at Lb;cases Lb;exact#[_,N1,N2,hL,r']) hok hg
def Inv.turned{t':Nat}{it:KF}(I:Inv X pins σ H s)(k:∀b o,b≠it->s.heap.get? b=be o->h'.get? b=be o)(hn:H it=v7)(hL:it≠X.env.locals)
  (h1:it∈X.ex\/X.s₀.heap.objs.size<=it) (h2:∀x c,X.env.cells.lookup x=be c->c≠it) (h3:∀p∈X.pn++pins,p.1≠it):Inv X pins σ H {s with heap:=h',toks:=t'}:=by
 have Ld:∀b u,H b=be u->b≠it:=λb u e z=>by rw[z,hn]at e;cases e
 refine I.step (g':=s.gens) (d':=s.drawn) (ch:=[it]) (λb hb=>?_) (λb o _ _ hc e _=>k b o (λz=>hc (by simp[z])) e) (λb o _ _ hc e _=>#[o.slots,k b o (λz=>hc (by simp[z])) e]) (λ_ _ _ _ n=>n)
  (λb o hc e=>#[o,k b o (λz=>hc (by simp[z])) e]) (λ_ _ e=>e) (λ_ _ _ e=>e) (λb ps e=>#[[].toArray,by rw[e];simp]) (λm hm=>?_) (λb u e=>?_) I.bare
 .have e:b=it:=by simpa using hb
  subst e;exact#[h1,hL,h2,h3]
 .obtain⟨o,es,ep,ho,r⟩:=hm;exact#[o,es,ep,k _ o (Ne.symm hL) ho,r]
 .refine(I.hok b u e).stay (λc v hc q=>k c v ?_ q) (λ_ q=>q) λ_ _ q=>q;rcases hc with z|z
  .rw[z];exact Ld b u e
  .exact Ld c _ z
def Inv.tok(I:Inv X pins σ H s)(t:Nat):Inv X pins σ H {s with toks:=t}:=I.un (h':=s.heap) (t':=t) Un.refl I.hok
def Inv.kept{t':Nat}(I:Inv X pins σ H s)(k:∀b u,s.heap.get? b=be u->h'.get? b=be u):Inv X pins σ H {s with heap:=h',toks:=t'}:=I.un (Un.kept k) (I.hok.kept k)
def Inv.laid{a:KF}{o:HO}{t':Nat}(I:Inv X pins σ H s)(k:∀b u,s.heap.get? b=be u->h'.get? b=be u)(hp:s.heap.objs.size<=a)(new:ObjOk X.prog X.w (upd H a o) h' a o):
  Inv X pins σ (upd H a o) {s with heap:=h',toks:=t'}:=I.un (Un.laid k hp (I.hok.fresh hp)) (I.hok.laid k hp new)
def Inv.write{x e:KF}{o:HO}{t':Nat}(I:Inv X pins σ H s)(mu:Mut (H x))(he:e=x\/H e=be (.own x))(k:∀b u,b≠e->s.heap.get? b=be u->h'.get? b=be u)(G_:∃u,h'.get? e=be u)
  (new:ObjOk X.prog X.w (upd H x o) h' x o):Inv X pins σ (upd H x o) {s with heap:=h',toks:=t'}:=I.un (Un.write mu he k G_) (I.hok.write mu he k G_ new)
def Inv.pins_of{KS:List (KF×Uj)}(I:Inv X pins σ H s)(h:∀p∈KS,s.heap.get? p.1=be p.2/\H p.1=v7/\p.1≠X.env.locals/\p.1∉X.fs/\∀v,p.2.data≠.cell v):Inv X KS σ H s:=
 #[I.ok,I.os,I.bare,I.base,I.loc,I.cell,I.free,I.freeC,λp hp=>(Hi.mp hp).elim (λz=>I.pin p (HY _ z)) (h p),I.hok,I.len]
variable{x:Kq}{i:Nat}
def jG{N:List Kq}(hN:N.Nodup){j:Nat}(a:N[i]?=be x)(b:N[j]?=be x):i=j:=by
 obtain⟨h1,e1⟩:=G1.mp a;obtain⟨h2,e2⟩:=G1.mp b;exact(List.getElem_inj hN).mp (e1.trans e2.symm)
variable{E:KB->Os->Prop}{Q:Unit->Os->Prop}
def qr{M:VG}{A:T6}{v:V}{u:KB}(I:Inv X pins σ H s)(hN:X.N.Nodup)(hi:X.N[i]?=be x)(hx:Loc X.env.scope x)(r:RelV v u)
  (h:∀s',Inv X pins (σ.set i (be v)) H s'->(∃a,Heap.SameBut a s.heap s'.heap/\(a=X.env.locals\/X.env.cells.lookup x=be a))->Q () s') (hf:autoParam (zFN X x) zA2):T4 M A (storeName X.env x u) Q E s:=by
 obtain⟨m,hn,hl⟩:=id I.loc;have y9:(X.env.scope.kind== .class||(X.env.scope.kind== .module&&X.env.locals !=X.env.globals))=false:=by rw[I.ok.kind];rfl
 have hiσ:i<σ.length:=by rw[I.len];exact(G1.mp hi).1
 have cne:=I.cne;have ge:∀{a:KF} {h':Heap},(∃o,s.heap.get? a=be o/\H a=v7)->Heap.SameBut a s.heap h'->HOk X.prog X.w H h':=λ{a h'} ha hs b ob e=>by
  obtain⟨_,_,k6⟩:=ha;refine(I.hok b ob e).stay (λc w' hc q=>(hs.2 c ?_).trans q) (λ_ q=>q) λ_ _ q=>q;rintro rfl;rcases hc with rfl|hc
  .rw[k6]at e;cases e
  .rw[k6]at hc;cases hc
 rcases hx with hk|hk
 .refine wpAny_storeName_local hk hn (λh' g8 hs=>?_) y9;obtain⟨oL,_,_,Qj,_⟩:=id hn;refine h _ #[I.ok,I.os,I.bare,#[λb o e n hb hx=>?_,λb o e n hb hx=>?_,I.base.free,λb o e hx=>?_,I.base.tups,I.base.frzs,I.base.tbls],#[_,g8,λj y v' e1 e2 e3=>?_],λy c e=>?_,I.free,I.freeC,λp hp=>?_,ge #[oL,Qj,I.free] hs,by simpa using I.len] #[_,hs,.inl rfl]
  .exact(hs.2 b (GW (Ha (Heap.lt_size e) I.ok.above))).trans (I.base.keep b o e n hb hx)
  .obtain⟨sl,e1⟩:=I.base.slot b o e n hb hx;exact#[sl,(hs.2 b (GW (Ha (Heap.lt_size e) I.ok.above))).trans e1]
  .obtain⟨o',e1⟩:=I.base.there b o e hx;exact#[o',(hs.2 b (GW (Ha (Heap.lt_size e) I.ok.above))).trans e1]
  .by_cases hj:j=i
   .subst hj;rw[hi]at e1;cases e1;rw[Ht hiσ]at e2;cases e2;exact#[u,r,.inl #[hk,Ln]]
   .rw[G2 (Ne.symm hj)]at e2;obtain⟨u',r',q⟩:=hl j y v' e1 e2 e3;refine#[u',r',?_];rcases q with⟨k,e⟩|⟨k,c,e,z⟩
    .refine .inl #[k,?_];have:y≠x:=λe=>hj (jG hN e1 (e ▸ hi));simp[this,e]
    .exact .inr #[k,c,e,z.sameBut hs (cne y c e)]
  .obtain⟨w',z⟩:=I.cell y c e;exact#[w',z.sameBut hs (cne y c e)]
  .obtain⟨e,n,ne,nf,d⟩:=I.pin p hp;exact#[(hs.2 p.1 ne).trans e,n,ne,nf,d]
 .have Mf:X.fn x=true:=by
   rcases hf with z|z
   .exact z
   .rw[z]at hk;cases hk
  obtain⟨c,hc⟩:=I.ok.has x (.inl hk);obtain⟨w',z⟩:=I.cell x c hc;refine wpAny_storeName_cell I.ok.kind hk hc z (λh' KU hs=>?_);obtain⟨oc,Qk,N3⟩:=id z;refine h {s with heap:=h'} #[I.ok,I.os,I.bare,#[λb o e n hb hx=>?_,λb o e n hb hx=>?_,I.base.free,λb o e hx=>?_,I.base.tups,I.base.frzs,I.base.tbls],#[m,hn.sameBut hs (Ne.symm (cne x c hc)),λj y v' e1 e2 e3=>?_],λy c' e=>?_,I.free,I.freeC,λp hp=>?_,ge #[oc,Qk,I.freeC x c hc] hs,by simpa using I.len] #[c,hs,.inr hc]
  .exact(hs.2 b (GW (Ha (Heap.lt_size e) (I.ok.cab x c Mf hc)))).trans (I.base.keep b o e n hb hx)
  .obtain⟨sl,e1⟩:=I.base.slot b o e n hb hx;exact#[sl,(hs.2 b (GW (Ha (Heap.lt_size e) (I.ok.cab x c Mf hc)))).trans e1]
  .obtain⟨o',e1⟩:=I.base.there b o e hx;exact#[o',(hs.2 b (GW (Ha (Heap.lt_size e) (I.ok.cab x c Mf hc)))).trans e1]
  .by_cases hj:j=i
   .subst hj;rw[hi]at e1;cases e1;rw[Ht hiσ]at e2;cases e2;exact#[u,r,.inr #[.inl hk,c,hc,KU]]
   .rw[G2 (Ne.symm hj)]at e2;obtain⟨u',r',q⟩:=hl j y v' e1 e2 e3;refine#[u',r',?_];rcases q with q|⟨k,c',e,z'⟩
    .exact .inl q
    .refine .inr #[k,c',e,z'.sameBut hs ?_];rintro rfl;exact hj (jG hN e1 (I.ok.inj _ _ _ e hc ▸ hi))
  .by_cases Ql:c'=c
   .subst Ql;exact#[_,KU]
   .obtain⟨w2,z2⟩:=I.cell y c' e;exact#[w2,z2.sameBut hs Ql]
  .obtain⟨e,n,ne,nf,d⟩:=I.pin p hp;refine#[(hs.2 p.1 ?_).trans e,n,ne,nf,d];intro q;rw[q,Qk]at e;have q':oc=p.2:=Option.some.inj e;exact d w' (by rw[<-q'];exact N3)
def eF{M:VG}{A:T6}{v:V}{u:KB}(I:Inv X pins σ H s)(hN:X.N.Nodup)(hi:X.N[i]?=be x)(hx:Loc X.env.scope x)(r:RelV v u)
  (h:∀s',Inv X pins (σ.set i (be v)) H s'->Q () s') (hf:autoParam (zFN X x) zA2):T4 M A (storeName X.env x u) Q E s:=
 qr I hN hi hx r (λs' I' _=>h s' I') hf
def Inv.call'{s':Os}(I:Inv X pins σ H s)(ho:s'.os=s.os)(u:Un (frs X.stack) ch H H' s.heap s'.heap)(hok:HOk X.prog X.w H' s'.heap)(hg:UT s'.gens)
  (H_:∀b∈ch,(b∈X.ex\/X.s₀.heap.objs.size<=b)/\b≠X.env.locals/\(∀x c,X.env.cells.lookup x=be c->c≠b)/\∀p∈X.pn++pins,p.1≠b):Inv X pins σ H' s':=by
 obtain⟨h',g',d',t',o'⟩:=s';have e:o'=s.os:=ho;subst e;exact I.call (g':=g') (t':=t') (d':=d') u hok hg H_
end
abbrev XK:=KB->Option KF->Hp->Prop
abbrev St:=List (Option V)
abbrev VK:=V->Hp->Prop
abbrev TE:=St->Hp->VK->Prop
abbrev TT:=St->Hp->(Bool->Hp->Prop)->Prop
abbrev TA:=St->Hp->(List V->Hp->Prop)->Prop
structure Ends where
 nx:St->Hp->Prop
 rt:VK
 bk:St->Hp->Prop:=λ_ _=>False
 ct:St->Hp->Prop:=λ_ _=>False
abbrev TS:=Ends->St->Hp->Prop
def EP(X:Cx)(pins:List (KF×Uj))(σ:St)(Q:VK)(u:KB)(s':Os):Prop:=∃v H',Inv X pins σ H' s'/\RelV v u/\Q v H'
def TP(X:Cx)(pins:List (KF×Uj))(σ:St)(Q:Bool->Hp->Prop)(b:Bool)(s':Os):Prop:=∃H',Inv X pins σ H' s'/\Q b H'
def AP(X:Cx)(pins:List (KF×Uj))(σ:St)(Q:List V->Hp->Prop)(us:List KB)(s':Os):Prop:=∃vs H',Inv X pins σ H' s'/\Vals vs us/\Q vs H'
def SP(X:Cx)(pins:List (KF×Uj))(D:Ends)(f:Flow)(s':Os):Prop:=
 match f with
 |.next=>∃σ' H',Inv X pins σ' H' s'/\D.nx σ' H'
 |.brk=>∃σ' H',Inv X pins σ' H' s'/\D.bk σ' H'
 |.cont=>∃σ' H',Inv X pins σ' H' s'/\D.ct σ' H'
 |.ret u=>∃v σ' H',Inv X pins σ' H' s'/\RelV v u/\D.rt v H'
def PE(X:Cx)(e:SZ)(t:TE):Prop:=
 ∀(pins:List (KF×Uj)) (s:Os) (σ:St) (H:Hp) (Q:VK),Inv X pins σ H s->t σ H Q->T4 (SL X.prog X.w) X.A (T_ e X.env) (EP X pins σ Q) X.xe s
def PT(X:Cx)(e:SZ)(t:TT):Prop:=
 ∀(pins:List (KF×Uj)) (s:Os) (σ:St) (H:Hp) (Q:Bool->Hp->Prop),Inv X pins σ H s->t σ H Q->T4 (SL X.prog X.w) X.A (isTrue e X.env (T_ e X.env)) (TP X pins σ Q) X.xe s
def PW(X:Cx)(e:SZ)(t:TT):Prop:=
 ∀(f6:Vz KB) (pins:List (KF×Uj)) (s:Os) (σ:St) (H:Hp) (Q:Bool->Hp->Prop),Inv X pins σ H s->t σ H Q->T4 (SL X.prog X.w) X.A (isTrue e X.env f6) (TP X pins σ Q) X.xe s
variable{X:Cx}
def PW.pt{e:SZ}{t:TT}(h:PW X e t):PT X e t:=h _
def PA(X:Cx)(es:List SZ)(t:TA):Prop:=
 ∀(pos:Ub) (pins:List (KF×Uj)) (s:Os) (σ:St) (H:Hp) (Q:List V->Hp->Prop),Inv X pins σ H s->t σ H Q->T4 (SL X.prog X.w) X.A (spliced (UD pos (T7 es X.env))) (AP X pins σ Q) X.xe s
def PS(X:Cx)(st:SB)(t:TS):Prop:=
 ∀(pins:List (KF×Uj)) (s:Os) (σ:St) (H:Hp) (D:Ends),Inv X pins σ H s->t D σ H->T4 (SL X.prog X.w) X.A (exec st X.env) (SP X pins D) X.xe s
def PSs(X:Cx)(st:List SB)(t:TS):Prop:=
 ∀(pins:List (KF×Uj)) (s:Os) (σ:St) (H:Hp) (D:Ends),Inv X pins σ H s->t D σ H->T4 (SL X.prog X.w) X.A (execs st X.env) (SP X pins D) X.xe s
variable{A:T6}{E:KB->Os->Prop}{s:Os}
def thn{α:Type}{t:Vz α}{Q Q':α->Os->Prop}{M:VG}(h:T4 M A t Q E s)(hQ:∀a s,Q a s->Q' a s):T4 M A t Q' E s:=Ug h hQ λ_ _ x=>x
section
variable {X:Cx}
def tVar(i:Nat):TE:=λσ H Q=>∃v,σ[i]?=be (be v)/\Q v H
def tC(v:V):TE:=λ_ H Q=>Q v H
variable{x:Kq}{pos:Ub}
def cO{i:Nat}(hN:X.N[i]?=be x)(hv:Vis X.env.scope x)(hd:autoParam (zND x) zA1)(gt:autoParam (zNC x) zA1):PE X (.Name x pos) (tVar i):=by
 intro pins s σ H Q I h;obtain⟨v,e,h⟩:=h;obtain⟨m,hn,hl⟩:=I.loc;obtain⟨u,r,l⟩:=hl i x v hN e hv;have d_:EP X pins σ Q u s:=#[v,H,I,r,h];rcases l with⟨hk,hm⟩|⟨hk,c,hc,m5⟩
 .exact VN (wpAny_loadName_local I.ok.kind hk hn hm d_) hd
 .rcases hk with hk|hk
  .exact VN (wpAny_loadName_cell I.ok.kind hk hc m5 d_) hd
  .exact VN (wpAny_loadName_free I.ok.kind hk hc m5 d_ gt) hd
def ww{i j pos}:PE X (.Constant (.int i) j pos) (tC (.int i)):=λ_ _ _ H _ I h=>wpAny_Constant_int #[.int i,H,I.tok _,#[_,rfl],h]
def wx{b j pos}:PE X (.Constant (.bool b) j pos) (tC (.bl b)):=λ_ _ _ H _ I h=>Constant_bool #[.bl b,H,I,rfl,h]
def wy{j pos}:PE X (.Constant .none j pos) (tC .non):=λ_ _ _ H _ I h=>Constant_none #[.non,H,I,rfl,h]
def qt{x j pos}:PE X (.Constant (.str x) j pos) (tC (.str x)):=λ_ _ _ H _ I h=>Calls.Constant_str #[.str x,H,I.tok _,#[_,rfl],h]
def Gl(X:Cx)(x:Kq):Prop:=X.env.kindOf x=be .globalImplicit
variable{E Q:KB->Os->Prop}{pins:List (KF×Uj)}{u:KB}
def cx{s:Os}{σ:St}{H:Hp}(I:Inv X pins σ H s)(hg:Gl X x)(hm:X.mg x=be u)(h:Q u s)
  (hd:autoParam (zND x) zA1):T4 (SL X.prog X.w) X.A (T_ (.Name x pos) X.env) Q E s:=
 Calls.Name_function_global I.ok.kind hg (Calls.loadGlobal_global (by rw[I.ok.glob];exact I.mod.glob.keeps I.bk) hm h) hd
def dI{s:Os}{σ:St}{H:Hp}(I:Inv X pins σ H s)(hg:Gl X x)(hm:X.mg x=v7)(hv:Ui x=be u)(h:Q u s)
  (hn:autoParam (x≠"__name__") zA1) (hd:autoParam (zND x) zA1):T4 (SL X.prog X.w) X.A (T_ (.Name x pos) X.env) Q E s:=by
 obtain⟨mb,h1,h2⟩:=I.mod.blt;exact Calls.Name_function_global I.ok.kind hg (Calls.loadGlobal_builtin (by rw[I.ok.glob];exact I.mod.glob.keeps I.bk) hm (by rw[I.ok.blt];exact h1.keeps I.bk) ((h2 x hn).trans hv) h) hd
def wz{v:V}(hg:Gl X x)(hm:X.mg x=be u)(r:RelV v u)(hd:autoParam (zND x) zA1):PE X (.Name x pos) (tC v):=
 λ_ _ _ H _ I h=>cx I hg hm #[v,H,I,r,h] hd
def qu{v:V}(hg:Gl X x)(hm:X.mg x=v7)(hv:Ui x=be u)(r:RelV v u)(hn:autoParam (x≠"__name__") zA1)(hd:autoParam (zND x) zA1):PE X (.Name x pos) (tC v):=
 λ_ _ _ H _ I h=>dI I hg hm hv #[v,H,I,r,h] hn hd
variable {a b:SZ}{ta tb:TE}{pos:Ub}
variable {tA Kn:TT}{rest:List SZ}
def tAnd(t u:TT):TT:=λσ H Q=>t σ H λc H1=>if c=true then u σ H1 Q else Q false H1
def tOr(t u:TT):TT:=λσ H Q=>t σ H λc H1=>if c=true then Q true H1 else u σ H1 Q
def tNot(t:TT):TT:=λσ H Q=>t σ H λc H1=>Q (!c) H1
def qv(ha:PT X a tA):PW X (.BoolOp .And [a] pos) tA:=by
 intro wh pins s σ H Q I h;refine isTrue_and (thn (ha pins s σ H Q I h) λc s1 e=>?_);cases c with
 |true=>exact isTrue_and_nil e
 |false=>exact e
def qw(ha:PT X a tA):PW X (.BoolOp .Or [a] pos) tA:=by
 intro wh pins s σ H Q I h;refine isTrue_or (thn (ha pins s σ H Q I h) λc s1 e=>?_);cases c with
 |false=>exact isTrue_or_nil e
 |true=>exact e
def qy(ha:PT X a tA)(hb:PW X (.BoolOp .And (b::rest) pos) Kn):PW X (.BoolOp .And (a::b::rest) pos) (tAnd tA Kn):=by
 intro wh pins s σ H Q I h;refine isTrue_and (thn (ha pins s σ H _ I h) λc s1 b9=>?_);obtain⟨H1,I1,q1⟩:=b9;cases c with
 |true=>exact hb wh pins s1 σ H1 Q I1 q1
 |false=>exact#[H1,I1,q1]
def qz(ha:PT X a tA)(hb:PW X (.BoolOp .Or (b::rest) pos) Kn):PW X (.BoolOp .Or (a::b::rest) pos) (tOr tA Kn):=by
 intro wh pins s σ H Q I h;refine isTrue_or (thn (ha pins s σ H _ I h) λc s1 b9=>?_);obtain⟨H1,I1,q1⟩:=b9;cases c with
 |true=>exact#[H1,I1,q1]
 |false=>exact hb wh pins s1 σ H1 Q I1 q1
def qA(ha:PT X a tA):PT X (.UnaryOp .Not a pos) (tNot tA):=by
 intro pins s σ H Q I h;exact isTrue_not (ha pins s σ H (λc H1=>Q (!c) H1) I h)
def wA(ta tb:TE):TE:=λσ H Q=>ta σ H λx H1=>∃c,x=.bl c/\if c=true then tb σ H1 Q else Q (.bl false) H1
def wB(ta:TE):TE:=λσ H Q=>ta σ H λx H1=>∃c,x=.bl c/\Q (.bl (!c)) H1
def wC{op}{t:TE}(h:PE X a t):PE X (.BoolOp op [a] pos) t:=λpins s σ H Q I hw=>BoolOp_one (h pins s σ H Q I hw)
def wE(ha:PE X a ta)(hb:PE X (.BoolOp .And (b::rest) pos) tb):PE X (.BoolOp .And (a::b::rest) pos) (wA ta tb):=by
 intro pins s σ H Q I h;refine BoolOp_and (thn (ha pins s σ H _ I h) λv s1 b9=>?_);obtain⟨x,H1,I1,r1,q1⟩:=b9;obtain⟨c,rfl,q1⟩:=q1;cases r1;refine UQ ?_;cases c with
 |true=>exact hb pins s1 σ H1 Q I1 q1
 |false=>exact#[.bl false,H1,I1,rfl,q1]
def wF(ha:PE X a ta):PE X (.UnaryOp .Not a pos) (wB ta):=by
 intro pins s σ H Q I h;refine UnaryOp_ (thn (ha pins s σ H _ I h) λv s1 b9=>?_);obtain⟨x,H1,I1,r1,q1⟩:=b9;obtain⟨c,rfl,q1⟩:=q1;cases r1;exact not_of (UQ #[.bl (!c),H1,I1,rfl,q1])
def tIf(t:TT)(ta tb:TE):TE:=λσ H Q=>t σ H λc H1=>if c=true then ta σ H1 Q else tb σ H1 Q
def wG{c:SZ}(hc:PT X c tA)(ha:PE X a ta)(hb:PE X b tb):PE X (.IfExp c a b pos) (tIf tA ta tb):=by
 intro pins s σ H Q I h;refine wpAny_IfExp (thn (hc pins s σ H _ I h) λd s1 b9=>?_);obtain⟨H1,I1,q1⟩:=b9;cases d with
 |true=>exact ha pins s1 σ H1 Q I1 q1
 |false=>exact hb pins s1 σ H1 Q I1 q1
end
def SqL(K:Ex)(H:Hp)(a:KF)(xs:List V):Prop:=
 Rd H a (.lst xs)\/
  ∃(o:Uj) (its:Array KB) (n:Nat),K.lookup a=be o/\o.cls=.type "list"/\o.dict=v7/\o.data=.seq its n/\its.size<=sizeLine/\Vals xs its.toList
def SqT(K:Ex)(H:Hp)(a:KF)(xs:List V):Prop:=
 Rd H a (.tup xs)\/
  ∃(o:Uj) (its:Array KB) (n:Nat),K.lookup a=be o/\o.cls=.type "tuple"/\o.data=.seq its n/\its.size<=sizeLine/\Vals xs its.toList
def absV:KB->Option V
 |.none=>be .non
 |.bool b=>be (.bl b)
 |.int i _=>be (.int i)
 |.str x _=>be (.str x)
 |.bytes b _=>be (.byt b)
 |.float b _=>be (.flt b)
 |.ref a=>be (.ref a)
 |.type n=>be (.ty n)
 |_=>v7
variable{u:KB}
def RelV.abs{x:V}(r:RelV x u):absV u=be x:=by
 cases x with
 |non=>cases r;rfl
 |bl _=>cases r;rfl
 |int _=>obtain⟨t,rfl⟩:=r;rfl
 |str _=>obtain⟨t,rfl⟩:=r;rfl
 |byt _=>obtain⟨t,rfl⟩:=r;rfl
 |flt _=>obtain⟨t,rfl⟩:=r;rfl
 |ref _=>cases r;rfl
 |ty _=>cases r;rfl
def RelV.inj{x y:V}(r:RelV x u)(q:RelV y u):x=y:=Option.some.inj (r.abs.symm.trans q.abs)
def Vals.inj:∀{xs ys:List V} {us:List KB},Vals xs us->Vals ys us->xs=ys:=by
 intro xs ys us h;induction h generalizing ys with
 |nil=>intro g;cases g;rfl
 |cons r _ e=>
  intro g;cases g with
  |cons r' t'=>rw[r.inj r',e t']
section
variable {X:Cx}{pins:List (KF×Uj)}{σ:St}{H:Hp}{s:Os}{a:KF}{xs ys:List V}
def SqL.of{K:Ex}(h:H a=be (.lst xs)):SqL K H a xs:=.inl (.inl h)
def SqT.of{K:Ex}(h:H a=be (.tup xs)):SqT K H a xs:=.inl (.inl h)
def Inv.list(I:Inv X pins σ H s)(h:SqL X.K H a xs):∃its:List KB,Vals xs its/\PlainL s.heap a its.toArray/\xs.length<=sizeLine:=by
 rcases h with h|⟨o,its,n,hk,hc,hd,hs,hz,r⟩
 .obtain⟨z,its,n,r,e⟩:=h.ok I.hok;exact#[its,r,#[_,n,e,rfl,rfl,rfl],z]
 .refine#[its.toList,r,#[o,n,I.kIn a o hk,hc,hd,by simpa using hs],?_];have e:=r.length;simp only[Iz]at e;lia
def Inv.tuple(I:Inv X pins σ H s)(h:SqT X.K H a xs):∃its:List KB,Vals xs its/\IsTup s.heap a its.toArray/\xs.length<=sizeLine:=by
 rcases h with h|⟨o,its,n,hk,hc,hs,hz,r⟩
 .obtain⟨z,its,r,p⟩:=h.ok I.hok;exact#[its,r,p,z]
 .refine#[its.toList,r,#[o,I.kIn a o hk,hc,n,by simpa using hs],?_];have e:=r.length;simp only[Iz]at e;lia
def Inv.list_inj(I:Inv X pins σ H s)(h:SqL X.K H a xs)(h':SqL X.K H a ys):xs=ys:=by
 obtain⟨its,r,⟨o,n,e,_,_,d⟩,_⟩:=I.list h;obtain⟨its',r',⟨o',n',e',_,_,d'⟩,_⟩:=I.list h';rw[e]at e';cases e';rw[d]at d';injection d' with d1 _;have:its=its':=by simpa using congrArg Array.toList d1
 subst this;exact r.inj r'
end
abbrev Cx.wish(X:Cx)(E:KB->Os->Prop):Cx:={X with xe:=E}
abbrev Cx.nox(X:Cx):Cx:=X.wish λ_ _=>False
def Cx.Ok.wish(ok:X.Ok)(E:KB->Os->Prop):(X.wish E).Ok:=
 #[ok.mod,ok.kind,ok.glob,ok.blt,ok.above,ok.inj,ok.has,ok.cab,ok.hd,ok.frames,ok.stk,ok.exf,ok.bs,ok.bsz,ok.noex,ok.exfs,ok.funs,ok.frf]
def Cx.Ok.unwish(ok:(X.wish E).Ok):X.Ok:=
 #[ok.mod,ok.kind,ok.glob,ok.blt,ok.above,ok.inj,ok.has,ok.cab,ok.hd,ok.frames,ok.stk,ok.exf,ok.bs,ok.bsz,ok.noex,ok.exfs,ok.funs,ok.frf]
section
variable {X:Cx}{pins:List (KF×Uj)}{σ:St}{H:Hp}{s:Os}{E:KB->Os->Prop}
def Inv.wish(I:Inv X pins σ H s)(E:KB->Os->Prop):Inv (X.wish E) pins σ H s:=#[I.ok.wish E,I.os,I.bare,I.base,I.loc,I.cell,I.free,I.freeC,I.pin,I.hok,I.len]
def Inv.unwish(I:Inv (X.wish E) pins σ H s):Inv X pins σ H s:=#[I.ok.unwish,I.os,I.bare,I.base,I.loc,I.cell,I.free,I.freeC,I.pin,I.hok,I.len]
def SP.unwish{D:Ends}{f:Flow}{s':Os}(h:SP (X.wish E) pins D f s'):SP X pins D f s':=by
 cases f with
 |next=>obtain⟨σ',H',I,q⟩:=h;exact#[σ',H',I.unwish,q]
 |brk=>obtain⟨σ',H',I,q⟩:=h;exact#[σ',H',I.unwish,q]
 |cont=>obtain⟨σ',H',I,q⟩:=h;exact#[σ',H',I.unwish,q]
 |ret u=>obtain⟨v,σ',H',I,r,q⟩:=h;exact#[v,σ',H',I.unwish,r,q]
def PSs.nox{st:List SB}{t:TS}(h:PSs X.nox st t):PSs X st t:=λpins s σ H D I hw=>
 Ug (h pins s σ H D (I.wish _) hw) (λ_ _ q=>q.unwish) λ_ _ z=>False.elim z
end
section
variable {X:Cx}{st:SB}{rest:List SB}{t u:TS}{e:SZ}{te:TE}{pos:Ub}
def wH:TS:=λD σ H=>D.nx σ H
def tSeq(t u:TS):TS:=λD σ H=>t {D with nx:=u D} σ H
def pss_nil:PSs X [] wH:=λ_ _ σ H _ I h=>UM #[σ,H,I,h]
def eI(h1:PS X st t)(h2:PSs X rest u):PSs X (st::rest) (tSeq t u):=by
 intro pins s σ H D I h;refine wpAny_execs_cons (thn (h1 pins s σ H {D with nx:=u D} I h) λf s1 q=>?_);cases f with
 |next=>
  obtain⟨σ',H',I',q⟩:=q;exact h2 pins s1 σ' H' D I' q
 |ret v=>exact q
 |brk=>exact q
 |cont=>exact q
def qB(h1:PS X st t):PSs X [st] t:=by
 intro pins s σ H D I h;refine wpAny_execs_cons (thn (h1 pins s σ H D I h) λf s1 q=>?_);cases f with
 |next=>exact UM q
 |ret v=>exact q
 |brk=>exact q
 |cont=>exact q
def Inv.quiet{pins:List (KF×Uj)}{σ:St}{H:Hp}{s:Os}(I:Inv X pins σ H s):interactive X.env=false:=by simp[interactive,I.ok.kind]
def wI(te:TE):TS:=λD σ H=>te σ H λ_ H1=>D.nx σ H1
def jH(he:PE X e te)(hs:autoParam (Uh e v7 pos.line X.env=pure false) zA0):PS X (.Expr e pos) (wI te):=by
 intro pins s σ H D I h;exact wpAny_Expr_any (thn (he pins s σ H _ I h) λv s1 ⟨x,H1,I1,r1,q1⟩=>#[σ,H1,I1,q1]) I.quiet hs
def tRet(te:TE):TS:=λD σ H=>te σ H D.rt
def qC(he:PE X e te):PS X (.Return (be e) pos) (tRet te):=by
 intro pins s σ H D I h;exact wpAny_Return_some (thn (he pins s σ H _ I h) λv s1 ⟨x,H1,I1,r1,q1⟩=>#[x,σ,H1,I1,r1,q1])
def tIfS(c:TT)(t u:TS):TS:=λD σ H=>c σ H λb H1=>if b=true then t D σ H1 else u D σ H1
def qD{c:SZ}{a b:List SB}{tc:TT}(hc:PT X c tc)(ha:PSs X a t)(hb:PSs X b u):PS X (.If c a b pos) (tIfS tc t u):=by
 intro pins s σ H D I h;refine wpAny_If (thn (hc pins s σ H _ I h) λd s1 b9=>?_);obtain⟨H1,I1,q1⟩:=b9;cases d with
 |true=>exact ha pins s1 σ H1 D I1 q1
 |false=>exact hb pins s1 σ H1 D I1 q1
def wJ:TS:=λ_ _ _=>False
def ps_never:PS X st wJ:=λ_ _ _ _ _ _ h=>h.elim
end
abbrev TG:=V->St->Hp->(St->Hp->Prop)->Prop
abbrev TGs:=List V->St->Hp->(St->Hp->Prop)->Prop
def PG(X:Cx)(g6:SZ)(t:TG):Prop:=
 ∀(pins:List (KF×Uj)) (s:Os) (σ:St) (H:Hp) (v:V) (u:KB) (Q:St->Hp->Prop),Inv X pins σ H s->RelV v u->t v σ H Q->
  T4 (SL X.prog X.w) X.A (UG g6 X.env u) (λ_ s'=>∃σ' H',Inv X pins σ' H' s'/\Q σ' H') X.xe s
def PGs(X:Cx)(ts:List SZ)(t:TGs):Prop:=
 ∀(pins:List (KF×Uj)) (s:Os) (σ:St) (H:Hp) (vs:List V) (us:List KB) (Q:St->Hp->Prop),Inv X pins σ H s->Vals vs us->t vs σ H Q->
  T4 (SL X.prog X.w) X.A (Vm ((T8 ts X.env).map (·.2)) us) (λ_ s'=>∃σ' H',Inv X pins σ' H' s'/\Q σ' H') X.xe s
abbrev TSet:=V->V->V->Hp->(Hp->Prop)->Prop
def PSet(X:Cx)(t:TSet):Prop:=
 ∀(pins:List (KF×Uj)) (s:Os) (σ:St) (H:Hp) (o i v:V) (ov iv u:KB) (Q:Hp->Prop),Inv X pins σ H s->RelV o ov->RelV i iv->RelV v u->t o i v H Q->
  T4 (SL X.prog X.w) X.A (Vt ov iv u) (λ_ s'=>∃H',Inv X pins σ H' s'/\Q H') X.xe s
abbrev TIp:=V->V->Hp->VK->Prop
def PIp(X:Cx)(op:Vk)(t:TIp):Prop:=
 ∀(pins:List (KF×Uj)) (s:Os) (σ:St) (H:Hp) (x y:V) (v u:KB) (Q:VK),Inv X pins σ H s->RelV x v->RelV y u->t x y H Q->
  T4 (SL X.prog X.w) X.A (inplaceOp op v u) (EP X pins σ Q) X.xe s
section
variable {X:Cx}{pos:Ub}
def fM(i:Nat):TG:=λv σ H Q=>Q (σ.set i (be v)) H
variable{i:Nat}{x:Kq}
def dJ(hN:X.N.Nodup)(hi:X.N[i]?=be x)(hx:Loc X.env.scope x)(hf:autoParam (zFN X x) zA2):PG X (.Name x pos) (fM i):=by
 intro pins s σ H v u Q I r h;exact U7 (eF I hN hi hx r (λs' I'=>#[_,H,I',h]) hf)
def gNil:TGs:=λvs σ H Q=>vs=[]/\Q σ H
def wK(t:TG)(u:TGs):TGs:=λvs σ H Q=>∃v r,vs=v::r/\t v σ H λσ' H'=>u r σ' H' Q
def wL:PGs X [] gNil:=by
 intro pins s σ H vs us Q I r h;obtain⟨e,h⟩:=h;subst e;cases r;exact VW #[σ,H,I,h]
variable{e:SZ}{es:List SZ}
def wM{t:TG}{u:TGs}(h1:PG X e t)(h2:PGs X es u)
  (hs:autoParam ((T8 (e::es) X.env).map (·.2)=UG e X.env::(T8 es X.env).map (·.2)) zA0):PGs X (e::es) (wK t u):=by
 intro pins s σ H vs us Q I r h;obtain⟨v,vr,e1,h⟩:=h;subst e1;cases r with
 |cons r rr=>
  rw[hs];refine U6 (thn (h1 pins s σ H _ _ _ I r h) λ_ s1 b9=>?_);obtain⟨σ1,H1,I1,q1⟩:=b9;exact h2 pins s1 σ1 H1 _ _ Q I1 rr q1
def gTup(K:Ex)(n:Nat)(t:TGs):TG:=λv σ H Q=>∃a xs,v=.ref a/\SqT K H a xs/\xs.length=n/\t xs σ H Q
def gE{k:Nat}{t:TGs}{n:Nat}(hc:X.calm=true)(h:PGs X es t)
  (hn:autoParam ((T8 es X.env).length=n) zA0) (k9:autoParam ((T8 es X.env).findIdx? (·.1)=none) zA0):PG X (.Tuple es k pos) (gTup X.K n t):=by
 intro pins s σ H v u Q I r hw;obtain⟨a,xs,e1,hq,hl,hw⟩:=hw;subst e1;cases r;obtain⟨its,rv,ht,hz⟩:=I.tuple hq;refine assign_Tuple_tuple (I.ok.hd hc) ht (by simp[hn,<-hl,rv.length]) k9 λh' hx=>?_;have I1:Inv X pins σ H {s with heap:=h'}:=I.kept (t':=s.toks) λb o e=>hx b o (GW (Heap.lt_size e)) e;exact h pins _ σ H xs _ Q I1 (by simpa using rv) hw
def gSub(to ti:TE)(t:TSet):TG:=λv σ H Q=>to σ H λo H1=>ti σ H1 λi H2=>t o i v H2 λH3=>Q σ H3
def wO{o i:SZ}{to ti:TE}{t:TSet}(ho:PE X o to)(hi:PE X i ti)(hs:PSet X t)
  (ha:∀v,UG (.Subscript o i pos) X.env v=(do
   let ov <-Uu [v] (T_ o X.env)
   let iv <-Uu [v,ov] (T_ i X.env)
   UO pos
   Uu [v,ov,iv] (Vt ov iv v)
   VT [v,ov,iv] []):=by intro _;rfl):PG X (.Subscript o i pos) (gSub to ti t):=by
 intro pins s σ H v u Q I r h;rw[ha];refine KM (Up (thn (ho pins s σ H _ I h) λov s1 b9=>?_));obtain⟨x,H1,I1,r1,q1⟩:=b9;refine KM (Up (thn (hi pins s1 σ H1 _ I1 q1) λiv s2 b9=>?_));obtain⟨y,H2,I2,r2,q2⟩:=b9;refine KM (Uw (KM (Up (thn (hs pins s2 σ H2 x y v ov iv u _ I2 r1 r2 r q2) λ_ s3 b9=>?_))));obtain⟨H3,I3,q3⟩:=b9;exact wpAny_release #[σ,H3,I3,q3]
def tAsg(te:TE)(g:TG):TS:=λD σ H=>te σ H λx H1=>g x σ H1 D.nx
variable{te:TE}
def gG{tg:SZ}{g:TG}(he:PE X e te)(hg:PG X tg g)(hs:autoParam (Ux [tg] e pos.line X.env=pure false) zA0)(hw:autoParam (Uy [tg] e X.env=pure none) zA0)
  (h1:autoParam ((T8 [tg] X.env).map (·.2)=[UG tg X.env]) zA0):PS X (.Assign [tg] e pos) (tAsg te g):=by
 intro pins s σ H D I h;refine wpAny_Assign_stores (thn (he pins s σ H _ I h) λv s1 hh=>?_) hs hw;obtain⟨x,H1,I1,r1,q1⟩:=hh;rw[h1];exact thn (hg pins s1 σ H1 x v _ I1 r1 q1) λ_ s2 q=>q
def gH{b_:Ub}(hN:X.N.Nodup)(hi:X.N[i]?=be x)(hx:Loc X.env.scope x)(he:PE X e te)(hs:autoParam (Uh e (be (.Name x b_)) pos.line X.env=pure false) zA0)(hf:autoParam (zFN X x) zA2):
  PS X (.Assign [.Name x b_] e pos) (tAsg te (fM i)):=by
 intro pins s σ H D I h;refine wpAny_Assign_Name (thn (he pins s σ H _ I h) λv s1 hh=>?_) hs;obtain⟨y,H1,I1,r1,q1⟩:=hh;exact eF I1 hN hi hx r1 (λs2 I2=>#[_,H1,I2,q1]) hf
def tPar(i j:Nat)(ta:TA):TS:=λD σ H=>ta σ H λvs H1=>∃v w,vs=[v,w]/\D.nx ((σ.set i (be v)).set j (be w)) H1
def wP{j:Nat}{y:Kq}{a b:SZ}{ta:TA}{px py pt:Ub}{kt k2 Le}(hc:X.calm=true)(hN:X.N.Nodup)(hi:X.N[i]?=be x)(hj:X.N[j]?=be y)(N4:i≠j)
  (hx:X.env.scope.names.lookup x=be .local) (hy:X.env.scope.names.lookup y=be .local) (ha:PA X [a,b] ta)
  (hw:Uy [.Tuple [.Name x px,.Name y py] kt pt] (.Tuple [a,b] k2 Le) X.env=pure (be [x,y]))
  (hs:autoParam (Ux [.Tuple [.Name x px,.Name y py] kt pt] (.Tuple [a,b] k2 Le) pos.line X.env=pure false) zA0):
  PS X (.Assign [.Tuple [.Name x px,.Name y py] kt pt] (.Tuple [a,b] k2 Le) pos) (tPar i j ta):=by
 intro pins s σ H D I h;rw[exec_Assign_arm];refine KM (Uw ?_);rw[hs];refine KM (P3 ?_);rw[if_neg Lj];refine KM (Tuple_ (thn (ha _ pins s σ H _ I h) λus s1 b9=>?_));obtain⟨vs,H1,I1,r1,q1⟩:=b9;obtain⟨v,w,e1,q1⟩:=q1;subst e1;obtain⟨u1,u2,rfl,rv,h_⟩:∃u1 u2,us=[u1,u2]/\RelV v u1/\RelV w u2:=by
  cases r1 with
  |cons p q=>
   cases q with
   |cons p' q'=>
    cases q';exact#[_,_,rfl,p,p']
 refine Ue ?_ (by show 2<=sizeLine;decide);have I2:Inv X pins σ H1 {s1 with heap:=s1.heap.push {cls:=.type "tuple",data:=.seq [u1,u2].toArray} }:=I1.kept (t':=s1.toks) λb o e=>Heap.get?_push_of_some _ e;rw[hw];refine KM (P3 ?_);show T4 (SL X.prog X.w) X.A (do rule "assign.swapped-stores";let items <-unpackItems (.ref s1.heap.objs.size) 2 v7;Vm [λv=>Vj X.env y v,λv=>Vj X.env x v] items.reverse;pure Flow.next) _ _ _;refine KM (VL (KM (unpackItems_tuple (items:=[u1,u2].toArray) (I.ok.hd hc) (IsTup.new s1.heap _) λh' f7=>?_)));have I3:=I2.kept (h':=h') (t':=s1.toks) λb o e=>f7 b o (GW (Heap.lt_size e)) e;show T4 _ _ (Vm [λv=>Vj X.env y v,λv=>Vj X.env x v] [u2,u1]>>=λ_=>pure Flow.next) _ _ _;refine KM (U6 (wpAny_bindName (eF I3 hN hj (.inl hy) h_ (λs2 I4=>?_) (.inr hy))));refine U6 (wpAny_bindName (eF I4 hN hi (.inl hx) rv (λs3 I5=>VW (P3 ?_)) (.inr hx)));rw[List.set_comm _ _ (Ne.symm N4)]at I5;exact#[_,H1,I5,q1]
def wQ(to ti te:TE)(Ko:V->V->Hp->VK->Prop)(Nq:TIp)(Kp:TSet):TS:=λD σ H=>to σ H λo H1=>ti σ H1 λi H2=>Ko o i H2 λx H3=>te σ H3 λy H4=>Nq x y H4 λz H5=>Kp o i z H5 λH6=>D.nx σ H6
def PGet(X:Cx)(t:V->V->Hp->VK->Prop):Prop:=
 ∀(pins:List (KF×Uj)) (s:Os) (σ:St) (H:Hp) (o i:V) (ov iv:KB) (Q:VK),Inv X pins σ H s->RelV o ov->RelV i iv->t o i H Q->
  T4 (SL X.prog X.w) X.A (Ve ov iv) (EP X pins σ Q) X.xe s
def wR{o i:SZ}{to ti:TE}{Ko:V->V->Hp->VK->Prop}{Nq:TIp}{Kp:TSet}{op:Vk}{Mg:Ub}(ho:PE X o to)(hi:PE X i ti)(hg:PGet X Ko)(he:PE X e te)(hp:PIp X op Nq)(hs:PSet X Kp)
  (ha:autoParam (∀ov iv new,augStore i ov iv new=(do Uu [new,ov,iv] (Vt ov iv new);VT [new,ov,iv] [];pure .next)) zA7):PS X (.AugAssign (.Subscript o i Mg) op e pos) (wQ to ti te Ko Nq Kp):=by
 intro pins s σ H D I h;refine wpAny_AugAssign_SubscriptAny (thn (ho pins s σ H _ I h) λov s1 hh=>?_) ha;obtain⟨x1,H1,I1,r1,q1⟩:=hh;refine thn (hi pins s1 σ H1 _ I1 q1) λiv s2 b9=>?_;obtain⟨x2,H2,I2,r2,q2⟩:=b9;refine thn (hg pins s2 σ H2 x1 x2 ov iv _ I2 r1 r2 q2) λd7 s3 b9=>?_;obtain⟨x3,H3,I3,r3,q3⟩:=b9;refine thn (he pins s3 σ H3 _ I3 q3) λv s4 b9=>?_;obtain⟨x4,H4,I4,r4,q4⟩:=b9;refine thn (hp pins s4 σ H4 x3 x4 d7 v _ I4 r3 r4 q4) λnew s5 b9=>?_;obtain⟨x5,H5,I5,r5,q5⟩:=b9;exact thn (hs pins s5 σ H5 x1 x2 x5 ov iv new _ I5 r1 r2 r5 q5) λ_ s6 ⟨H6,I6,q6⟩=>#[σ,H6,I6,q6]
def ipI(f:Int->Int->Int):TIp:=λx y H Q=>∃i j,x=.int i/\y=.int j/\Q (.int (f i j)) H
def wS:PIp X .Add (ipI λi j=>i+j):=by
 intro pins s σ H x y v u Q I r1 r2 h;obtain⟨i,j,e1,e2,q⟩:=h;subst e1;subst e2;obtain⟨t,rfl⟩:=r1;obtain⟨t',rfl⟩:=r2;exact iadd_int #[.int _,H,I.tok _,#[_,rfl],q]
def wT(c:TT)(tb:TS):TS:=λD σ H=>∃W:Nat->St->Hp->Prop,(∃m,W m σ H)/\∀m σ H,W m σ H->
 c σ H λb H1=>if b=true then ∃N:St->Hp->Prop,(∀σ' H',N σ' H'->∃m',m'<m/\W m' σ' H')/\tb {D with nx:=N,ct:=N,bk:=D.nx} σ H1 else D.nx σ H1
def qE{c:SZ}{body:List SB}{tc:TT}{tb:TS}(hp:Um (SL X.prog X.w) X.A X.env X.xe)(hc:PT X c tc)(hb:PSs X body tb):PS X (.While c body [] pos) (wT tc tb):=by
 intro pins s σ H D I h;obtain⟨W,⟨m0,w0⟩,c5⟩:=h;refine wpAny_While (codeAny_whileLoop (λn s'=>∃σ' H',Inv X pins σ' H' s'/\W n σ' H') ?_ m0 #[σ,H,I,w0]);rintro n s1⟨σ1,H1,I1,w1⟩;refine Ur hp (thn (hc pins s1 σ1 H1 _ I1 (c5 n σ1 H1 w1)) λb s2 b9=>?_);obtain⟨H2,I2,q2⟩:=b9;cases b with
 |true=>
  obtain⟨N,hN,q2⟩:=q2;rw[if_pos rfl];refine Ur hp (thn (hb pins s2 σ1 H2 _ I2 q2) λf s3 q3=>?_);cases f with
  |next=>
   obtain⟨σ3,H3,I3,n3⟩:=q3;obtain⟨m',hm,w3⟩:=hN σ3 H3 n3;exact#[m',hm,σ3,H3,I3,w3]
  |cont=>
   obtain⟨σ3,H3,I3,n3⟩:=q3;obtain⟨m',hm,w3⟩:=hN σ3 H3 n3;exact#[m',hm,σ3,H3,I3,w3]
  |brk=>exact q3
  |ret v=>exact q3
 |false=>
  rw[if_neg G3];exact UM #[σ1,H2,I2,q2]
end
structure It where
 go:Nat->Hp->Prop
 yld:Nat->Hp->V->Hp->Prop
 stop:Nat->Hp->Prop
def FpOk(X:Cx)(pins:List (KF×Uj))(H:Hp)(b:KF):Prop:=
 H b=v7/\b≠X.env.locals/\b∉X.fs/\(b∈X.ex\/X.s₀.heap.objs.size<=b)/\(∀x c,X.env.cells.lookup x=be c->c≠b)/\∀p∈X.pn++pins,p.1≠b
variable{σ:St}
def Inv.fpOk{pins:List (KF×Uj)}{H':Hp}(I:Inv X pins σ H s)(hb:s.heap.objs.size<=b)(hn:H' b=v7):FpOk X pins H' b:=by
 refine#[hn,HB (Ha I.lt hb),I.nofs hb,.inr (GY I.sz hb),λx c e z=>?_,λp hp z=>?_]
 .obtain⟨v,q⟩:=I.cell x c e;exact absurd (Ha q.lt (by rw[z];exact hb)) (HJ _)
 .exact absurd (Ha (Heap.lt_size (I.pin p hp).1) (by rw[z];exact hb)) (HJ _)
structure Turn(P:T3)(w:T5)(K:Ex)(tg:SZ)(J:It)(fp:List KF)(it:KF)(tn:Nat->Heap->Prop):Prop where
 mem:it∈fp
 obj:∀i h,tn i h->∀b∈fp,∃o,h.get? b=be o/\∀v,o.data≠.cell v
 keep:∀i h h',tn i h->(∀b∈fp,∀o,h.get? b=be o->h'.get? b=be o)->tn i h'
 item:∀(X:Cx),X.prog=P->X.w=w->X.K=K->X.calm=true->∀(i:Nat) (pins:List (KF×Uj)) (s:Os) (σ:St) (H:Hp) (E:KB->Os->Prop),Inv X pins σ H s->(∀b∈fp,FpOk X pins H b)->tn i s.heap->J.go i H->
  T4 (SL P w) X.A (pyNext (.ref it)) (λr s1=>∃u,r=be u/\
   T4 (SL P w) X.A (U0 tg (.ref it) u) (λ_ s2=>∃x H',Inv X pins σ H' s2/\RelV x u/\J.yld i H x H'/\tn (i+1) s2.heap/\∀b∈fp,H' b=v7) E s1) E s
 done:∀(X:Cx),X.prog=P->X.w=w->X.K=K->X.calm=true->∀(i:Nat) (pins:List (KF×Uj)) (s:Os) (σ:St) (H:Hp) (E:KB->Os->Prop),Inv X pins σ H s->(∀b∈fp,FpOk X pins H b)->tn i s.heap->J.stop i H->
  T4 (SL P w) X.A (pyNext (.ref it)) (λr s1=>r=v7/\Inv X pins σ H s1) E s
 self:∀(A:T6) (i:Nat) (s:Os) (Q:KB->Os->Prop) (E:KB->Os->Prop),tn i s.heap->Q (.ref it) s->T4 (SL P w) A (pyIter (.ref it)) Q E s
abbrev TI:=St->Hp->(It->Hp->Prop)->Prop
def PIE(X:Cx)(pins:List (KF×Uj))(σ:St)(tg:SZ)(R:It->Hp->Prop)(Nr:KB)(s2:Os):Prop:=
 ∃(it:KF) (fp:List KF) (tn:Nat->Heap->Prop) (J:It) (H':Hp),Nr=.ref it/\Inv X pins σ H' s2/\Turn X.prog X.w X.K tg J fp it tn/\tn 0 s2.heap/\(∀b∈fp,FpOk X pins H' b)/\R J H'
def PI(X:Cx)(tg iter:SZ)(wi:TI):Prop:=
 ∀(pins:List (KF×Uj)) (s:Os) (σ:St) (H:Hp) (R:It->Hp->Prop),Inv X pins σ H s->wi σ H R->
  T4 (SL X.prog X.w) X.A (T_ iter X.env) (λv s1=>T4 (SL X.prog X.w) X.A (pyIter v) (PIE X pins σ tg R) X.xe s1) X.xe s
variable{tg:SZ}
def jI{M:VG}{it:KF}{o:Uj}{n:String}{vs:Array KB}{Q:Unit->Os->Prop}(ho:s.heap.get? it=be o)(hc:o.cls=.type n)(hd:o.data=.fields vs)
    (hn:["enumerate","zip","dict_itemiterator","dict_reverseitemiterator","odict_iterator","itertools.zip_longest","itertools.pairwise"].contains n=false) (hQ:Q () s):T4 M A (U0 tg (.ref it) u) Q E s:=by
  unfold U0;cases tg<;>first
    |exact P3 hQ
    |(cases u<;>first
        |exact P3 hQ
        |( refine KM (wpAny_load ho ?_)
           rw[hc,hd];show T4 M A (if(["enumerate","zip","dict_itemiterator","dict_reverseitemiterator","odict_iterator","itertools.zip_longest","itertools.pairwise"].contains n&&vs[0]?==be (UX _))=true then _ else _) Q E s;rw[if_neg (by intro h;rw[hn,Bool.false_and]at h;cases h)];exact P3 hQ))
def Itl(K:Ex)(a:KF):It:=
 #[λi H=>∃xs x,SqL K H a xs/\xs[i]?=be x,λi H x H'=>H'=H/\∀xs,SqL K H a xs->xs[i]?=be x,λi H=>∃xs,SqL K H a xs/\xs.length<=i]
def Itr(lo:Int)(n:Nat):It:=#[λi _=>i<n,λi H x H'=>H'=H/\x=.int (lo+i),λi _=>n<=i]
variable{K:Ex}
def wU(a it:KF):Turn P w K tg (Itl K a) [it] it (λi h=>h.IsListIter it a i) where
 mem:=Ln
 obj:=λi h st b hb=>by
  have e:b=it:=by simpa using hb
  subst e;obtain⟨o,e,c,d⟩:=st;exact#[o,e,λv z=>by rw[d]at z;cases z]
 keep:=λi h h' st k=>st.at λo e=>k it Ln o e
 item:=by
  intro X hP hw hK hc i pins s σ H E I hf st hg;subst hP hw hK;obtain⟨xs,x,hq,hx⟩:=hg;obtain⟨its,rv,p,hz⟩:=I.list hq;obtain⟨u,hu,ru⟩:=rv.get hx;obtain⟨f0,f1,f2,f3,f4,f5⟩:=hf it Ln;refine wpAny_pyNext_list_item st p.isList (x:=u) (by simpa using hu) λh' v5 sb=>?_;have I1:Inv X pins σ H {s with heap:=h'}:=I.turned (t':=s.toks) (λb o hb e=>(sb.2 b hb).trans e) f0 f1 f3 f4 f5;obtain⟨o,e,c,d⟩:=id v5;exact#[u,rfl,jI (s:={s with heap:=h'}) e c d Lj #[x,H,I1,ru,#[rfl,λys hy=>by rw[I.list_inj hy hq];exact hx],v5,λb hb=>(hf b hb).1]]
 done:=by
  intro X hP hw hK hc i pins s σ H E I hf st hg;subst hP hw hK;obtain⟨xs,hq,hx⟩:=hg;obtain⟨its,rv,p,hz⟩:=I.list hq;obtain⟨f0,f1,f2,f3,f4,f5⟩:=hf it Ln;have hl:=rv.length;exact wpAny_pyNext_list_end (I.ok.hd hc) st p.isList Ta λh' eb=>#[rfl,I.turned (t':=s.toks) (λb o hb e=>eb b o hb e) f0 f1 f3 f4 f5]
 self:=λ_ _ _ _ _ st h=>wpAny_pyIter_listiter st h
def wV(it:KF)(lo:Int)(n:Nat):Turn P w K tg (Itr lo n) [it] it (λi h=>IsRangeIter h it (lo+(i:Nat)*1) ((n:Int)-(i:Nat)) 1) where
 mem:=Ln
 obj:=λi h st b hb=>by
  have e:b=it:=by simpa using hb
  subst e;exact⟨_,st,λv z=>by
   have z':Data.fields _=Data.cell v:=z;cases z'⟩
 keep:=λi h h' st k=>k it Ln _ st
 item:=by
  intro X hP hw hK hc i pins s σ H E I hf st hg;subst hP hw hK;obtain⟨f0,f1,f2,f3,f4,f5⟩:=hf it Ln;have W:=Walks.range (prog:=X.prog) (w:=X.w) (I.ok.hd hc) it lo 1 n;refine W.item i s _ _ hg st λv h' tk hv v5 kk=>?_;obtain⟨t,rfl⟩:=hv;have I1:Inv X pins σ H {s with heap:=h',toks:=tk}:=I.turned (λb o hb e=>kk b o (by simpa using hb) e) f0 f1 f3 f4 f5;refine#[_,rfl,jI (s:={s with heap:=h',toks:=tk}) (n:="range_iterator") v5 rfl rfl Lj #[.int (lo+i),H,I1,#[t,?_],#[rfl,rfl],v5,λb hb=>(hf b hb).1]];rw[Int.mul_one]
 done:=by
  intro X hP hw hK hc i pins s σ H E I hf st hg;subst hP hw hK;obtain⟨f0,f1,f2,f3,f4,f5⟩:=hf it Ln;exact wpAny_pyNext_range_end (I.ok.hd hc) st (by have:n<=i:=hg;lia) λh' eb=>#[rfl,I.turned (t':=s.toks) (λb o hb e=>eb b o hb e) f0 f1 f3 f4 f5]
 self:=λ_ _ _ _ _ st h=>wpAny_pyIter_rangeiter st h
section
variable {X:Cx}{tg:SZ}
def qF(K:Ex)(tl:TE):TI:=λσ H R=>tl σ H λx H1=>∃a,x=.ref a/\(∃xs,SqL K H1 a xs)/\R (Itl K a) H1
def jJ{l:SZ}{tl:TE}(hl:PE X l tl):PI X tg l (qF X.K tl):=by
 intro pins s σ H R I h;refine thn (hl pins s σ H _ I h) λv s1 b9=>?_;obtain⟨x,H1,I1,r1,q1⟩:=b9;obtain⟨a,e,⟨xs,hq⟩,q⟩:=q1;subst e;cases r1;obtain⟨its,rv,p,hz⟩:=I1.list hq;refine wpAny_pyIter_list p.isList ?_;refine#[s1.heap.objs.size,[s1.heap.objs.size],_,_,H1,rfl,I1.kept (t':=s1.toks) λb o e=>Heap.get?_push_of_some _ e,wU a _,#[_,Heap.get?_push_size _ rfl,rfl,rfl],λb hb=>?_,q];have e:b=s1.heap.objs.size:=by simpa using hb
 subst e;exact I1.fpOk (GO _) (I1.hok.fresh (GO _))
variable{pins:List (KF×Uj)}{σ:St}{H:Hp}{s:Os}
def qG{R:It->Hp->Prop}{E:KB->Os->Prop}{lo hi:Int}{t u v:VX}{tk:Nat}(I:Inv X pins σ H s)(h1:-(2^62)<=lo)(h2:lo<2^62)(h3:-(2^62)<=hi)(h4:hi<2^62)
  (q:R (Itr lo (hi-lo).toNat) H):T4 (SL X.prog X.w) X.A (pyIter (.ref s.heap.objs.size)) (PIE X pins σ tg R) E {s with heap:=s.heap.push {cls:=.type "range",data:=.fields [.int lo t,.int hi u,.int 1 v].toArray},toks:=tk}:=by
 refine wpAny_pyIter_range (IsRange.new ..) (small_one h1 h2 h3 h4) ?_;have I1:Inv X pins σ H {s with heap:=s.heap.push {cls:=.type "range",data:=.fields [.int lo t,.int hi u,.int 1 v].toArray},toks:=tk}:=I.kept λb o e=>Heap.get?_push_of_some _ e;refine⟨(s.heap.push {cls:=.type "range",data:=.fields [.int lo t,.int hi u,.int 1 v].toArray}).objs.size,[(s.heap.push {cls:=.type "range",data:=.fields [.int lo t,.int hi u,.int 1 v].toArray}).objs.size],_,_,H,rfl,
  I1.kept (t':=tk) λb o e=>Heap.get?_push_of_some _ e,wV _ lo (hi-lo).toNat,?_,λb hb=>?_,q⟩
 .have e1:lo+((0:Nat):Int)*1=lo:=by simp
  have e2:(((hi-lo).toNat:Nat):Int)-((0:Nat):Int)=Builtin.Range.rangeSize lo hi 1:=by rw[rangeSize_one];split<;>lia
  show IsRangeIter _ _ (lo+((0:Nat):Int)*1) ((((hi-lo).toNat:Nat):Int)-((0:Nat):Int)) 1;rw[e1,e2];exact Heap.get?_push_size _ rfl
 .have e:b=(s.heap.push {cls:=.type "range",data:=.fields [.int lo t,.int hi u,.int 1 v].toArray}).objs.size:=by simpa using hb
  subst e;exact I1.fpOk (GO _) (I1.hok.fresh (GO _))
def qH(ta:TA):TI:=λσ H R=>ta σ H λvs H1=>∃j:Int,vs=[.int j]/\-(2^62)<=j/\j<2^62/\R (Itr 0 j.toNat) H1
def wW(ta:TA):TI:=λσ H R=>ta σ H λvs H1=>∃i j:Int,vs=[.int i,.int j]/\(-(2^62)<=i/\i<2^62/\-(2^62)<=j/\j<2^62)/\R (Itr i (j-i).toNat) H1
variable{pos:Ub}
def jK{a:SZ}{ta:TA}{p:Ub}(hg:Gl X "range")(hm:X.mg "range"=v7)(ha:PA X [a] ta)(hs:autoParam (T7 [a] X.env=[(false,T_ a X.env)]) zA0):PI X tg (.Call (.Name "range" p) [a] [] pos) (qH ta):=by
 intro pins s σ H R I h;refine Call_ (dI I hg hm boot_range (PyProof.Rows.callWith_type1 (thn (ha pos pins s σ H _ I h) λus s1 hh=>?_) hs rfl));obtain⟨vs,H1,I1,r1,q1⟩:=hh;obtain⟨j,e,q1,q2,q⟩:=q1;subst e;cases r1 with
 |cons r rr=>
  cases rr;obtain⟨t,rfl⟩:=r;exact call_range_1 (qG I1 KK KK q1 q2 (by simpa using q))
def wX{a b:SZ}{ta:TA}{p:Ub}(hg:Gl X "range")(hm:X.mg "range"=v7)(ha:PA X [a,b] ta)(hs:autoParam (T7 [a,b] X.env=[(false,T_ a X.env),(false,T_ b X.env)]) zA0)(l8:autoParam (T7 [b] X.env=[(false,T_ b X.env)]) zA0):
  PI X tg (.Call (.Name "range" p) [a,b] [] pos) (wW ta):=by
 intro pins s σ H R I h;refine Call_ (dI I hg hm boot_range (PyProof.Rows.callWith_type1 (thn (ha pos pins s σ H _ I h) λus s1 hh=>?_) (by rw[hs,l8]) (by rw[l8];rfl)));obtain⟨vs,H1,I1,r1,q1⟩:=hh;obtain⟨i,j,e,⟨q1,q2,q3,q4⟩,q⟩:=q1;subst e;cases r1 with
 |cons r rr=>
  cases rr with
  |cons r' rr=>
   cases rr;obtain⟨t,rfl⟩:=r;obtain⟨t',rfl⟩:=r';exact call_range_2 (qG I1 q1 q2 q3 q4 q)
def tFor(wi:TI)(g:TG)(tb:TS):TS:=λD σ H=>wi σ H λJ H1=>∃W:Nat->Nat->St->Hp->Prop,(∃m,W 0 m σ H1)/\∀i m σ H,W i m σ H->
 (J.stop i H/\D.nx σ H)\/(J.go i H/\∃N:St->Hp->Prop,(∀σ' H',N σ' H'->∃m',m'<m/\W (i+1) m' σ' H')/\∀x H',J.yld i H x H'->g x σ H' λσ2 H2=>tb {D with nx:=N,ct:=N,bk:=D.nx} σ2 H2)
def gI(fp:List KF)(h:Heap):List (KF×Uj):=fp.filterMap λb=>(h.get? b).map λo=>(b,o)
variable{fp:List KF}
def eJ{h:Heap}{b:KF}{o:Uj}(hb:b∈fp)(e:h.get? b=be o):(b,o)∈gI fp h:=Jw.mpr #[b,hb,by rw[e];rfl]
def wY{h:Heap}{p:KF×Uj}(hp:p∈gI fp h):p.1∈fp/\h.get? p.1=be p.2:=by
 obtain⟨b,hb,e⟩:=Jw.mp hp;cases q:h.get? b with
 |none=>rw[q]at e;cases e
 |some o=>
  rw[q]at e;have e':(b,o)=p:=Option.some.inj e;subst e';exact#[hb,q]
def Inv.pinned(I:Inv X pins σ H s)(hf:∀b∈fp,FpOk X pins H b)(ho:∀b∈fp,∃o,s.heap.get? b=be o/\∀v,o.data≠.cell v):Inv X (pins++gI fp s.heap) σ H s:=
 I.pins_of λp hp=>(Hi.mp hp).elim (λz=>I.pin p (Hb _ z)) λz=>by
  obtain⟨hb,e⟩:=wY z;obtain⟨f0,f1,f2,_⟩:=hf p.1 hb;obtain⟨o,e',d⟩:=ho p.1 hb;rw[e]at e';cases e';exact#[e,f0,f1,f2,d]
def Inv.unpinned{pl:List (KF×Uj)}(I:Inv X (pins++pl) σ H s):Inv X pins σ H s:=I.pins_of λp hp=>I.pin p (Hb _ (HY _ hp))
def cP{iter:SZ}{body:List SB}{wi:TI}{g:TG}{tb:TS}(hp:Um (SL X.prog X.w) X.A X.env X.xe)(hc:X.calm=true)(hi:PI X tg iter wi)(hg:PG X tg g)(hb:PSs X body tb)
  (hs:∀x,VV iter X.env x=pure x:=by intro _;rfl):PS X (.For tg iter body [] pos) (tFor wi g tb):=by
 intro pins s σ H D I h;refine wpAny_For (thn (hi pins s σ H _ I h) λv s1 h1=>thn h1 λNr s2 h2=>?_) hs;obtain⟨it,fp,tn,J,H2,e,I2,T,t7,f2,W,⟨m0,w0⟩,c5⟩:=h2;subst e;have o7:∀{H':Hp},(∀b∈fp,H' b=v7)->∀b∈fp,FpOk X pins H' b:=λhn b hb=>#[hn b hb,(f2 b hb).2];refine codeAny_forLoop_any (λn s'=>∃i σ' H',Inv X pins σ' H' s'/\tn i s'.heap/\(∀b∈fp,H' b=v7)/\W i n σ' H') ?_ m0 #[0,σ,H2,I2,t7,λb hb=>(f2 b hb).1,w0];rintro n s3⟨i,σ3,H3,I3,I_,Qn,w3⟩;rcases c5 i n σ3 H3 w3 with⟨stop,qn⟩|⟨go,N,hN,step⟩
 .refine Ur hp (thn (T.done X rfl rfl rfl hc i pins s3 σ3 H3 X.xe I3 (o7 Qn) I_ stop) λr s4 b9=>?_);obtain⟨hr,I4⟩:=b9;subst hr;exact UM #[σ3,H3,I4,qn]
 .refine Ur hp (thn (T.item X rfl rfl rfl hc i pins s3 σ3 H3 X.xe I3 (o7 Qn) I_ go) λr s4 b9=>?_);obtain⟨u,hr,h4⟩:=b9;subst hr;refine Ur hp (thn h4 λ_ s5 b9=>?_);obtain⟨x,H5,I5,r5,y5,Kr,N5⟩:=b9;have Rl:=I5.pinned (o7 N5) (T.obj _ _ Kr);refine Ur hp (thn (hg _ s5 σ3 H5 x u _ Rl r5 (step x H5 y5)) λ_ s6 b9=>?_);obtain⟨σ6,H6,I6,q6⟩:=b9;refine Ur hp (thn (hb _ s6 σ6 H6 _ I6 q6) λf s7 q7=>?_);have again:∀{σ7:St} {H7:Hp},Inv X (pins++gI fp s5.heap) σ7 H7 s7->N σ7 H7->∃m,m<n/\∃i σ' H',Inv X pins σ' H' s7/\tn i s7.heap/\(∀b∈fp,H' b=v7)/\W i m σ' H':=λ{σ7 H7} I7 n7=>by
   obtain⟨m',hm,w7⟩:=hN σ7 H7 n7;refine#[m',hm,i+1,σ7,H7,I7.unpinned,T.keep _ _ _ Kr λb hb o e=>(I7.pin (b,o) (Hb _ (Hb _ (eJ hb e)))).1,λb hb=>?_,w7];obtain⟨o,e,d⟩:=T.obj _ _ Kr b hb;exact(I7.pin (b,o) (Hb _ (Hb _ (eJ hb e)))).2.1
  cases f with
  |next=>obtain⟨σ7,H7,I7,n7⟩:=q7;exact again I7 n7
  |cont=>obtain⟨σ7,H7,I7,n7⟩:=q7;exact again I7 n7
  |brk=>obtain⟨σ7,H7,I7,q7⟩:=q7;exact#[σ7,H7,I7.unpinned,q7]
  |ret v=>obtain⟨x7,σ7,H7,I7,r7,q7⟩:=q7;exact#[x7,σ7,H7,I7.unpinned,r7,q7]
end
def jL{g:TG}{tb:TS}{D:Ends}(Pv:Nat->St->Hp->Prop)(h0:Pv 0 σ H)(hl:∀i σ H,i<=xs.length->Pv i σ H->SqL K H a xs)
  (hs:∀i x σ H,xs[i]?=be x->Pv i σ H->g x σ H λσ2 H2=>tb {D with nx:=Pv (i+1),ct:=Pv (i+1),bk:=D.nx} σ2 H2) (hd:∀σ H,Pv xs.length σ H->D.nx σ H):
  ∃W:Nat->Nat->St->Hp->Prop,(∃m,W 0 m σ H)/\∀i m σ H,W i m σ H->
   ((Itl K a).stop i H/\D.nx σ H)\/((Itl K a).go i H/\∃N:St->Hp->Prop,(∀σ' H',N σ' H'->∃m',m'<m/\W (i+1) m' σ' H')/\∀x H',(Itl K a).yld i H x H'->g x σ H' λσ2 H2=>tb {D with nx:=N,ct:=N,bk:=D.nx} σ2 H2):=by
 refine#[λi m σ H=>m=xs.length-i/\i<=xs.length/\Pv i σ H,#[xs.length,Ln,Hc _,h0],?_];rintro i m σ H ⟨rfl,hi,p⟩;have q:=hl i σ H hi p;by_cases f9:i<xs.length
 .refine .inr #[#[xs,xs[i],q,by simp[f9]],Pv (i+1),λσ' H' p'=>#[xs.length-(i+1),KK,rfl,f9,p'],λx H' y=>?_];obtain⟨e,y⟩:=y;subst e;exact hs i x σ _ (y xs q) p
 .have e:i=xs.length:=by lia
  subst e;exact .inl #[#[xs,q,GO _],hd σ H p]
def jM{lo:Int}{n:Nat}{g:TG}{tb:TS}{D:Ends}(Pv:Nat->St->Hp->Prop)(h0:Pv 0 σ H)
  (hs:∀i σ H,i<n->Pv i σ H->g (.int (lo+i)) σ H λσ2 H2=>tb {D with nx:=Pv (i+1),ct:=Pv (i+1),bk:=D.nx} σ2 H2) (hd:∀σ H,Pv n σ H->D.nx σ H):
  ∃W:Nat->Nat->St->Hp->Prop,(∃m,W 0 m σ H)/\∀i m σ H,W i m σ H->
   ((Itr lo n).stop i H/\D.nx σ H)\/((Itr lo n).go i H/\∃N:St->Hp->Prop,(∀σ' H',N σ' H'->∃m',m'<m/\W (i+1) m' σ' H')/\∀x H',(Itr lo n).yld i H x H'->g x σ H' λσ2 H2=>tb {D with nx:=N,ct:=N,bk:=D.nx} σ2 H2):=by
 refine#[λi m σ H=>m=n-i/\i<=n/\Pv i σ H,#[n,Ln,Hc _,h0],?_];rintro i m σ H ⟨rfl,hi,p⟩;by_cases f9:i<n
 .refine .inr #[f9,Pv (i+1),λσ' H' p'=>#[n-(i+1),KK,rfl,f9,p'],λx H' y=>?_];obtain⟨e,y⟩:=y;subst e y;exact hs i σ _ f9 p
 .have e:i=n:=by lia
  subst e;exact .inl #[GO _,hd σ H p]
abbrev R2:=V->V->Hp->VK->Prop
def OpR(X:Cx)(f:KB->KB->Vz KB)(r:R2):Prop:=
 ∀(pins:List (KF×Uj)) (s:Os) (σ:St) (H:Hp) (x y:V) (v u:KB) (Q:VK),Inv X pins σ H s->RelV x v->RelV y u->r x y H Q->
  T4 (SL X.prog X.w) X.A (f v u) (EP X pins σ Q) X.xe s
def UnR(X:Cx)(f:KB->Vz KB)(r:V->Hp->VK->Prop):Prop:=
 ∀(pins:List (KF×Uj)) (s:Os) (σ:St) (H:Hp) (x:V) (v:KB) (Q:VK),Inv X pins σ H s->RelV x v->r x H Q->
  T4 (SL X.prog X.w) X.A (f v) (EP X pins σ Q) X.xe s
def bK(X:Cx)(f:KB)(r:List V->Hp->VK->Prop):Prop:=
 ∀(pins:List (KF×Uj)) (s:Os) (σ:St) (H:Hp) (xs:List V) (us:List KB) (Q:VK),Inv X pins σ H s->Vals xs us->r xs H Q->
  T4 (SL X.prog X.w) X.A (call f us) (EP X pins σ Q) X.xe s
def TruR(X:Cx)(r:V->Hp->(Bool->Hp->Prop)->Prop):Prop:=
 ∀(pins:List (KF×Uj)) (s:Os) (σ:St) (H:Hp) (x:V) (v:KB) (Q:Bool->Hp->Prop),Inv X pins σ H s->RelV x v->r x H Q->
  T4 (SL X.prog X.w) X.A (truthy v) (TP X pins σ Q) X.xe s
def tOp(r:R2)(ta tb:TE):TE:=λσ H Q=>ta σ H λx H1=>tb σ H1 λy H2=>r x y H2 Q
def tUn(r:V->Hp->VK->Prop)(ta:TE):TE:=λσ H Q=>ta σ H λx H1=>r x H1 Q
def rI(C:Int->Int->Prop)(g:Int->Int->V):R2:=λx y H Q=>∃i j,x=.int i/\y=.int j/\C i j/\Q (g i j) H
def rI0(g:Int->Int->V):R2:=λx y H Q=>∃i j,x=.int i/\y=.int j/\Q (g i j) H
def rU(g:Int->V):V->Hp->VK->Prop:=λx H Q=>∃i,x=.int i/\Q (g i) H
section
variable {X:Cx}{a b c:SZ}{ta tb tc:TE}{pos:Ub}
variable{f:KB->KB->Vz KB}
def binT(ha:PE X a ta)(hb:PE X b tb){pins:List (KF×Uj)}{s:Os}{σ:St}{H:Hp}{R:V->V->Hp->Prop}(I:Inv X pins σ H s)
  (h:ta σ H λx H1=>tb σ H1 λy H2=>R x y H2) {Q:KB->Os->Prop} 
  (hf:∀v u s2 x y H2,Inv X pins σ H2 s2->RelV x v->RelV y u->R x y H2->T4 (SL X.prog X.w) X.A (f v u) Q X.xe s2):
  T4 (SL X.prog X.w) X.A (T_ a X.env) (λv s₁=>T4 (SL X.prog X.w) X.A (T_ b X.env) (λu s₂=>T4 (SL X.prog X.w) X.A (f v u) Q X.xe s₂) X.xe s₁) X.xe s:=by
 refine thn (ha pins s σ H _ I h) λv s1 b9=>?_;obtain⟨x,H1,I1,r1,q1⟩:=b9;refine thn (hb pins s1 σ H1 _ I1 q1) λu s2 b9=>?_;obtain⟨y,H2,I2,r2,q2⟩:=b9;exact hf v u s2 x y H2 I2 r1 r2 q2
def jN{op:Vk}{r:R2}(ho:OpR X (Uq op) r)(ha:PE X a ta)(hb:PE X b tb):PE X (.BinOp a op b pos) (tOp r ta tb):=by
 intro pins s σ H Q I h;exact wpAny_BinOp (binT ha hb I h λv u s2 x y H2 I2 rx ry q=>ho pins s2 σ H2 x y v u Q I2 rx ry q)
def wZ{op:UnaryOp}{r:V->Hp->VK->Prop}(ho:UnR X (unaryOp op) r)(ha:PE X a ta):PE X (.UnaryOp op a pos) (tUn r ta):=by
 intro pins s σ H Q I h;exact UnaryOp_ (thn (ha pins s σ H _ I h) λv s1 ⟨x,H1,I1,r1,q1⟩=>ho pins s1 σ H1 x v Q I1 r1 q1)
variable{g:Int->Int->Int}
def opI{C:Int->Int->Prop}
  (rule:∀(i j:Int) (t u:VX) (s:Os) (Q:KB->Os->Prop) (E:KB->Os->Prop),C i j->Q (.int (g i j) s.toks) {s with toks:=s.toks+1}->T4 (SL X.prog X.w) X.A (f (.int i t) (.int j u)) Q E s):
  OpR X f (rI C λi j=>.int (g i j)):=by
 intro pins s σ H x y v u Q I rx ry h;obtain⟨i,j,rfl,rfl,hc,q⟩:=h;obtain⟨t,rfl⟩:=rx;obtain⟨t',rfl⟩:=ry;exact rule i j t t' s _ _ hc #[.int (g i j),H,I.tok _,#[_,rfl],q]
def opI0
  (rule:∀(i j:Int) (t u:VX) (s:Os) (Q:KB->Os->Prop) (E:KB->Os->Prop),Q (.int (g i j) s.toks) {s with toks:=s.toks+1}->T4 (SL X.prog X.w) X.A (f (.int i t) (.int j u)) Q E s):
  OpR X f (rI0 λi j=>.int (g i j)):=by
 intro pins s σ H x y v u Q I rx ry h;obtain⟨i,j,rfl,rfl,q⟩:=h;obtain⟨t,rfl⟩:=rx;obtain⟨t',rfl⟩:=ry;exact rule i j t t' s _ _ #[.int (g i j),H,I.tok _,#[_,rfl],q]
def opB0{g:Int->Int->Bool}
  (rule:∀(i j:Int) (t u:VX) (s:Os) (Q:KB->Os->Prop) (E:KB->Os->Prop),Q (.bool (g i j)) s->T4 (SL X.prog X.w) X.A (f (.int i t) (.int j u)) Q E s):
  OpR X f (rI0 λi j=>.bl (g i j)):=by
 intro pins s σ H x y v u Q I rx ry h;obtain⟨i,j,rfl,rfl,q⟩:=h;obtain⟨t,rfl⟩:=rx;obtain⟨t',rfl⟩:=ry;exact rule i j t t' s _ _ #[.bl (g i j),H,I,rfl,q]
def CDiv(i j:Int):Prop:=0<j/\j<1073741824
def CMul(i j:Int):Prop:=(-(2^64)<i/\i<2^64)\/(-(2^64)<j/\j<2^64)
def CMul.ok{i j:Int}(h:CMul i j):IntMulOk i j:=by
 rcases h with⟨h1,h2⟩|⟨h1,h2⟩
 .exact .of_left (intBits_le_64 h1 h2)
 .exact .of_right (intBits_le_64 h1 h2)
def xa:OpR X (Uq .Add) (rI0 λi j=>.int (i+j)):=opI0 λ_ _ _ _ _ _ _ q=>add_int q
def qI:OpR X (Uq .Sub) (rI0 λi j=>.int (i-j)):=opI0 λ_ _ _ _ _ _ _ q=>sub_int q
def xb:OpR X (Uq .Mult) (rI CMul λi j=>.int (i*j)):=opI λ_ _ _ _ _ _ _ hc q=>mul_int q hc.ok
def xc:OpR X (Uq .FloorDiv) (rI CDiv λi j=>.int (i/j)):=opI λi j _ _ _ _ _ hc q=>by
 have h1:(0:Int)<j:=hc.1;have h2:j<1073741824:=hc.2;exact floordiv_int KK (by rw[Int.fdiv_eq_ediv_of_nonneg i KK];exact q) (.inl (PyProof.noPylong_small KK))
def xg:OpR X (Uq .Mod) (rI (λ_ j=>0<j) λi j=>.int (i%j)):=opI λi j _ _ _ _ _ hc q=>by
 have h1:(0:Int)<j:=hc;exact mod_int' KK (by rw[Int.fmod_eq_emod_of_nonneg i KK];exact q)
def xh:OpR X (Uq .Mod) (rI (λ_ j=>j≠0) λi j=>.int (i.fmod j)):=opI λ_ _ _ _ _ _ _ hc q=>mod_int' hc q
def unI{f:KB->Vz KB}{g:Int->Int}
  (rule:∀(i:Int) (t:VX) (s:Os) (Q:KB->Os->Prop) (E:KB->Os->Prop),Q (.int (g i) s.toks) {s with toks:=s.toks+1}->T4 (SL X.prog X.w) X.A (f (.int i t)) Q E s):
  UnR X f (rU λi=>.int (g i)):=by
 intro pins s σ H x v Q I rx h;obtain⟨i,rfl,q⟩:=h;obtain⟨t,rfl⟩:=rx;exact rule i t s _ _ #[.int (g i),H,I.tok _,#[_,rfl],q]
def xi:UnR X (unaryOp .USub) (rU λi=>.int (-i)):=unI λ_ _ _ _ _ q=>neg_int q
end
def scal:V->V->Bool
 |.non,.non=>true|.non,.int _=>true|.int _,.non=>true|.non,.bl _=>true|.bl _,.non=>true|.non,.str _=>true|.str _,.non=>true
 |.int _,.int _=>true|.bl _,.bl _=>true|.str _,.str _=>true|.byt _,.byt _=>true
 |.int _,.str _=>true|.str _,.int _=>true|.bl _,.str _=>true|.str _,.bl _=>true
 |_,_=>false
def rEq:R2:=λx y H Q=>scal x y=true/\Q (.bl (decide (x=y))) H
def rNe:R2:=λx y H Q=>scal x y=true/\Q (.bl (!decide (x=y))) H
def qJ{i j:Int}:decide (V.int i=V.int j)=(i==j):=by
 rw[IA];simp
def qK{i j:Bool}:decide (V.bl i=V.bl j)=(i==j):=by
 rw[IA];simp
def qL{i j:Kq}:decide (V.str i=V.str j)=(i==j):=by
 rw[IA];simp
def qM{i j:Array UInt8}:decide (V.byt i=V.byt j)=(i.toList==j.toList):=by
 rw[IA];cases i;cases j;simp
section
variable {X:Cx}{a b c:SZ}{ta tb tc:TE}{pos:Ub}
def aQ{pins:List (KF×Uj)}{σ:St}{H:Hp}{s:Os}{Q:VK}{k k':Bool}(I:Inv X pins σ H s)(q:Q (.bl k) H)(e:k=k'):EP X pins σ Q (.bool k') s:=by
 subst e;exact#[.bl k,H,I,rfl,q]
def jO:OpR X (Ul .Eq) rEq:=by
 intro pins s σ H x y v u Q I rx ry h;obtain⟨hs,q⟩:=h;cases x with
 |non=>
  cases rx;cases y with
  |non=>cases ry;exact PySem.EqNone.eq_none_none (aQ I q Ln)
  |bl j=>cases ry;exact PySem.EqNone.eq_none_bool (aQ I q Ln)
  |int j=>obtain⟨t',rfl⟩:=ry;exact PySem.EqNone.eq_none_int (aQ I q Ln)
  |str j=>obtain⟨t',rfl⟩:=ry;exact PySem.EqNone.eq_none_str (aQ I q Ln)
  |_=>exact absurd (show false=true from hs) G3
 |bl i=>
  cases rx;cases y with
  |non=>cases ry;exact PySem.EqNone.eq_bool_none (aQ I q Ln)
  |bl j=>cases ry;exact eq_bool (aQ I q qK)
  |str j=>obtain⟨t',rfl⟩:=ry;exact PySem.EqMixed.eq_bool_str (aQ I q Ln)
  |_=>exact absurd (show false=true from hs) G3
 |int i=>
  obtain⟨t,rfl⟩:=rx;cases y with
  |non=>cases ry;exact PySem.EqNone.eq_int_none (aQ I q Ln)
  |int j=>obtain⟨t',rfl⟩:=ry;exact eq_int (aQ I q qJ)
  |str j=>obtain⟨t',rfl⟩:=ry;exact PySem.EqMixed.eq_int_str (aQ I q Ln)
  |_=>exact absurd (show false=true from hs) G3
 |str i=>
  obtain⟨t,rfl⟩:=rx;cases y with
  |non=>cases ry;exact PySem.EqNone.eq_str_none (aQ I q Ln)
  |bl j=>cases ry;exact PySem.EqMixed.eq_str_bool (aQ I q Ln)
  |int j=>obtain⟨t',rfl⟩:=ry;exact PySem.EqMixed.eq_str_int (aQ I q Ln)
  |str j=>obtain⟨t',rfl⟩:=ry;exact eq_str (aQ I q qL)
  |_=>exact absurd (show false=true from hs) G3
 |byt i=>
  obtain⟨t,rfl⟩:=rx;cases y with
  |byt j=>obtain⟨t',rfl⟩:=ry;exact eq_bytes (aQ I q qM)
  |_=>exact absurd (show false=true from hs) G3
 |_=>cases y<;>exact absurd (show false=true from hs) G3
def qN:OpR X (Ul .NotEq) rNe:=by
 intro pins s σ H x y v u Q I rx ry h;obtain⟨hs,q⟩:=h;cases x with
 |non=>
  cases rx;cases y with
  |non=>cases ry;exact PySem.EqNone.ne_none_none (aQ I q Ln)
  |bl j=>cases ry;exact PySem.EqNone.ne_none_bool (aQ I q Ln)
  |int j=>obtain⟨t',rfl⟩:=ry;exact PySem.EqNone.ne_none_int (aQ I q Ln)
  |str j=>obtain⟨t',rfl⟩:=ry;exact PySem.EqNone.ne_none_str (aQ I q Ln)
  |_=>exact absurd (show false=true from hs) G3
 |bl i=>
  cases rx;cases y with
  |non=>cases ry;exact PySem.EqNone.ne_bool_none (aQ I q Ln)
  |bl j=>cases ry;exact ne_bool (aQ I q (congrArg not qK))
  |str j=>obtain⟨t',rfl⟩:=ry;exact PySem.EqMixed.ne_bool_str (aQ I q Ln)
  |_=>exact absurd (show false=true from hs) G3
 |int i=>
  obtain⟨t,rfl⟩:=rx;cases y with
  |non=>cases ry;exact PySem.EqNone.ne_int_none (aQ I q Ln)
  |int j=>obtain⟨t',rfl⟩:=ry;exact ne_int (aQ I q (congrArg not qJ))
  |str j=>obtain⟨t',rfl⟩:=ry;exact PySem.EqMixed.ne_int_str (aQ I q Ln)
  |_=>exact absurd (show false=true from hs) G3
 |str i=>
  obtain⟨t,rfl⟩:=rx;cases y with
  |non=>cases ry;exact PySem.EqNone.ne_str_none (aQ I q Ln)
  |bl j=>cases ry;exact PySem.EqMixed.ne_str_bool (aQ I q Ln)
  |int j=>obtain⟨t',rfl⟩:=ry;exact PySem.EqMixed.ne_str_int (aQ I q Ln)
  |str j=>obtain⟨t',rfl⟩:=ry;exact ne_str (aQ I q (congrArg not qL))
  |_=>exact absurd (show false=true from hs) G3
 |byt i=>
  obtain⟨t,rfl⟩:=rx;cases y with
  |byt j=>obtain⟨t',rfl⟩:=ry;exact ne_bytes (aQ I q (congrArg not qM))
  |_=>exact absurd (show false=true from hs) G3
 |_=>cases y<;>exact absurd (show false=true from hs) G3
def qO:OpR X (Ul .Lt) (rI0 λi j=>.bl (decide (i<j))):=opB0 λ_ _ _ _ _ _ _ q=>lt_int q
def xj:OpR X (Ul .LtE) (rI0 λi j=>.bl (decide (i<=j))):=opB0 λ_ _ _ _ _ _ _ q=>le_int q
def qP:OpR X (Ul .Gt) (rI0 λi j=>.bl (decide (j<i))):=opB0 λ_ _ _ _ _ _ _ q=>gt_int q
def xk:OpR X (Ul .GtE) (rI0 λi j=>.bl (decide (j<=i))):=opB0 λ_ _ _ _ _ _ _ q=>ge_int q
def qQ:OpR X (Ul .Is) (λx y H Q=>y=.non/\Q (.bl (decide (x=.non))) H):=by
 intro pins s σ H x y v u Q I rx ry h;obtain⟨rfl,q⟩:=h;cases ry;refine is_none_gen (aQ I q ?_);cases x<;>first
  |(cases rx;rfl)
  |(obtain⟨t,rfl⟩:=rx;rfl)
def qR:OpR X (Ul .IsNot) (λx y H Q=>y=.non/\Q (.bl (!decide (x=.non))) H):=by
 intro pins s σ H x y v u Q I rx ry h;obtain⟨rfl,q⟩:=h;cases ry;refine isnot_none_gen (aQ I q ?_);cases x<;>first
  |(cases rx;rfl)
  |(obtain⟨t,rfl⟩:=rx;rfl)
variable{r:R2}
def OpR.or{f:KB->KB->Vz KB}{r':R2}(h:OpR X f r)(h':OpR X f r'):OpR X f (λx y H Q=>r x y H Q\/r' x y H Q):=by
 intro pins s σ H x y v u Q I rx ry q;rcases q with q|q
 .exact h pins s σ H x y v u Q I rx ry q
 .exact h' pins s σ H x y v u Q I rx ry q
variable{op:VY}
def nomark(b:SZ)(h:autoParam (op≠.In) zA1)(h2:autoParam (op≠.NotIn) zA1):Us op b=false:=by
 have e1:(op==CmpOp.In)=false:=by cases op<;>first|rfl|exact absurd rfl h
 have e2:(op==CmpOp.NotIn)=false:=by cases op<;>first|rfl|exact absurd rfl h2
 cases b<;>simp[Us,e1,e2]
def xm(ho:OpR X (Ul op) r)(ha:PE X a ta)(hb:PE X b tb)(hm:Us op b=false):PE X (.Compare a [op] [b] pos) (tOp r ta tb):=by
 intro pins s σ H Q I h;exact wpAny_Compare1 (binT ha hb I h λv u s2 x y H2 I2 rx ry q=>ho pins s2 σ H2 x y v u Q I2 rx ry q) hm
def xn(t:TE):TT:=λσ H Q=>t σ H λx H'=>∃k,x=.bl k/\Q k H'
def qS(ho:OpR X (Ul op) r)(ha:PE X a ta)(hb:PE X b tb)(hm:Us op b=false):PT X (.Compare a [op] [b] pos) (xn (tOp r ta tb)):=by
 intro pins s σ H Q I h;refine wpAny_isTrue_Compare1 (thn (ha pins s σ H _ I h) λv s1 ⟨x,H1,I1,r1,q1⟩=>thn (hb pins s1 σ H1 _ I1 q1) λu s2 ⟨y,H2,I2,r2,q2⟩=>
  thn (ho pins s2 σ H2 x y v u _ I2 r1 r2 q2) λc s3 hh=>?_) hm
 obtain⟨z,H3,I3,r3,k,e,q3⟩:=hh;subst e;cases r3;exact UQ #[H3,I3,q3]
def TruV(K:Ex)(x:V)(H:Hp)(k:Bool):Prop:=
 match x with
 |.non=>k=false
 |.bl b=>k=b
 |.int i=>k=(i !=0)
 |.str y=>y.length<=sizeLine/\k=((y.length:Int) !=0)
 |.byt y=>y.size<=sizeLine/\k=((y.size:Int) !=0)
 |.ref p=>(∃xs,SqL K H p xs/\k=!xs.isEmpty)\/(∃xs,SqT K H p xs/\k=!xs.isEmpty)\/∃a9,H p=be (.dK a9)/\k=!a9.isEmpty
 |_=>False
def xo{κ:Type}{a9:List (κ×V)}{vs:List (κ×KB)}(r:KV a9 vs):(!vs.isEmpty)=!a9.isEmpty:=by
 cases r<;>rfl
def isEmpty_of{xs:List V}{its:List KB}(r:Vals xs its):(!its.toArray.isEmpty)=!xs.isEmpty:=by
 cases r<;>simp
def line63:(sizeLine:Nat)<2^63:=by rw[US];decide
def xp:TruR X (λx H Q=>∃k,TruV X.K x H k/\Q k H):=by
 intro pins s σ H x v Q I rx h;obtain⟨k,e,q⟩:=h;have hl:=line63;have hs:sizeLine=16777216:=US;cases x with
 |non=>
  cases rx;have e':k=false:=e;subst e';exact truthy_none #[H,I,q]
 |bl b=>
  cases rx;have e':k=b:=e;subst e';exact UQ #[H,I,q]
 |int i=>
  obtain⟨t,rfl⟩:=rx;have e':k=(i !=0):=e;subst e';exact PySem.P.truthy_int #[H,I,q]
 |str y=>
  obtain⟨t,rfl⟩:=rx;obtain⟨hy,e'⟩:y.length<=sizeLine/\k=((y.length:Int) !=0):=e;subst e';exact PySem.P.truthy_str KK #[H,I.tok _,q]
 |byt y=>
  obtain⟨t,rfl⟩:=rx;obtain⟨hy,e'⟩:y.size<=sizeLine/\k=((y.size:Int) !=0):=e;subst e';exact truthy_bytes KK #[H,I.tok _,q]
 |ref p=>
  cases rx;have e':(∃xs,SqL X.K H p xs/\k=!xs.isEmpty)\/(∃xs,SqT X.K H p xs/\k=!xs.isEmpty)\/∃a9,H p=be (.dK a9)/\k=!a9.isEmpty:=e;rcases e' with⟨xs,hx,e'⟩|⟨xs,hx,e'⟩|⟨a9,hx,e'⟩
  .subst e';obtain⟨its,r,pl,hz⟩:=I.list hx;have b7:=r.length;exact wpAny_truthy_list pl.isList (by simp only[GZ];lia) #[H,I.tok _,by rw[isEmpty_of r];exact q]
  .subst e';obtain⟨its,r,pl,hz⟩:=I.tuple hx;have b7:=r.length;exact truthy_tuple pl (by simp only[GZ];lia) #[H,I.tok _,by rw[isEmpty_of r];exact q]
  .subst e';obtain⟨hz,hS,vs,r,m⟩:a9.length<=sizeLine/\(p==Ut)=false/\∃vs,KV a9 vs/\s.heap.DictOf (bJ X.prog X.w) p vs:=I.hok p _ hx;have b7:a9.length=vs.length:=Paired.length r;exact wpAny_truthy_dict hS m KK #[H,I.tok _,by rw[xo r];exact q]
 |_=>exact(show False from e).elim
def qT(ha:PE X a ta)(he:∀f6,isTrue a X.env f6=(do let v <-f6;UO a.pos;Uu [v] (truthy v))):
  PT X a (λσ H Q=>ta σ H λx H'=>∃k,TruV X.K x H' k/\Q k H'):=by
 intro pins s σ H Q I h;exact isTrue_plain (thn (ha pins s σ H _ I h) λv s1 ⟨x,H1,I1,r1,q1⟩=>xp pins s1 σ H1 x v Q I1 r1 q1) (he _)
def xq:OpR X (Uq .Add) (λx y H Q=>∃i j,x=.str i/\y=.str j/\i.length+j.length<=sizeLine/\Q (.str (i++j)) H):=by
 intro pins s σ H x y v u Q I rx ry h;obtain⟨i,j,rfl,rfl,hz,q⟩:=h;obtain⟨t,rfl⟩:=rx;obtain⟨t',rfl⟩:=ry;exact add_str (λt' tk=>#[.str (i++j),H,I.tok _,#[_,rfl],q]) hz
variable{us:List KB}
def cb{x:V}(r:Vals [x] us):∃u,us=[u]/\RelV x u:=by
 cases r with
 |cons r1 r2=>cases r2;exact#[_,rfl,r1]
def fN{x y:V}(r:Vals [x,y] us):∃u w',us=[u,w']/\RelV x u/\RelV y w':=by
 cases r with
 |cons r1 r2=>
  cases r2 with
  |cons r3 r4=>cases r4;exact#[_,_,rfl,r1,r3]
def xr:bK X (.builtin "abs") (λxs H Q=>∃i,xs=[.int i]/\Q (.int (if i<0 then -i else i)) H):=by
 intro pins s σ H xs us Q I r h;obtain⟨i,rfl,q⟩:=h;obtain⟨u,rfl,t,rfl⟩:=cb r;exact call_abs_int λu tk=>#[.int (if i<0 then -i else i),H,I.tok _,#[_,rfl],q]
def xt(hc:X.calm=true):bK X (.builtin "max") (λxs H Q=>∃i j,xs=[.int i,.int j]/\Q (.int (if j>i then j else i)) H):=by
 intro pins s σ H xs us Q I r h;obtain⟨i,j,rfl,q⟩:=h;obtain⟨u,w',rfl,⟨t,rfl⟩,⟨t',rfl⟩⟩:=fN r;refine max_two_ints (I.ok.hd hc) λh' tk k=>#[_,H,I.kept k,?_,q];by_cases hj:j>i
 .rw[if_pos hj,if_pos hj];exact#[_,rfl]
 .rw[if_neg hj,if_neg hj];exact#[_,rfl]
def xu(hc:X.calm=true):bK X (.builtin "min") (λxs H Q=>∃i j,xs=[.int i,.int j]/\Q (.int (if j<i then j else i)) H):=by
 intro pins s σ H xs us Q I r h;obtain⟨i,j,rfl,q⟩:=h;obtain⟨u,w',rfl,⟨t,rfl⟩,⟨t',rfl⟩⟩:=fN r;refine min_two_ints (I.ok.hd hc) λh' tk k=>#[_,H,I.kept k,?_,q];by_cases hj:j<i
 .rw[if_pos hj,if_pos hj];exact#[_,rfl]
 .rw[if_neg hj,if_neg hj];exact#[_,rfl]
def xx:bK X (.type "int") (λxs H Q=>(∃i,xs=[.int i]/\Q (.int i) H)\/∃k,xs=[.bl k]/\Q (.int (if k then 1 else 0)) H):=by
 intro pins s σ H xs us Q I r h;rcases h with⟨i,rfl,q⟩|⟨k,rfl,q⟩
 .obtain⟨u,rfl,t,rfl⟩:=cb r;exact call_int_int #[.int i,H,I,#[_,rfl],q]
 .obtain⟨u,rfl,r1⟩:=cb r;cases r1;exact call_int_bool #[.int (if k then 1 else 0),H,I.tok _,#[_,rfl],q]
def xy:bK X (.type "str") (λxs H Q=>∃i,xs=[.int i]/\i.natAbs.log2<1920/\Q (.str (toString i)) H):=by
 intro pins s σ H xs us Q I r h;obtain⟨i,rfl,hz,q⟩:=h;obtain⟨u,rfl,t,rfl⟩:=cb r;exact PySem.P.str_of_int hz #[.str _,H,I.tok _,#[_,rfl],q]
def LenV(K:Ex)(x:V)(H:Hp)(n:Nat):Prop:=
 match x with
 |.str y=>y.length<=sizeLine/\n=y.length
 |.byt y=>y.size<=sizeLine/\n=y.size
 |.ref p=>(∃xs,SqL K H p xs/\n=xs.length)\/∃xs,SqT K H p xs/\n=xs.length
 |_=>False
def jP:bK X (.builtin "len") (λxs H Q=>∃x n,xs=[x]/\LenV X.K x H n/\Q (.int n) H):=by
 intro pins s σ H xs us Q I r h;obtain⟨x,n,rfl,e,q⟩:=h;obtain⟨u,rfl,rx⟩:=cb r;have hl:=line63;have hs:sizeLine=16777216:=US;cases x with
 |str y=>
  obtain⟨t,rfl⟩:=rx;obtain⟨hy,e'⟩:y.length<=sizeLine/\n=y.length:=e;subst e';exact len_str KK #[.int _,H,I.tok _,#[_,rfl],q]
 |byt y=>
  obtain⟨t,rfl⟩:=rx;obtain⟨hy,e'⟩:y.size<=sizeLine/\n=y.size:=e;subst e';exact len_bytes KK #[.int _,H,I.tok _,#[_,rfl],q]
 |ref p=>
  cases rx;have e':(∃xs,SqL X.K H p xs/\n=xs.length)\/∃xs,SqT X.K H p xs/\n=xs.length:=e;rcases e' with⟨xs,hx,e'⟩|⟨xs,hx,e'⟩
  .subst e';obtain⟨its,r',pl,hz⟩:=I.list hx;have b7:=r'.length;exact Calls.call_len_list pl.isList (by simp only[GZ];lia) #[.int xs.length,H,I.tok _,#[_,by simp only[GZ];rw[b7]],q]
  .subst e';obtain⟨its,r',pl,hz⟩:=I.tuple hx;have b7:=r'.length;exact len_tuple pl (by simp only[GZ];lia) #[.int xs.length,H,I.tok _,#[_,by simp only[GZ];rw[b7]],q]
 |_=>exact(show False from e).elim
end
structure ObjM(h:Heap)(x dx C:KF)(mA:Str->Option KB):Prop where
 obj:h.get? x=be (instObj C dx)
 ns:h.Ns1 dx mA
 ne:dx≠x
variable{mA:Kq->Option KB}
def qU{dx:KF}(n:h.Ns1 dx mA):∃od,h.get? dx=be od/\∀name,lookIn name od=be (mA name):=by
 obtain⟨o,es,ep,ho,hd,hk,_,hm⟩:=n;refine#[o,ho,λname=>?_];have e:=hm name;unfold nsFind findBy at e;rw[<-Array.find?_toList]at e;unfold lookIn;rw[hd];dsimp only;split
 .rename_i y q;rw[q]at e;exact congrArg be e
 .rename_i q;rw[q]at e;have a:es.toList.any (·.refKey)=false:=by
   rw[List.any_eq_false];intro y hy;obtain⟨z,t,o_⟩:=hk y (Array.mem_toList_iff.mp hy);simp[DictEntry.refKey,o_]
  have a':¬es.toList.any (·.refKey)=true:=by rw[a];exact G3
  rw[if_neg a'];exact congrArg be e
variable{C:KF}
def ObjM.look{x dx:KF}(I:ObjM h x dx C mA):∃od,PySem.W.InstAt h x (instObj C dx) C (be od)/\∀name,lookIn name od=be (mA name):=
 let ⟨od,ho,hl⟩:=qU I.ns
 #[od,#[I.obj,rfl,rfl,ho],hl]
section
variable {prog:T3}{w:T5}{A:T6}{E:KB->Os->Prop}{s:Os}{K:Ex}{x dx C f:KF}{mA:Kq->Option KB}{name:Kq}{v:KB}
def xz{y_:Bool}{Q:KB->Os->Prop}(X:K.In s.heap)(I:ObjM s.heap x dx C mA)(hg:plainGet K C name=true)(hh:hasDictIn K C=true)
  (ha:GT K (.ref C) name=be v7) (hv:mA name=be v) (Rm:Jy v=true) (h:Q v {s with toks:=s.toks+1}):
  T4 (SL prog w) A (Vw (.ref x) name y_) Q E s:=by
 obtain⟨od,J,hl⟩:=I.look;exact get_value X J (plainGet_of hg).1 (findObj_own hh ha rfl (by rw[hl,hv])) Rm h
def xA{pl:Vz Bool}{Q:KB×List KB->Os->Prop}(X:K.In s.heap)(I:ObjM s.heap x dx C mA)(hg:plainGet K C name=true)
  (hf:GT K (.ref C) name=be (be (.ref f))) (ht:isFn K (.ref f)=true) (hv:mA name=v7) (h:Q (.ref f,[.ref x]) s):
  T4 (SL prog w) A (U2 (.ref x) name pl) Q E s:=by
 obtain⟨od,J,hl⟩:=I.look;exact method_fn X J (plainGet_of hg).1 (plainGet_of hg).2 hf (beq_iff_eq.mp ht) (by show(lookIn name od).map (·.isSome)=be false;rw[hl,hv];rfl) h
def xB{ns:List Kq}{Q:Unit->Os->Prop}(X:K.In s.heap)(I:ObjM s.heap x dx C mA)
  (hs:GT K (.ref C) "__setattr__"=be (be (.builtin "object.__setattr__"))) (hp:plainOver K C=true) (ht:takerIn K C name=be v7) (hh:hasDictIn K C=true)
  (hw:PySem.Within mA ns) (j7:ns.length<=sizeLine)
  (h:∀h',ObjM h' x dx C (λy=>if y=name then be v else mA y)->Heap.SameBut dx s.heap h'->Q () {s with heap:=h',toks:=s.toks+2}):
  T4 (SL prog w) A (VS (.ref x) name v) Q E s:=by
 obtain⟨od,J,hl⟩:=I.look;refine PySem.W.set_plain X J hs (osa_open (s:={s with toks:=s.toks+1}) (r:=v7) X J hp ht λb=>?_);obtain⟨cd,hc,e_⟩:=any_some hh;have hx:s.heap.get? x=be #[.ref C,be dx,.plain,[].toArray]:=I.obj;refine KM (P3 (KM (KM (Vf hx (KM (PySem.W.Looks.here (s:={s with toks:=s.toks+1}) (PySem.W.looks_clsIn X hc) ?_))))));rw[e_];refine P3 (a:=be dx) (KM (P3 (KM ?_)));refine Vr (s:={s with toks:=s.toks+1}) I.ns λh' Lg l8=>?_;obtain⟨oD,Qo,Qp,Mi,Mj,Ml⟩:=Lg.count (PySem.Within.cons name v hw);refine KM (U9 Mi (by rw[Mj];exact U_ (GY Ml (by rw[GV];lia))) ?_);exact P3 (h _ #[(l8.2 _ (Ne.symm I.ne)).trans I.obj,Lg,I.ne] l8)
def xC{R:Result->Os->Prop}{vs:List KB}{kw:List (Kq×KB)}(X:K.In s.heap)(hm:makesIn K C=true)
  (hi:GT K (.ref C) "__init__"=be (be (.ref f))) (hf:PySem.W.typeIn K (.ref f)=be (.type "function"))
  (h:U3 (SL prog w) (A.under (.builtin "type.__call__" #[.ref C::vs,kw])) (.call (.ref f) #[.ref (s.heap.objs.size+1)::vs,kw]) (InitBack (s.heap.objs.size+1) R)
   {s with heap:=(s.heap.push emptyDict).push (instObj C s.heap.objs.size)}):
  U3 (SL prog w) A (.call (.ref C) #[vs,kw]) R s:=by
 obtain⟨hh,g,d,t,os⟩:=s;exact make_core (makes_of X hm) (PySem.W.looks_findIn X hi) (λself=>PySem.W.bind_fn X self hf) (.inl rfl) h
end
def putF(f:Kq)(v:V):List (Kq×V)->List (Kq×V)
 |[]=>[(f,v)]
 |(g,x)::r=>if g=f then(g,v)::r else(g,x)::putF f v r
def qV(f g:Kq)(v:V):∀fs:List (Kq×V),(putF f v fs).lookup g=if g=f then be v else fs.lookup g
 |[]=>by
  show HK g [(f,v)]=_;by_cases h:g=f
  .have hb:(g==f)=true:=beq_iff_eq.mpr h;simp only[HK,hb,if_pos h]
  .have hb:(g==f)=false:=beq_eq_false_iff_ne.mpr h;simp only[HK,hb,if_neg h]
 |(k,x)::r=>by
  have ih:=qV f g v r;rw[show putF f v ((k,x)::r)=(if k=f then(k,v)::r else(k,x)::putF f v r)from rfl];by_cases hk:k=f
  .rw[if_pos hk];by_cases h:g=k
   .have hb:(g==k)=true:=beq_iff_eq.mpr h;simp only[HK,hb,if_pos (h.trans hk)]
   .have hb:(g==k)=false:=beq_eq_false_iff_ne.mpr h;simp only[HK,hb,if_neg (λe:g=f=>h (e.trans hk.symm))]
  .rw[if_neg hk];by_cases h:g=k
   .have hb:(g==k)=true:=beq_iff_eq.mpr h;simp only[HK,hb,if_neg (λe:g=f=>hk (h.symm.trans e))]
   .have hb:(g==k)=false:=beq_eq_false_iff_ne.mpr h;simp only[HK,hb];exact ih
def jQ(f:Kq)(v:V):∀fs:List (Kq×V),f∈(putF f v fs).map (·.1)/\∀g,g∈fs.map (·.1)->g∈(putF f v fs).map (·.1)
 |[]=>#[by simp[putF],λg h=>by simp at h]
 |(k,x)::r=>by
  obtain⟨i1,i2⟩:=jQ f v r;rw[show putF f v ((k,x)::r)=(if k=f then(k,v)::r else(k,x)::putF f v r)from rfl];by_cases hk:k=f
  .rw[if_pos hk];subst hk;exact#[Ln,λg h=>by simpa using h]
  .rw[if_neg hk];refine#[?_,λg h=>?_]
   .rw[G8];exact GR _ i1
   .rw[G8]at h ⊢;rcases GP.mp h with e|e
    .exact GP.mpr (.inl e)
    .exact GR _ (i2 g e)
def qW(f:Kq)(v:V):∀fs:List (Kq×V),(putF f v fs).length<=fs.length+1
 |[]=>by simp[putF]
 |(k,x)::r=>by
  have ih:=qW f v r;rw[show putF f v ((k,x)::r)=(if k=f then(k,v)::r else(k,x)::putF f v r)from rfl];by_cases hk:k=f
  .rw[if_pos hk,GV,GV];lia
  .rw[if_neg hk,GV,GV];lia
def RelO.some_of{v:V}{o:Option KB}(r:RelO (be v) o):∃u,o=be u/\RelV v u:=by
 cases o with
 |none=>exact(show False from r).elim
 |some u=>exact#[u,rfl,r]
def RelO.none_of{o:Option KB}(r:RelO v7 o):o=none:=by
 cases o with
 |none=>rfl
 |some u=>exact(show False from r).elim
def qX{v:V}(r:RelV v u):Jy u=true:=by
 cases v with
 |non=>cases(show u=Value.none from r);rfl
 |bl b=>cases(show u=Value.bool b from r);rfl
 |int i=>obtain⟨t,e⟩:=(show ∃t,u=Value.int i t from r);cases e;rfl
 |str x=>obtain⟨t,e⟩:=(show ∃t,u=Value.str x t from r);cases e;rfl
 |byt b=>obtain⟨t,e⟩:=(show ∃t,u=Value.bytes b t from r);cases e;rfl
 |flt b=>obtain⟨t,e⟩:=(show ∃t,u=Value.float b t from r);cases e;rfl
 |ref a=>cases(show u=Value.ref a from r);rfl
 |ty n=>cases(show u=Value.type n from r);rfl
section
variable {P:T3}{w:T5}{H H':Hp}{h h':Heap}{a C dx:KF}{fs l7:List (Kq×V)}
def gJ(hok:HOk P w H h)(e:H a=be (.ins C dx fs)):∃mA,ObjM h a dx C mA/\(∀f,RelO (fs.lookup f) (mA f))/\PySem.Within mA (fs.map (·.1))/\fs.length<=1000/\H dx=be (.own a):=by
 obtain⟨d,z,ne,ob,mA,n,r,q⟩:=(show ObjOk P w H h a (.ins C dx fs)from hok a _ e);exact#[mA,#[ob,n,ne],r,q,z,d]
end
structure Cls(K:Ex)(C:KF):Prop where
 pg:plainGet K C Str.empty=true
 hd:hasDictIn K C=true
 po:plainOver K C=true
 sa:GT K (.ref C) "__setattr__"=be (be (.builtin "object.__setattr__"))
def Cls.get(c:Cls K C)(f:Kq):plainGet K C f=true:=c.pg
def NoAttr(K:Ex)(C:KF)(f:Kq):Prop:=GT K (.ref C) f=be v7
def NoAttr.taker{f:Kq}(n:NoAttr K C f):takerIn K C f=be none:=by
 unfold takerIn;rw[show GT K (.ref C) f=be v7 from n];rfl
structure Con(K:Ex)(C:KF)(f:Str)(v:V)(u:KB):Prop where
 at_:GT K (.ref C) f=be (be u)
 rel:RelV v u
 get:specialIn K u "__get__"=be v7
 cp:PySem.W.copiedNames.contains f=false
structure Meth(K:Ex)(C:KF)(m:Str)(f:KF):Prop where
 at_:GT K (.ref C) m=be (be (.ref f))
 fn:isFn K (.ref f)=true
 kp:keepIn K (.ref f)=true
section
variable {X:Cx}{pins:List (KF×Uj)}{σ:St}{H:Hp}{s:Os}{a C dx:KF}{fs:List (Kq×V)}{f:Kq}{v:V}{A:T6}{E:KB->Os->Prop}
variable{Q:KB->Os->Prop}
def xD{b:Bool}(I:Inv X pins σ H s)(e:H a=be (.ins C dx fs))(c:Cls X.K C)(n:NoAttr X.K C f)(l:fs.lookup f=be v)
  (h:∀u s',Inv X pins σ H s'->RelV v u->Q u s'):T4 (SL X.prog X.w) A (Vw (.ref a) f b) Q E s:=by
 obtain⟨mA,O,r,_,_,_⟩:=gJ I.hok e;obtain⟨u,hu,ru⟩:=RelO.some_of (v:=v) (o:=mA f) (by rw[<-l];exact r f);exact xz I.kIn O (c.get f) c.hd n hu (qX ru) (h u _ (I.tok _) ru)
def jR{m:Kq}{g:KF}{pl:Vz Bool}{Q:KB×List KB->Os->Prop}(I:Inv X pins σ H s)(e:H a=be (.ins C dx fs))(c:Cls X.K C)(k:Meth X.K C m g)(l:fs.lookup m=v7)
  (h:Q (.ref g,[.ref a]) s):T4 (SL X.prog X.w) A (U2 (.ref a) m pl) Q E s:=by
 obtain⟨mA,O,r,_,_,_⟩:=gJ I.hok e;have hn:mA m=none:=RelO.none_of (by rw[<-l];exact r m);exact xA I.kIn O (c.get m) k.at_ k.fn hn h
def xE{y:V}{u:KB}{Q:Unit->Os->Prop}(I:Inv X pins σ H s)(e:H a=be (.ins C dx fs))(c:Cls X.K C)(n:NoAttr X.K C f)(hl:fs.length<1000)(ry:RelV y u)
  (h:∀s',Inv X pins σ (upd H a (.ins C dx (putF f y fs))) s'->Q () s'):T4 (SL X.prog X.w) A (VS (.ref a) f u) Q E s:=by
 obtain⟨mA,O,r,wi,_,ho⟩:=gJ I.hok e;have hz:(fs.map (·.1)).length<=sizeLine:=by rw[GQ,US];lia
 refine xB I.kIn O c.sa c.po n.taker c.hd wi hz λh' O' sb=>h _ ?_;have hd:∃o,h'.get? dx=be o:=let ⟨o,_,_,e',_⟩:=O'.ns;#[o,e']
 refine I.write (x:=a) (e:=dx) (by rw[e];exact True.intro) (.inr ho) (λb q hb z=>(sb.2 b hb).trans z) hd ?_;refine#[by rw[ar O.ne];exact ho,?_,O.ne,O'.obj,_,O'.ns,λg=>?_,λg hg=>?_]
 .have:=qW f y fs;lia
 .show RelO ((putF f y fs).lookup g) (if g=f then be u else mA g);rw[qV];by_cases q:g=f
  .rw[if_pos q,if_pos q];exact ry
  .rw[if_neg q,if_neg q];exact r g
 .by_cases q:g=f
  .rw[q];exact(jQ f y fs).1
  .refine(jQ f y fs).2 g (wi g λz=>hg ?_);show(if g=f then be u else mA g)=v7;rw[if_neg q];exact z
def Inv.made(I:Inv X pins σ H s):Inv X pins σ (upd (upd H s.heap.objs.size (.own (s.heap.objs.size+1))) (s.heap.objs.size+1) (.ins C s.heap.objs.size []))
  {s with heap:=(s.heap.push emptyDict).push (instObj C s.heap.objs.size)}:=by
 have e1:(s.heap.push emptyDict).get? s.heap.objs.size=be emptyDict:=Heap.get?_push_size s.heap rfl;have e2:((s.heap.push emptyDict).push (instObj C s.heap.objs.size)).get? (s.heap.objs.size+1)=be (instObj C s.heap.objs.size):=by
  have:=Heap.get?_push_size (s.heap.push emptyDict) (o:=instObj C s.heap.objs.size) rfl;rwa [Heap.size_push]at this
 have e3:(s.heap.push emptyDict).Ns s.heap.objs.size (λ_=>v7):=#[emptyDict,[].toArray,_,e1,rfl,(λe he=>absurd he Ln),λ_=>rfl];have I1:=I.laid (a:=s.heap.objs.size) (o:=.own (s.heap.objs.size+1)) (h':=s.heap.push emptyDict) (t':=s.toks) (λb u q=>Heap.get?_push_of_some _ q) (GO _) #[_,e1];refine I1.laid (a:=s.heap.objs.size+1) (o:=.ins C s.heap.objs.size []) (t':=s.toks) (λb u q=>Heap.get?_push_of_some _ q) (IB (Heap.size_push _ _)) ?_;have ne:s.heap.objs.size≠s.heap.objs.size+1:=GW (Jz _);refine#[by rw[ar ne,aA],Hc _,ne,e2,λ_=>v7,(Heap.Ns1.of_empty e3).at λo q=>Heap.get?_push_of_some _ q,λ_=>True.intro,λy hy=>absurd rfl hy]
def attr_of{prog:T3}{w:T5}{env:UP}{e:SZ}{f:Kq}{pos:Ub}{s:Os}(hb:T9 e f env (T_ e env)=T_ e env)
  (h:T4 (SL prog w) A (T_ e env) (λo s₁=>T4 (SL prog w) A (Vw o f true) Q E s₁) E s):T4 (SL prog w) A (T_ (.Attribute e f pos) env) Q E s:=
 Attribute_any_ h (by rw[arm_eval_Attribute,hb])
end
def tFld(K:Ex)(ta:TE)(f:Kq):TE:=λσ H Q=>ta σ H λx H1=>∃a C dx fs v,x=.ref a/\H1 a=be (.ins C dx fs)/\Cls K C/\NoAttr K C f/\fs.lookup f=be v/\Q v H1
def sFld(K:Ex)(ta tv:TE)(f:Kq):TS:=λD σ H=>tv σ H λy H1=>ta σ H1 λx H2=>∃a C dx fs,x=.ref a/\H2 a=be (.ins C dx fs)/\Cls K C/\NoAttr K C f/\fs.length<1000/\
 D.nx σ (upd H2 a (.ins C dx (putF f y fs)))
section
variable {X:Cx}{o e value:SZ}{f:Kq}{pos b_ Mg:Ub}{ta tv:TE}
def qY(he:PE X e ta)(hb:T9 e f X.env (T_ e X.env)=T_ e X.env):PE X (.Attribute e f pos) (tFld X.K ta f):=by
 intro pins s σ H Q I h;refine attr_of hb (thn (he pins s σ H _ I h) λu s1 b9=>?_);obtain⟨x,H1,I1,rx,a,C,dx,fs,v,ex,ea,c,n,l,q⟩:=b9;subst ex;obtain rfl:u=Value.ref a:=rx;exact xD I1 ea c n l λu' s2 I2 ru=>#[v,H1,I2,ru,q]
def qZ(ha:PE X o ta)(hv:PE X value tv)(hs:Uh value (be (.Attribute o f b_)) pos.line X.env=pure false):PS X (.Assign [.Attribute o f b_] value pos) (sFld X.K ta tv f):=by
 intro pins s σ H D I h;refine UE (thn (hv pins s σ H _ I h) λu s1 ⟨y,H1,I1,ry,q⟩=>thn (ha pins s1 σ H1 _ I1 q) λov s2 hh=>?_) hs;obtain⟨x,H2,I2,rx,a,C,dx,fs,ex,ea,c,n,l,q2⟩:=hh;subst ex;obtain rfl:ov=Value.ref a:=rx;exact xE I2 ea c n l ry λs3 I3=>#[σ,_,I3,q2]
end
section
variable {X:Cx}{pins:List (KF×Uj)}{σ:St}{H:Hp}{s:Os}{A:T6}{E:KB->Os->Prop}{Q:KB->Os->Prop}{c:KB}{b:Bool}
inductive TyOf(K:Ex)(H:Hp):V->KB->Prop where
 |non:TyOf K H .non (.type "NoneType")
 |bl (x:Bool):TyOf K H (.bl x) (.type "bool")
 |int (i:Int):TyOf K H (.int i) (.type "int")
 |str (x:Str):TyOf K H (.str x) (.type "str")
 |flt (x:UInt64):TyOf K H (.flt x) (.type "float")
 |lst {a:KF} {xs:List V} (e:H a=some (.lst xs)):TyOf K H (.ref a) (.type "list")
 |frz {a:KF} {o:Uj} {xs:List V} (e:H a=some (.frz o (.lst xs))):TyOf K H (.ref a) (.type "list")
 |tup {a:KF} {xs:List V} (e:H a=some (.tup xs)):TyOf K H (.ref a) (.type "tuple")
 |dK {a:KF} {a9:List (Key×V)} (e:H a=some (.dK a9)):TyOf K H (.ref a) (.type "dict")
 |dT {a:KF} {a9:List (List Key×V)} (e:H a=some (.dT a9)):TyOf K H (.ref a) (.type "dict")
 |ins {a C dx:KF} {fs:List (Str×V)} (e:H a=some (.ins C dx fs)) (cl:Cls K C) (ha:GT K (.ref C) "__class__"=some (some (.builtin "object.__class__")))
   (hn:specialIn K (.builtin "object.__class__") "__get__"=be (be (.builtin "getset_descriptor.__get__"))) (htk:takesIn K (.builtin "object.__class__")=be true)
   (hm:Hy K C (.type "object")=be true):TyOf K H (.ref a) (.ref C)
def xF{x:V}{u t:KB}(I:Inv X pins σ H s)(rx:RelV x u)(ty:TyOf X.K H x t)(e:kitOne X.K t c=be b)(h:∀tk,Q (.bool b) {s with toks:=tk}):
  T4 (SL X.prog X.w) A (call (.builtin "isinstance") [u,c]) Q E s:=by
 cases ty with
 |non=>cases(show u=Value.none from rx);exact kia_one kitx_none I.kIn True.intro e (λz=>nomatch z) h
 |bl y=>cases(show u=Value.bool y from rx);exact kia_one kitx_bool I.kIn True.intro e (λz=>nomatch z) h
 |int i=>obtain⟨t,q⟩:=(show ∃t,u=Value.int i t from rx);cases q;exact kia_one kitx_int I.kIn True.intro e (λz=>nomatch z) h
 |str y=>obtain⟨t,q⟩:=(show ∃t,u=Value.str y t from rx);cases q;exact kia_one kitx_str I.kIn True.intro e (λz=>nomatch z) h
 |flt y=>obtain⟨t,q⟩:=(show ∃t,u=Value.float y t from rx);cases q;exact kia_one kitx_float I.kIn True.intro e (λz=>nomatch z) h
 |@lst a xs ea=>
  cases(show u=Value.ref a from rx);obtain⟨_,_,n,_,h1⟩:=(show ObjOk X.prog X.w H s.heap a (.lst xs)from I.hok a _ ea);exact kia_one kitx_list I.kIn #[_,h1,rfl] e (λz=>nomatch z) h
 |@frz a ob xs ea=>
  cases(show u=Value.ref a from rx);obtain⟨_,_,_,n,_,h1⟩:=(show ObjOk X.prog X.w H s.heap a (.frz ob (.lst xs))from I.hok a _ ea);exact kia_one kitx_list I.kIn #[_,h1,rfl] e (λz=>nomatch z) h
 |@tup a xs ea=>
  cases(show u=Value.ref a from rx);obtain⟨_,_,_,p⟩:=(show ObjOk X.prog X.w H s.heap a (.tup xs)from I.hok a _ ea);obtain⟨o,h1,h2,_⟩:=p;exact kia_one kitx_tuple I.kIn #[o,h1,h2] e (λz=>nomatch z) h
 |@dK a a9 ea=>
  cases(show u=Value.ref a from rx);obtain⟨_,_,vs,_,p⟩:=(show ObjOk X.prog X.w H s.heap a (.dK a9)from I.hok a _ ea);obtain⟨o,es,ep,h1,h2,_⟩:=p;exact kia_one kitx_dict I.kIn #[o,h1,h2.1] e (λz=>nomatch z) h
 |@dT a a9 ea=>
  cases(show u=Value.ref a from rx);obtain⟨_,_,xs,_,o,es,ep,h1,h2,_⟩:=(show ObjOk X.prog X.w H s.heap a (.dT a9)from I.hok a _ ea);exact kia_one kitx_dict I.kIn #[o,h1,h2.1] e (λz=>nomatch z) h
 |@ins a C dx fs ea cl ha hn htk hm=>
  cases(show u=Value.ref a from rx);obtain⟨mA,O,_⟩:=gJ I.hok ea;obtain⟨od,J,_⟩:=O.look;exact kia_one (kitx_own (cl.get _) cl.hd ha hn htk hm) I.kIn J e (λz=>nomatch z) h
end
structure Room(k:Nat)(A:T6):Prop where
 hd:A.handled=v7
 dp:A.depth+3*k+5<recursionLimit
 un:A.units+16*k+200<Vn
variable{k:Nat}
def Room.mono{j:Nat}(r:Room k A)(h:j<=k):Room j A:=#[r.hd,by have:=r.dp;lia,by have:=r.un;lia]
def Room.deeper(r:Room (k+1) A)(env:UP):Room k (A.deeper env):=
 #[r.hd,by have:=r.dp;show A.depth+1+3*k+5<_;lia,by have:=r.un;show A.units+3+16*k+200<_;lia]
variable{kw:List (Kq×KB)}
def xG:(A.under (.builtin "type.__call__" #[.ref C::us,kw])).depth=A.depth+1:=by
 first|rfl|simp[Around.under,Code.weight,Code.isCreation,Code.isGuard,Code.isCaller,Code.frames,Code.isFrame,guardIds]
def xH:(A.under (.builtin "type.__call__" #[.ref C::us,kw])).units=A.units+1:=by
 first|rfl|simp[Around.under,Code.cUnits,Code.frames,Code.isFrame]
def Room.make(r:Room (k+1) A)(C:KF)(us:List KB)(kw:List (Kq×KB)):Room k (A.under (.builtin "type.__call__" #[.ref C::us,kw])):=
 #[r.hd,by have:=r.dp;rw[xG];lia,by have:=r.un;rw[xH];lia]
def Room.depth(r:Room k A):A.depth<recursionLimit:=by have:=r.dp;lia
def Room.units(r:Room k A):A.units+64<Vn:=by have:=r.un;lia
def tNil:TA:=λ_ H Q=>Q [] H
def ra(ta:TE)(tr:TA):TA:=λσ H Q=>ta σ H λx H1=>tr σ H1 λxs H2=>Q (x::xs) H2
section
variable {X:Cx}{e:SZ}{es:List SZ}{te:TE}{t:TA}{pos:Ub}
def pa_nil:PA X [] tNil:=λ_ _ _ _ H Q I h=>Calls.spliced_nil #[[],H,I,.nil,h]
def bv(ha:PE X e te)(hr:PA X es t)(hs:autoParam (zSE X e es) zA0):PA X (e::es) (ra te t):=by
 intro pos pins s σ H Q I h;rw[hs];show T4 _ _ (spliced ((false,T_ e X.env)::UD pos (T7 es X.env))) _ _ s;refine Calls.spliced_cons (thn (ha pins s σ H _ I h) λu s1 b9=>?_);obtain⟨x,H1,I1,r1,q1⟩:=b9;exact thn (hr pos pins s1 σ H1 _ I1 q1) λus s2 ⟨xs,H2,I2,r2,q2⟩=>#[x::xs,H2,I2,.cons r1 r2,q2]
def tTup(t:TA):TE:=λσ H Q=>t σ H λxs H1=>xs.length<=sizeLine/\∀p,H1 p=v7->Q (.ref p) (upd H1 p (.tup xs))
def tLst(t:TA):TE:=λσ H Q=>t σ H λxs H1=>xs.length<=sizeLine/\∀p,H1 p=v7->Q (.ref p) (upd H1 p (.lst xs))
def rb{x1}(h:PA X es t):PE X (.Tuple es x1 pos) (tTup t):=by
 intro pins s σ H Q I hq;refine wpAny_Tuple_spliced (thn (h pos pins s σ H _ I hq) λus s1 ⟨xs,H1,I1,r,z,q⟩=>#[by rw[<-r.length];exact z,?_]);have hf:H1 s1.heap.objs.size=none:=I1.hok.fresh (GO _);refine#[.ref s1.heap.objs.size,upd H1 s1.heap.objs.size (.tup xs),I1.laid (t':=s1.toks) (λb u e=>Heap.get?_push_of_some _ e) (GO _) ?_,rfl,q _ hf];exact#[z,us,r,#[_,Heap.get?_push_size _ rfl,rfl,_,rfl]]
def jS(h:PA X es t):PE X (.List es pos) (tLst t):=by
 intro pins s σ H Q I hq;refine wpAny_List_spliced (thn (h pos pins s σ H _ I hq) λus s1 ⟨xs,H1,I1,r,z,q⟩=>#[by rw[<-r.length];exact z,?_]);have hf:H1 s1.heap.objs.size=none:=I1.hok.fresh (GO _);refine#[.ref s1.heap.objs.size,upd H1 s1.heap.objs.size (.lst xs),I1.laid (t':=s1.toks) (λb u e=>Heap.get?_push_of_some _ e) (GO _) ?_,rfl,q _ hf];exact#[z,us,0,r,Heap.get?_push_size _ rfl]
end
abbrev Sp:=List V->Hp->VK->XK->Prop
abbrev CXT:=List UP->Hp->Os->XK->KB->Os->Prop
structure Env0(P:T3)(w:T5)(K:Ex)(mg:Str->Option KB)(base:Heap)(A:T6)(outer:List UP)(s:Os)(H:Hp):Prop where
 frames:A.frames=be outer
 mod:Mod K mg base
 bs:∀b o,base.get? b=be o->s.heap.get? b=be o/\H b=v7
 bsz:base.objs.size<=s.heap.objs.size
 funs:s.heap.FunFrames base outer
 frf:∀b∈frs outer,H b=v7
 hok:HOk P w H s.heap
 bare:UT s.gens
def CE(outer:List UP)(P:T3)(w:T5)(H:Hp)(s:Os)(Q:VK)(u:KB)(s':Os):Prop:=
 ∃v H',s'.os=s.os/\UT s'.gens/\Un (frs outer) [] H H' s.heap s'.heap/\HOk P w H' s'.heap/\RelV v u/\Q v H'
def CR(CX:CXT)(outer:List UP)(P:T3)(w:T5)(H:Hp)(s:Os)(Q:VK)(E:XK)(r:Result)(s':Os):Prop:=
 match r with
 |.ok (.ret u)=>CE outer P w H s Q u s'
 |.ok _=>False
 |.error e=>CX outer H s E e s'
structure FnOk(P:T3)(w:T5)(K:Ex)(mg:Str->Option KB)(base:Heap)(CX:CXT)(k:Nat)(f:KF)(fd:Ua)(ps:List Str)(sp:Sp):Prop where
 len:∀vs H Q E,sp vs H Q E->vs.length=ps.length
 run:∀(A:T6) (outer:List UP) (s:Os) (H:Hp) (args:Args) (us:List KB) (vs:List V) (Q:VK) (E:XK),Room k A->Env0 P w K mg base A outer s H->UY s fd args (ps.zip us)->Vals vs us->sp vs H Q E->
  U3 (SL P w) A (.call (.ref f) args) (CR CX outer P w H s Q E) s
variable{f:KF}{mg:Kq->Option KB}{base:Heap}{CX:CXT}{fd:Ua}{ps:List Kq}{sp:Sp}
def FnOk.mono{j:Nat}(F:FnOk P w K mg base CX j f fd ps sp)(h:j<=k):
  FnOk P w K mg base CX k f fd ps sp:=#[F.len,λA outer s H args us vs Q E hr=>F.run A outer s H args us vs Q E (hr.mono h)]
def FnOk.imp{KW:Sp}(F:FnOk P w K mg base CX k f fd ps sp)
  (h:∀vs H Q E,KW vs H Q E->sp vs H Q E):FnOk P w K mg base CX k f fd ps KW:=
 #[λvs H Q E q=>F.len vs H Q E (h _ _ _ _ q),λA outer s H args us vs Q E hr he hb hv hs=>F.run A outer s H args us vs Q E hr he hb hv (h _ _ _ _ hs)]
variable{outer:List UP}
def Env0.make(e:Env0 P w K mg base A outer s H)(C:KF)(us:List KB)(kw:List (Kq×KB)):
  Env0 P w K mg base (A.under (.builtin "type.__call__" #[.ref C::us,kw])) outer s H:=#[by first|exact e.frames|(simpa[Around.under,Code.envs,Code.isFrame,pushEnvs]using e.frames),e.mod,e.bs,e.bsz,e.funs,e.frf,e.hok,e.bare]
section
variable {X:Cx}{pins:List (KF×Uj)}{σ:St}{H:Hp}{s s':Os}
def Inv.env0(I:Inv X pins σ H s):Env0 X.prog X.w X.K X.mg X.base X.A X.stack s H:=
 #[I.ok.frames,I.ok.mod,I.bs,GY I.ok.bsz I.sz,I.stack,I.stkFree,I.hok,I.bare]
def Inv.after{Q:VK}{u:KB}(I:Inv X pins σ H s)(h:CE X.stack X.prog X.w H s Q u s'):EP X pins σ Q u s':=by
 obtain⟨v,H',os,bare,un,hok,r,q⟩:=h;obtain⟨hh,g,d,t,Rn⟩:=s';obtain rfl:Rn=s.os:=os;exact#[v,H',I.call (h':=hh) (g':=g) (d':=d) (t':=t) (ch:=[]) un hok bare (λb z=>absurd z Ln),r,q]
end
def rg(sp:Sp)(f_:List V)(E:XK)(t:TA):TE:=λσ H Q=>t σ H λvs H1=>sp (vs++f_) H1 Q E
def xI(C:KF)(sp:Sp)(f_:List V)(E:XK)(t:TA):TE:=λσ H Q=>t σ H λvs H1=>∀x dx,H1 x=v7->H1 dx=v7->dx≠x->
 sp (.ref x::(vs++f_)) (upd (upd H1 dx (.own x)) x (.ins C dx [])) (λv H2=>v=.non/\Q (.ref x) H2) E
def Binds(K:Ex)(fd:Ua)(ps:List Kq)(ds:List KB):Prop:=
 ∀(s:Os) (us:List KB),K.In s.heap->(us++ds).length=ps.length->UY s fd #[us,[]] (ps.zip (us++ds))
def Binds.all(h:∀us:List KB,us.length=ps.length->UK fd #[us,[]]=pure (ps.zip us)):Binds K fd ps []:=λs us _ hl=>by
 rw[Hn]at hl ⊢;exact .of_eq (h us hl)
def fO(CX:CXT)(X:Cx)(E:XK):Prop:=∀(pins:List (KF×Uj)) (σ:St) (H:Hp) (s:Os) (e:KB) (s':Os),Inv X pins σ H s->CX X.stack H s E e s'->X.xe e s'
section
variable {X:Cx}{CX:CXT}{k:Nat}{f C:KF}{fd:Ua}{ps:List Kq}{sp:Sp}{f_:List V}{ds:List KB}{E:XK}{x m:Kq}{p pos apos:Ub}{e o:SZ}{es:List SZ}{ta:TE}{t:TA}
variable{pins:List (KF×Uj)}{us:List KB}{vs:List V}
def xJ{σ:St}{H:Hp}{s:Os}{Q:VK}(F:FnOk X.prog X.w X.K X.mg X.base CX k f fd ps sp)(hr:Room k X.A)(hb:Binds X.K fd ps ds)(hd:Vals f_ ds)(hx:fO CX X E)
  (I:Inv X pins σ H s) (r:Vals vs us) (h:sp (vs++f_) H Q E):T4 (SL X.prog X.w) X.A (call (.ref f) us) (EP X pins σ Q) X.xe s:=by
 have r2:Vals (vs++f_) (us++ds):=r.append hd;have hl:(us++ds).length=ps.length:=by rw[<-r2.length];exact F.len _ _ _ _ h
 refine UF (UC (F.run X.A X.stack s H #[us,[]] (us++ds) (vs++f_) Q E hr I.env0 (hb s us I.kIn hl) r2 h) λr s' hq=>?_);cases r with
 |error e=>exact hx pins σ H s e s' I hq
 |ok fl=>
  cases fl with
  |ret u=>exact I.after hq
  |next=>exact False.elim hq
  |brk=>exact False.elim hq
  |cont=>exact False.elim hq
def xK(F:FnOk X.prog X.w X.K X.mg X.base CX k f fd ps sp)(hr:Room k X.A)(hg:Gl X x)(hm:X.mg x=be (.ref f))(hk:keepIn X.K (.ref f)=true)(hb:Binds X.K fd ps ds)(hd:Vals f_ ds)(hx:fO CX X E)
  (ha:PA X (e::es) t) (d5:autoParam (zND x) zA1) (he:autoParam (zSE X e es) zA0) (c7:autoParam (zPL X pos es) zA0):
  PE X (.Call (.Name x p) (e::es) [] pos) (rg sp f_ E t):=by
 intro pins s σ H Q I h;refine Uc (cx I hg hm ?_ d5);refine callWith_K (h₀:=X.base) I.ok.mod.kin hk (thn (ha pos pins s σ H _ I h) λus s1 ⟨vs,H1,I1,r,q⟩=>#[I1.kIn,?_]) he c7;exact xJ F hr hb hd hx I1 r q
structure Mk(K:Ex)(C f:KF):Prop where
 makes:makesIn K C=true
 init:GT K (.ref C) "__init__"=be (be (.ref f))
 fn:isFn K (.ref f)=true
 kp:keepIn K (.ref C)=true
def xL{σ:St}{H:Hp}{s:Os}{Q:VK}(M:Mk X.K C f)(F:FnOk X.prog X.w X.K X.mg X.base CX k f fd ps sp)(hr:Room (k+1) X.A)(hb:Binds X.K fd ps ds)(hd:Vals f_ ds)
  (hx:fO CX X E) (I:Inv X pins σ H s) (r:Vals vs us)
  (h:∀x dx,H x=v7->H dx=v7->dx≠x->sp (.ref x::(vs++f_)) (upd (upd H dx (.own x)) x (.ins C dx [])) (λv H2=>v=.non/\Q (.ref x) H2) E):
  T4 (SL X.prog X.w) X.A (call (.ref C) us) (EP X pins σ Q) X.xe s:=by
 have hq:=h (s.heap.objs.size+1) s.heap.objs.size (I.hok.fresh (HL _)) (I.hok.fresh (GO _)) (GW (Jz _));have I2:=Inv.made (C:=C) I;have r2:Vals (V.ref (s.heap.objs.size+1)::(vs++f_)) (Value.ref (s.heap.objs.size+1)::(us++ds)):=.cons rfl (r.append hd);have hl:(Value.ref (s.heap.objs.size+1)::us++ds).length=ps.length:=by
  have e:=r2.length;rw[F.len _ _ _ _ hq]at e;exact e.symm
 refine UF (xC (f:=f) I.kIn M.makes M.init (beq_iff_eq.mp M.fn) (UC (F.run _ X.stack _ _ #[Value.ref (s.heap.objs.size+1)::us,[]] (Value.ref (s.heap.objs.size+1)::(us++ds)) _ _ E (hr.make C us [])
  (I2.env0.make C us []) (hb _ (Value.ref (s.heap.objs.size+1)::us) I2.kIn hl) r2 hq) λr s' Ks=>?_))
 cases r with
 |error e=>exact hx pins σ _ _ e s' I2 Ks
 |ok fl=>
  cases fl with
  |ret u=>
   obtain⟨v,H',I3,rv,ev,q3⟩:=I2.after Ks;subst ev;exact#[rv,#[V.ref (s.heap.objs.size+1),H',I3,rfl,q3]]
  |next=>exact False.elim Ks
  |brk=>exact False.elim Ks
  |cont=>exact False.elim Ks
def gK(M:Mk X.K C f)(F:FnOk X.prog X.w X.K X.mg X.base CX k f fd ps sp)(hr:Room (k+1) X.A)(hg:Gl X x)(hm:X.mg x=be (.ref C))(hb:Binds X.K fd ps ds)(hd:Vals f_ ds)(hx:fO CX X E)
  (ha:PA X (e::es) t) (d5:autoParam (zND x) zA1) (he:autoParam (zSE X e es) zA0) (c7:autoParam (zPL X pos es) zA0):
  PE X (.Call (.Name x p) (e::es) [] pos) (xI C sp f_ E t):=by
 intro pins s σ H Q I h;refine Uc (cx I hg hm ?_ d5);refine callWith_K (h₀:=X.base) I.ok.mod.kin M.kp (thn (ha pos pins s σ H _ I h) λus s1 ⟨vs,H1,I1,r,q⟩=>#[I1.kIn,?_]) he c7;exact xL M F hr hb hd hx I1 r q
end
structure FnScope(N P:List Str)(sc:Uv):Prop where
 kind:sc.kind=.function
 co:sc.isCoroutine=false
 gen:sc.isGenerator=false
 nd:N.Nodup
 pre:N.take P.length=P
 par:∀x∈P,sc.names.lookup x=be .local\/sc.names.lookup x=be .cell
 nofree:∀y∈sc.names,y.2≠.free
def rh{kindOf:Kq->Option UL}{x:Kq}:∀{binds:List (Kq×KB)} {m:Kq->Option KB},(∀v,(x,v)∉binds)->Vo kindOf binds m x=m x
 |[],_,_=>rfl
 |(n,v)::r,m,h=>by
  unfold Vo;rw[rh λw hw=>h w (GR _ hw)];split
  .have:x≠n:=by rintro rfl;exact h v GU
   simp[this]
  .rfl
def bindC_out{kindOf:Kq->Option UL}{x:Kq}:∀{binds:List (Kq×KB)} {m:Kq->Option KB},(∀v,(x,v)∉binds)->Vp kindOf binds m x=m x
 |[],_,_=>rfl
 |(n,v)::r,m,h=>by
  unfold Vp;rw[bindC_out λw hw=>h w (GR _ hw)];split
  .rfl
  .have:x≠n:=by rintro rfl;exact h v GU
   simp[this]
def bindL_get{kindOf:Kq->Option UL}{x:Kq}{v:KB}:∀{P:List Kq} {vs:List KB} {i:Nat} {m:Kq->Option KB},P.Nodup->P[i]?=be x->vs[i]?=be v->kindOf x=be .local->
  Vo kindOf (P.zip vs) m x=be v
 |[],_,_,_,_,h,_,_=>by simp at h
 |_::_,[],_,_,_,_,h,_=>by simp at h
 |p::P,w::vs,0,m,nd,h1,h2,hk=>by
  simp at h1 h2;subst h1;subst h2;show Vo kindOf ((p,w)::P.zip vs) m p=_;unfold Vo;rw[rh λv hv=>(HC.mp nd).1 (IQ hv).1,if_pos hk];simp
 |p::P,w::vs,i+1,m,nd,h1,h2,hk=>by
  show Vo kindOf ((p,w)::P.zip vs) m x=_;unfold Vo;exact bindL_get (i:=i) (HC.mp nd).2 (by simpa using h1) (by simpa using h2) hk
def rj{kindOf:Kq->Option UL}{x:Kq}{v:KB}:∀{P:List Kq} {vs:List KB} {i:Nat} {m:Kq->Option KB},P.Nodup->P[i]?=be x->vs[i]?=be v->kindOf x≠be .local->
  Vp kindOf (P.zip vs) m x=be v
 |[],_,_,_,_,h,_,_=>by simp at h
 |_::_,[],_,_,_,_,h,_=>by simp at h
 |p::P,w::vs,0,m,nd,h1,h2,hk=>by
  simp at h1 h2;subst h1;subst h2;show Vp kindOf ((p,w)::P.zip vs) m p=_;unfold Vp;rw[bindC_out λv hv=>(HC.mp nd).1 (IQ hv).1,if_neg hk];simp
 |p::P,w::vs,i+1,m,nd,h1,h2,hk=>by
  show Vp kindOf ((p,w)::P.zip vs) m x=_;unfold Vp;exact rj (i:=i) (HC.mp nd).2 (by simpa using h1) (by simpa using h2) hk
def start(N:List Kq)(vs:List V):St:=vs.map be++Hu (N.length-vs.length) v7
def cxOf(CX:CXT)(P:T3)(w:T5)(K:Ex)(mg:Kq->Option KB)(base:Heap)(N:List Kq)(qual:Kq)(scope:Uv)(f:KF)(cd:KB)(A:T6)(outer:List UP)(s:Os)(H:Hp)(E:XK):Cx where
 prog:=P
 w:=w
 K:=K
 mg:=mg
 base:=base
 A:=A.deeper (Ud qual scope s.heap.objs.size f cd)
 N:=N
 s₀:=s
 H₀:=H
 env:=Ud qual scope s.heap.objs.size f cd
 outer:=outer
 stack:=Ud qual scope s.heap.objs.size f cd::outer
 ex:=[]
 calm:=true
 fn:=λ_=>true
 pn:=[]
 xe:=λe s'=>T4 (SL P w) (A.deeper (Ud qual scope s.heap.objs.size f cd)) (Vv (Ud qual scope s.heap.objs.size f cd) e) (λ_ N6=>CX outer H s E e N6) (λe' N6=>CX outer H s E e' N6) s'
def cell_has{sc:Uv}{n:Nat}{x:Kq}(h:sc.names.lookup x=be .cell):∃c,(cellsFrom n sc.names []).lookup x=be c:=by
 have q:=cellsFrom_some sc.names n [] (.inl h);exact Option.isSome_iff_exists.mp q
variable{N:List Kq}{scope:Uv}
def xM{qual:Kq}{cd:KB}{s1:Os}{E:XK}{vs:List V}
  (S:FnScope N ps scope) (hd:A.handled=v7) (e0:Env0 P w K mg base A outer s H) (hl:vs.length=ps.length) (r:Vals vs us)
  (x:InCallC s s.heap.objs.size (Vo (Ud qual scope s.heap.objs.size f cd).kindOf (ps.zip us) λ_=>v7) (cellsFrom (s.heap.objs.size+1) scope.names []) (Vp (Ud qual scope s.heap.objs.size f cd).kindOf (ps.zip us) λ_=>v7) s1):
  Inv (cxOf CX P w K mg base N qual scope f cd A outer s H E) [] (start N vs) H s1:=by
 have c7:ps.length<=N.length:=by have:=congrArg Ii S.pre;rw[Ij]at this;lia
 obtain⟨h1,tk,rfl,hk⟩:=x.done;have Mm:∀b:KF,b∉(cxOf CX P w K mg base N qual scope f cd A outer s H E).ex:=λb z=>absurd (show b∈([]:List KF)from z) Ln;refine⟨#[e0.mod,S.kind,rfl,rfl,GO _,λy z c h1 h2=>?_,λy hy=>?_,λy c _ h=>?_,λ_=>hd,Around.frames_deeper e0.frames,.inr #[rfl,rfl],λb z=>absurd z (Mm b),e0.bs,e0.bsz,λb _ _=>Mm b,λb z=>absurd z (Mm b),e0.funs,e0.frf],
  rfl,e0.bare,Un.kept hk,#[_,x.toInCall.ns,λi y v h1 h2 h3=>?_],λy c h=>#[_,x.cell y c h],e0.hok.fresh (GO _),λy c h=>?_,λp hp=>absurd (show p∈([]:List (KF×Uj))from hp) Ln,e0.hok.kept hk,?_⟩
 .exact name_of_addr x.apart (PySem.mem_of_lookup h1) (PySem.mem_of_lookup h2)
 .have hy:scope.names.lookup y=be .cell\/scope.names.lookup y=be .free:=hy;rcases hy with hy|hy
  .exact cell_has hy
  .exact absurd rfl (S.nofree _ (PySem.mem_of_lookup hy))
 .exact Ix (x.above y c (PySem.mem_of_lookup h))
 .have hi:i<vs.length:=by
   unfold start at h2;by_cases hi:i<vs.length
   .exact hi
   .rw[HD (by simpa using hi)]at h2;rw[IR]at h2;split at h2<;>cases h2
  have ha:vs[i]?=be v:=by
   unfold start at h2;rw[Hv (by simpa using hi),GX]at h2;cases e:vs[i]? with
   |none=>rw[e]at h2;cases h2
   |some a=>rw[e]at h2;cases h2;rfl
  obtain⟨u,hu,rv⟩:=r.get ha;have hp:ps[i]?=be y:=by
   rw[<-S.pre,IC KK];exact h1
  have Qq:ps.Nodup:=by rw[<-S.pre];exact S.nd.sublist (List.take_sublist _ _)
  refine#[u,rv,?_];rcases S.par y (Hz hp)with k|k
  .exact .inl #[k,bindL_get Qq hp hu k]
  .obtain⟨c,e⟩:=cell_has (n:=s.heap.objs.size+1) k;refine .inr #[.inl k,c,e,?_];have q:=x.cell y c e;rw[rj Qq hp hu (by show scope.names.lookup y≠_;rw[k];decide)]at q;exact q
 .exact e0.hok.fresh (Ix (x.above y c (PySem.mem_of_lookup h)))
 .unfold start;show _=N.length;rw[G0,GQ,List.length_replicate];lia
def xN{name qual:Kq}{params:Arguments}{body:List SB}{dV kV doc pm cdv ct oc:KB}{an od:Option KF}
  {osl:Array (Option KB)}   (lk:K.lookup f=be #[oc,od,.func (fnOf name qual params body scope dV kV doc pm an cdv ct),osl]) (gt:codeIn K cdv qual=true) (S:FnScope N ps scope)
  (len:∀vs H Q E,sp vs H Q E->vs.length=ps.length)
  (a8:∀(A:T6) (outer:List UP) (s:Os) (H:Hp) (vs:List V) (Q:VK) (E:XK),Room k (A.deeper (Ud qual scope s.heap.objs.size f cdv))->sp vs H Q E->
   ∃t,PSs (cxOf CX P w K mg base N qual scope f cdv A outer s H E) body t/\t {nx:=λ_ H'=>Q .non H',rt:=Q} (start N vs) H):
  FnOk P w K mg base CX (k+1) f (fnOf name qual params body scope dV kV doc pm an cdv ct) ps sp:=by
 refine#[len,λA outer s H args us vs Q E hr e0 hb r z6=>?_];have hl:=len _ _ _ _ z6;have KX:K.In s.heap:=e0.mod.kin.keeps λb o e=>(e0.bs b o e).1;have Ro:s.heap.NoLimit:=e0.mod.nolimit.keeps λb o e=>(e0.bs b o e).1;have Mn:∀y∈ps.zip us,scope.names.lookup y.1=be .local\/(scope.names.lookup y.1=be .cell/\((cellsFrom (s.heap.objs.size+1) scope.names []).lookup y.1).isSome=true):=λ⟨n,v⟩ hy=>by
  rcases S.par n (IQ hy).1 with q|q
  .exact .inl q
  .exact .inr #[q,cellsFrom_some _ _ _ (.inl q)]
 refine codeAny_call_function hr.depth (KX _ _ lk) rfl S.co S.gen rfl (codeRec_of KX gt) (hb _ _ _ _ ?_);refine wpAny_newFunctionEnv_cells S.kind Mn λenv he s1 x=>?_;subst he;refine#[Ro.keeps x.toInCall.keep,codeAny_func ?_];obtain⟨t,ht,hq⟩:=a8 A outer s H vs Q E (hr.deeper _) z6;have I:Inv (cxOf CX P w K mg base N qual scope f cdv A outer s H E) [] (start N vs) H s1:=xM S hr.hd e0 hl r x;refine Ug (ht [] s1 (start N vs) H _ I hq) (λfl s' hs=>?_) λe s' hs=>hs;have d_:∀{σ':St} {H':Hp} {v:V} {u:KB},Inv (cxOf CX P w K mg base N qual scope f cdv A outer s H E) [] σ' H' s'->RelV v u->Q v H'->CE outer P w H s Q u s':=
  λ{σ' H' v u} J rv q=>#[v,H',J.os,J.bare,J.base,J.hok,rv,q]
 cases fl with
 |ret u=>
  obtain⟨v,σ',H',J,rv,q⟩:=hs;exact d_ J rv q
 |next=>
  obtain⟨σ',H',J,q⟩:=hs;exact d_ (v:=V.non) (u:=Value.none) J rfl q
 |brk=>
  obtain⟨_,_,_,q⟩:=hs;exact False.elim q
 |cont=>
  obtain⟨_,_,_,q⟩:=hs;exact False.elim q
section
variable {X:Cx}{x:Kq}{p pos:Ub}{e:SZ}{es:List SZ}{t:TA}{id T:String}{r:List V->Hp->VK->Prop}
def tCB(r:List V->Hp->VK->Prop)(t:TA):TE:=λσ H Q=>t σ H λvs H1=>r vs H1 Q
def fP(hc:bK X (.builtin id) r)(hg:Gl X x)(hm:X.mg x=v7)(hv:Ui x=be (.builtin id))(ha:PA X (e::es) t)(hn:autoParam (x≠"__name__") zA1)(d5:autoParam (zND x) zA1)
  (he:autoParam (zSE X e es) zA0) (c7:autoParam (zPL X pos es) zA0):PE X (.Call (.Name x p) (e::es) [] pos) (tCB r t):=by
 intro pins s σ H Q I h;refine Uc (dI I hg hm hv ?_ hn d5);exact PyProof.Rows.callWith_builtin1 (thn (ha pos pins s σ H _ I h) λus s1 ⟨vs,H1,I1,r1,q1⟩=>hc pins s1 σ H1 vs us Q I1 r1 q1) he c7
def jT(hc:bK X (.type T) r)(hg:Gl X x)(hm:X.mg x=v7)(hv:Ui x=be (.type T))(ha:PA X (e::es) t)(hn:autoParam (x≠"__name__") zA1)(d5:autoParam (zND x) zA1)
  (he:autoParam (zSE X e es) zA0) (c7:autoParam (zPL X pos es) zA0):PE X (.Call (.Name x p) (e::es) [] pos) (tCB r t):=by
 intro pins s σ H Q I h;refine Uc (dI I hg hm hv ?_ hn d5);exact PyProof.Rows.callWith_type1 (thn (ha pos pins s σ H _ I h) λus s1 ⟨vs,H1,I1,r1,q1⟩=>hc pins s1 σ H1 vs us Q I1 r1 q1) he c7
end
end L2
namespace HT
open PySem PyProof.Rows
section
variable {prog:T3}{w:T5}{A:T6}{E:KB->Os->Prop}{s:Os}
variable{Q:KB->Os->Prop}
def cat_tup{t b:KF}{vs ws:List KB}(ht:IsTup s.heap t vs.toArray)(hb:IsTup s.heap b ws.toArray)(hv:vs≠[])
  (h1:ws=[]->Q (.ref t) s) (h2:ws≠[]->Q (.ref s.heap.objs.size) {s with heap:=s.heap.push {cls:=.type "tuple",data:=.seq (vs++ws).toArray} })
  (j7:vs.length+ws.length<=sizeLine):T4 (SL prog w) A (Uq .Add (.ref t) (.ref b)) Q E s:=by
 obtain⟨⟨cls,dd,data,sl⟩,ho,hc,n,hd⟩:=id ht;obtain⟨⟨Rp,Qr,data2,Qt⟩,Nt,Qu,n2,LI⟩:=id hb;simp only at hc hd Qu LI;subst hc hd Qu LI;have e:vs.toArray++ws.toArray=(vs++ws).toArray:=Ln
 by_cases hw:ws=[]
 .exact concat_meets #[_,ho,rfl] #[_,Nt,rfl] noFill_tuple_add seq_tuple_add PySem.F.slot_tuple_add PySem.F.entry_tuple_add (PySem.F.args_tuple_add_2 _ _)
   (tuple_addW1 t b vs.toArray ws.toArray n n2 dd Qr sl Qt (by simpa using hv) (by simp[hw])) #[ho,Nt,h1 hw]
 .refine concat_meets #[_,ho,rfl] #[_,Nt,rfl] noFill_tuple_add seq_tuple_add PySem.F.slot_tuple_add PySem.F.entry_tuple_add (PySem.F.args_tuple_add_2 _ _)
   (tuple_addW2 t b vs.toArray ws.toArray n n2 dd Qr sl Qt (by simpa using hv) (by simpa using hw) (by rw[GZ,GZ];exact j7)) #[ho,Nt,?_]
  rw[e];exact h2 hw
def sIx(n d:Nat):Option Int->Nat
 |none=>d
 |some v=>if v<0 then(v+(n:Int)).toNat else min v.toNat n
def sIx_none(n d:Nat):sIx n d v7=d:=rfl
def sIx_nat(n d k:Nat):sIx n d (be (k:Int))=min k n:=by
 show(if(k:Int)<0 then((k:Int)+(n:Int)).toNat else min (k:Int).toNat n)=min k n;rw[if_neg KK,Hw]
def sIx_le(n d:Nat)(hd:d<=n)(o:Option Int):sIx n d o<=n:=by
 cases o with
 |none=>exact hd
 |some v=>
  show(if v<0 then(v+(n:Int)).toNat else min v.toNat n)<=n;by_cases hv:v<0
  .rw[if_pos hv];lia
  .rw[if_neg hv];exact Nat.min_le_right _ _
def rk(v:Int)(n d:Nat):(if v<0 then max (v+(n:Int)) 0 else min v (n:Int))=((sIx n d (be v):Nat):Int):=by
 show(if v<0 then max (v+(n:Int)) 0 else min v (n:Int))=(((if v<0 then(v+(n:Int)).toNat else min v.toNat n):Nat):Int);by_cases hv:v<0
 .simp only[if_pos hv];lia
 .simp only[if_neg hv];lia
def xO(lo hi:Option Int)(n:Nat):Builtin.Slice.sliceAdjust lo hi 1 (n:Int)=(((sIx n 0 lo:Nat):Int),((sIx n n hi:Nat):Int)):=by
 have h1:¬((1:Int)<0):=KK
 unfold Builtin.Slice.sliceAdjust;simp only[h1,if_false];refine Prod.ext ?_ ?_
 .cases lo with
  |none=>rfl
  |some v=>exact rk v n 0
 .cases hi with
  |none=>rfl
  |some v=>exact rk v n n
def xP(i j:Nat):Builtin.Slice.slicePlaces (i:Int) (j:Int) 1=j-i:=by
 unfold Builtin.Slice.slicePlaces;have h1:(1:Int)>0:=KK
 simp only[h1,if_true,Int.ediv_one];split<;>lia
def rl{v:KB}{o:Option Int}{Q:Option Int->Os->Prop}(p:Va v o)(h:Q o s):T4 (SL prog w) A (Builtin.Slice.slicePartIndex v) Q E s:=by
 cases p with
 |none=>exact slicePart_none h
 |int i t=>exact slicePart_int h
variable{lo hi:Option Int}
def xQ{sl:KF}{vl vu:KB}{n:Nat}{Q:Int×Int×Nat->Os->Prop}(hs:s.heap.IsSliceOf sl vl vu .none)(pl:Va vl lo)(pu:Va vu hi)
  (h:Q (((sIx n 0 lo:Nat):Int),1,sIx n n hi-sIx n 0 lo) s):T4 (SL prog w) A (Builtin.Slice.sliceApplied (.ref sl) (pure (n:Int))) Q E s:=by
 obtain⟨os,Kt,Qv,Nu⟩:=id hs;unfold Builtin.Slice.sliceApplied Builtin.Slice.sliceFields;refine KM (KM (UH Kt Nu (x:=vl) rfl (KM (UH Kt Nu (x:=vu) rfl (KM (UH Kt Nu (x:=.none) rfl (P3 ?_)))))));refine KM (slicePart_none ?_);show T4 _ _ (if((1:Int)==0)=true then _ else _) _ _ s;rw[if_neg Lj];refine KM (rl pl (KM (rl pu (KM (P3 ?_)))));show T4 _ _ (match Builtin.Slice.sliceAdjust lo hi 1 (n:Int)with|(lo,hi)=>pure (lo,(1:Int),Builtin.Slice.slicePlaces lo hi 1)) _ _ s;rw[xO lo hi n];show T4 _ _ (pure (((sIx n 0 lo:Nat):Int),(1:Int),Builtin.Slice.slicePlaces ((sIx n 0 lo:Nat):Int) ((sIx n n hi:Nat):Int) 1)) _ _ s;rw[xP];exact P3 h
def xR(xs:Array KB)(i k:Nat):((GS k).filterMap λ(m:Nat)=>xs[((i:Int)+(m:Int)*1).toNat]?).toArray=((xs.toList.drop i).take k).toArray:=by
 have e:(λ(m:Nat)=>xs[((i:Int)+(m:Int)*1).toNat]?)=λm=>xs[i+m]?:=by
  funext m;have:((i:Int)+(m:Int)*1).toNat=i+m:=KK
  rw[this]
 rw[e];have:=pick_run xs i k;rw[JA]at this;have e2:((λx=>xs[x]?) ∘ λx=>i+x)=λm=>xs[i+m]?:=rfl;rw[e2]at this;rw[this]
def getItem_tuple_cut{t sl:KF}{items:Array KB}{vl vu:KB}(ht:IsTup s.heap t items)(hs:s.heap.IsSliceOf sl vl vu .none)(pl:Va vl lo)(pu:Va vu hi)
  (hw:¬(sIx items.size 0 lo=0/\sIx items.size items.size hi=items.size))
  (h:Q (.ref s.heap.objs.size) {s with heap:=s.heap.push {cls:=.type "tuple",data:=.seq ((items.toList.drop (sIx items.size 0 lo)).take (sIx items.size items.size hi-sIx items.size 0 lo)).toArray} })
  (j7:items.size<=sizeLine):T4 (SL prog w) A (Ve (.ref t) (.ref sl)) Q E s:=by
 have i9:sizeOk (.seq ((items.toList.drop (sIx items.size 0 lo)).take (sIx items.size items.size hi-sIx items.size 0 lo)).toArray):=by
  show((items.toList.drop (sIx items.size 0 lo)).take (sIx items.size items.size hi-sIx items.size 0 lo)).toArray.size<=sizeLine;rw[GZ,Ij,HE,Iz];lia
 have hj:sIx items.size items.size hi<=items.size:=sIx_le _ _ (GO _) hi;obtain⟨os,Kt,Qv,Nu⟩:=id hs;have Rq:s.TypeIs (.ref sl) "slice":=#[os,Kt,Qv];unfold Ve
 try with_reducible refine Up ?_
 first|refine KM (P3 ?_)|skip
 refine KM (wpAny_sequenceKey ht.typeIs Lj ?_);refine KM (wpAny_callSpecial?_slot (name:=Str.ofString "__getitem__") ht.typeIs PyProof.Rows.slot_tuple_getitem
  (wpAny_call_entry PyProof.Rows.slot_tuple_getitem ht.typeIs entry_tuple_getitem ?_ (args_tuple_getitem _ _)))
 show T4 _ _ (Builtin.Tuple.tupleItemsOf (.ref t)>>=_) _ _ s;refine KM (tupleItemsOf_ ht ?_);refine KM (wpAny_typeOf Rq ?_);rw[if_pos Lj];refine KM (xQ hs pl pu ?_);have LJ:¬((((sIx items.size 0 lo:Nat):Int)==0&&(1:Int)==1&&(sIx items.size items.size hi-sIx items.size 0 lo)==items.size)=true):=by
  intro q;rw[Hj,Hj]at q;have q1:((sIx items.size 0 lo:Nat):Int)=0:=eq_of_beq q.1.1;have q2:sIx items.size items.size hi-sIx items.size 0 lo=items.size:=eq_of_beq q.2;exact hw #[KK,KK]
 show T4 _ _ (if(((sIx items.size 0 lo:Nat):Int)==0&&(1:Int)==1&&(sIx items.size items.size hi-sIx items.size 0 lo)==items.size)=true then _ else _) _ _ s;rw[if_neg LJ,xR]
 first
  |exact KM (m:=Builtin.Tuple.tupleExact _) (Ue (P3 ⟨_,rfl,P3 h⟩) i9)
  |exact KM (m:=Builtin.Tuple.tupleExact _) (Ue (KM (P3 (P3 ⟨_,rfl,P3 h⟩))) i9)
  |exact KM (KM (m:=Builtin.Tuple.tupleExact _) (Ue (P3 (P3 ⟨_,rfl,P3 h⟩)) i9))
  |exact KM (KM (m:=Builtin.Tuple.tupleExact _) (Ue (P3 ⟨_,rfl,P3 h⟩) i9))
end
end HT
namespace L2
open PySem PySem.Spec PyProof.Rows
abbrev TO:=St->Hp->(Option Int->Hp->Prop)->Prop
def PO(X:Cx)(e:Option SZ)(t:TO):Prop:=
 ∀(pins:List (KF×Uj)) (s:Os) (σ:St) (H:Hp) (Q:Option Int->Hp->Prop),Inv X pins σ H s->t σ H Q->
  T4 (SL X.prog X.w) X.A (evalPart e X.env) (λu s'=>∃o H',Inv X pins σ H' s'/\Va u o/\Q o H') X.xe s
def xS:TO:=λ_ H Q=>Q v7 H
def xT(t:TE):TO:=λσ H Q=>t σ H λx H1=>∃i,x=.int i/\Q (be i) H1
section
variable {X:Cx}{e:SZ}{te:TE}{lo hi:Option SZ}{tl th:TO}{pos p2:Ub}
def jU:PO X v7 xS:=by
 intro pins s σ H Q I h;rw[evalPart_none];exact P3 #[v7,H,I,.none,h]
def jV(h:PE X e te):PO X (be e) (xT te):=by
 intro pins s σ H Q I hw;rw[evalPart_some];refine thn (h pins s σ H _ I hw) λu s1 b9=>?_;obtain⟨x,H1,I1,r1,q1⟩:=b9;obtain⟨i,rfl,q⟩:=q1;obtain⟨t,rfl⟩:=r1;exact#[be i,H1,I1,.int i t,q]
def SlR(X:Cx)(r:V->Option Int->Option Int->Hp->VK->Prop):Prop:=
 ∀(pins:List (KF×Uj)) (s:Os) (σ:St) (H:Hp) (x:V) (v vl vu:KB) (lo hi:Option Int) (sl:KF) (Q:VK),Inv X pins σ H s->RelV x v->s.heap.IsSliceOf sl vl vu .none->Va vl lo->Va vu hi->r x lo hi H Q->
  ∃T id,typeLookup (.type T) "__getitem__"=pure (be (.builtin id))/\s.TypeIs v T/\T4 (SL X.prog X.w) X.A (Ve v (.ref sl)) (EP X pins σ Q) X.xe s
variable{r:V->Option Int->Option Int->Hp->VK->Prop}
def SlR.or{r':V->Option Int->Option Int->Hp->VK->Prop}(h:SlR X r)(h':SlR X r'):SlR X (λx lo hi H Q=>r x lo hi H Q\/r' x lo hi H Q):=by
 intro pins s σ H x v vl vu lo hi sl Q I rx hs pl pu q;rcases q with q|q
 .exact h pins s σ H x v vl vu lo hi sl Q I rx hs pl pu q
 .exact h' pins s σ H x v vl vu lo hi sl Q I rx hs pl pu q
def tSl(r:V->Option Int->Option Int->Hp->VK->Prop)(te:TE)(tl th:TO):TE:=λσ H Q=>te σ H λx H1=>tl σ H1 λl H2=>th σ H2 λu H3=>r x l u H3 Q
def gL(hr:SlR X r)(he:PE X e te)(hl:PO X lo tl)(hu:PO X hi th):PE X (.Subscript e (.Slice lo hi v7 p2) pos) (tSl r te tl th):=by
 intro pins s σ H Q I h;refine Subscript_ (thn (he pins s σ H _ I h) λv s1 b9=>?_);obtain⟨x,H1,I1,r1,q1⟩:=b9;refine wpAny_Slice (thn (hl pins s1 σ H1 _ I1 q1) λvl s2 ⟨l,H2,I2,pl,q2⟩=>thn (hu pins s2 σ H2 _ I2 q2) λvu s3 b9=>?_);obtain⟨u,H3,I3,pu,q3⟩:=b9;rw[evalPart_none];refine P3 ?_;have I4:Inv X pins σ H3 {s3 with heap:=s3.heap.push {cls:=.type "slice",data:=.fields [vl,vu,.none].toArray} }:=I3.kept (t':=s3.toks) λb ob q=>Heap.get?_push_of_some _ q;obtain⟨T,id,hT,ht,hg⟩:=hr pins {s3 with heap:=s3.heap.push {cls:=.type "slice",data:=.fields [vl,vu,.none].toArray} } σ H3 x v vl vu l u s3.heap.objs.size Q I4 r1 (Heap.IsSliceOf.new ..) pl pu q3;show T4 (SL X.prog X.w) X.A (subscriptTail e (.Slice lo hi v7 p2) v (.ref s3.heap.objs.size)) (EP X pins σ Q) X.xe {s3 with heap:=s3.heap.push {cls:=.type "slice",data:=.fields [vl,vu,.none].toArray} };exact tail_any (ops:=[.ref s3.heap.objs.size,v]) ht hT hg (by with_unfolding_all rfl)
def cutV(xs:List V)(lo hi:Option Int):List V:=(xs.drop (HT.sIx xs.length 0 lo)).take (HT.sIx xs.length xs.length hi-HT.sIx xs.length 0 lo)
def rn(xs:List V)(lo hi:Option Int):(cutV xs lo hi).length<=xs.length:=by
 unfold cutV;rw[Ij,HE];lia
def rSlT(K:Ex):V->Option Int->Option Int->Hp->VK->Prop:=λx lo hi H Q=>∃a xs,x=.ref a/\SqT K H a xs/\
 ¬(HT.sIx xs.length 0 lo=0/\HT.sIx xs.length xs.length hi=xs.length)/\∀p,H p=v7->Q (.ref p) (upd H p (.tup (cutV xs lo hi)))
def rq:SlR X (rSlT X.K):=by
 intro pins s σ H x v vl vu lo hi sl Q I rx hs pl pu h;obtain⟨a,xs,rfl,hx,hw,q⟩:=h;cases rx;obtain⟨its,r,ht,hz⟩:=I.tuple hx;have b7:its.toArray.size=xs.length:=by rw[GZ];exact r.length.symm
 refine#["tuple",_,PyProof.Rows.slot_tuple_getitem.lookup,ht.typeIs,?_];refine HT.getItem_tuple_cut ht hs pl pu (by rw[b7];exact hw) ?_ (by rw[b7];exact hz);rw[b7];refine#[.ref s.heap.objs.size,_,I.laid (t':=s.toks) (o:=.tup (cutV xs lo hi)) (λb ob q=>Heap.get?_push_of_some _ q) (GO _) ?_,rfl,q _ (I.hok.fresh (GO _))];exact#[GY (rn xs lo hi) hz,_,(r.drop (HT.sIx xs.length 0 lo)).take (HT.sIx xs.length xs.length hi-HT.sIx xs.length 0 lo),IsTup.new _ _]
def rA(K:Ex):R2:=λx y H Q=>∃a b xs ys,x=.ref a/\y=.ref b/\SqT K H a xs/\SqT K H b ys/\xs≠[]/\xs.length+ys.length<=sizeLine/\
 (ys=[]->Q (.ref a) H)/\(ys≠[]->∀p,H p=v7->Q (.ref p) (upd H p (.tup (xs++ys))))
def Vals.nil_iff{xs:List V}{us:List KB}(r:Vals xs us):us=[]↔xs=[]:=by
 cases r with
 |nil=>simp
 |cons _ _=>simp
def xU:OpR X (Uq .Add) (rA X.K):=by
 intro pins s σ H x y v u Q I rx ry h;obtain⟨a,b,xs,ys,rfl,rfl,ha,hb,hx,hz,q1,q2⟩:=h;cases rx;cases ry;obtain⟨its,r1,p1,_⟩:=I.tuple ha;obtain⟨m6,r2,p2,_⟩:=I.tuple hb;refine HT.cat_tup p1 p2 (λz=>hx (r1.nil_iff.mp z)) (λz=>#[.ref a,H,I,rfl,q1 (r2.nil_iff.mp z)]) (λz=>?_) (by rw[<-r1.length,<-r2.length];exact hz);refine#[.ref s.heap.objs.size,_,I.laid (t':=s.toks) (o:=.tup (xs++ys)) (λb ob q=>Heap.get?_push_of_some _ q) (GO _) ?_,rfl,q2 (λw=>z (r2.nil_iff.mpr w)) _ (I.hok.fresh (GO _))];exact#[by rw[G0];exact hz,_,r1.append r2,IsTup.new _ _]
end
def ixN(n:Nat)(i:Int):Option Nat:=if 0<=i then(if i<n then be i.toNat else v7)else if -(n:Int)<=i then be (i+n).toNat else v7
def atI{α:Type}(xs:List α)(i:Int):Option α:=(ixN xs.length i).bind λj=>xs[j]?
def rB{n:Nat}{i:Int}{j:Nat}(h:ixN n i=be j):seqIndex? i n=be j/\j<n/\-(n:Int)<=i/\i<n:=by
 unfold ixN at h;by_cases h0:0<=i
 .rw[if_pos h0]at h;by_cases h1:i<n
  .rw[if_pos h1]at h;have e:i.toNat=j:=Option.some.inj h;exact#[by rw[VE h0 h1,e],KK,KK,h1]
  .rw[if_neg h1]at h;cases h
 .rw[if_neg h0]at h;by_cases h1:-(n:Int)<=i
  .rw[if_pos h1]at h;have e:(i+n).toNat=j:=Option.some.inj h;exact#[by rw[Vu KK h1,e],KK,h1,KK]
  .rw[if_neg h1]at h;cases h
def atI_get{α:Type}{xs:List α}{i:Int}{v:α}(h:atI xs i=be v):∃j,seqIndex? i xs.length=be j/\xs[j]?=be v/\j<xs.length/\-(xs.length:Int)<=i/\i<xs.length:=by
 unfold atI at h;cases e:ixN xs.length i with
 |none=>rw[e]at h;cases h
 |some j=>
  rw[e]at h;obtain⟨h1,h2,h3,h4⟩:=rB e;exact#[j,h1,h,h2,h3,h4]
def bB{α:Type}{xs:List α}{j:Nat}{v:α}(h:xs[j]?=be v):atI xs (j:Int)=be v:=by
 have hj:j<xs.length:=(G1.mp h).1;have e:ixN xs.length (j:Int)=be j:=by
  unfold ixN;rw[if_pos KK,if_pos KK];simp
 unfold atI;rw[e];exact h
def eK(b:SZ):Prop:=∀o i,subscripted b false o i=operate [o,i] (Ve o i)
def IxR(X:Cx)(r:R2):Prop:=
 ∀(value slice:SZ) (pins:List (KF×Uj)) (s:Os) (σ:St) (H:Hp) (x y:V) (v u:KB) (Q:VK),Inv X pins σ H s->RelV x v->RelV y u->r x y H Q->
  subscripted slice false v u=operate [v,u] (Ve v u)->T4 (SL X.prog X.w) X.A (subscriptTail value slice v u) (EP X pins σ Q) X.xe s
def MtR(X:Cx)(id:String)(r:V->List V->Hp->VK->Prop):Prop:=
 ∀(pins:List (KF×Uj)) (s:Os) (σ:St) (H:Hp) (x:V) (xs:List V) (v:KB) (us:List KB) (Q:VK),Inv X pins σ H s->RelV x v->Vals xs us->r x xs H Q->
  T4 (SL X.prog X.w) X.A (call (.builtin id) (v::us)) (EP X pins σ Q) X.xe s
section
variable {X:Cx}{a b:SZ}{ta tb:TE}{pos:Ub}
def IxR.or{r r':R2}(h:IxR X r)(h':IxR X r'):IxR X (λx y H Q=>r x y H Q\/r' x y H Q):=by
 intro value slice pins s σ H x y v u Q I rx ry q hs;rcases q with q|q
 .exact h value slice pins s σ H x y v u Q I rx ry q hs
 .exact h' value slice pins s σ H x y v u Q I rx ry q hs
def pe_ix{r:R2}(hr:IxR X r)(ha:PE X a ta)(hb:PE X b tb)(hs:eK b):PE X (.Subscript a b pos) (tOp r ta tb):=by
 intro pins s σ H Q I h;exact Subscript_ (binT ha hb I h λv u s2 x y H2 I2 rx ry q=>hr a b pins s2 σ H2 x y v u Q I2 rx ry q (hs _ _))
def rIxL(K:Ex):R2:=λx y H Q=>∃p xs i v,x=.ref p/\y=.int i/\SqL K H p xs/\atI xs i=be v/\Q v H
def rIxT(K:Ex):R2:=λx y H Q=>∃p xs i v,x=.ref p/\y=.int i/\SqT K H p xs/\atI xs i=be v/\Q v H
def rIxS:R2:=λx y H Q=>∃z i c,x=.str z/\y=.int i/\z.length<=sizeLine/\atI z.cps.toList i=be c/\Q (.str #[[c].toArray]) H
def ix_list:IxR X (rIxL X.K):=by
 intro value slice pins s σ H x y v u Q I rx ry h hs;obtain⟨p,xs,i,z,rfl,rfl,hq,he,q⟩:=h;cases rx;obtain⟨t,rfl⟩:=ry;obtain⟨its,r,pl,hz⟩:=I.list hq;obtain⟨j,h1,h2,h3,h4,h5⟩:=atI_get he;obtain⟨w,ew,h_⟩:=r.get h2;have hl:=r.length;have hn:=line63;have d_:EP X pins σ Q w s:=#[z,H,I,h_,q];by_cases h0:0<=i
 .have hj:i.toNat=j:=by
   rw[VE h0 h5]at h1;exact Option.some.inj h1
  exact item_listR pl.isList h0 KK (by rw[hj];simpa using ew) d_ hs
 .have hj:(i+(its.toArray.size:Int)).toNat=j:=by
   rw[Vu KK h4]at h1;rw[GZ,<-hl];exact Option.some.inj h1
  exact Vs (x:=w) pl.isList.typeIs slot_list_getitem.lookup
   (wpAny_getItem_list_neg (Q:=λr s'=>r=w/\EP X pins σ Q r s') pl.isList KK (by rw[GZ]<;>lia) KK (by rw[hj];simpa using ew) #[rfl,d_]) hs
def ix_tup:IxR X (rIxT X.K):=by
 intro value slice pins s σ H x y v u Q I rx ry h hs;obtain⟨p,xs,i,z,rfl,rfl,hq,he,q⟩:=h;cases rx;obtain⟨t,rfl⟩:=ry;obtain⟨its,r,pl,hz⟩:=I.tuple hq;obtain⟨j,h1,h2,h3,h4,h5⟩:=atI_get he;obtain⟨w,ew,h_⟩:=r.get h2;have hl:=r.length;have hn:=line63;have d_:EP X pins σ Q w s:=#[z,H,I,h_,q];exact Vs (x:=w) pl.typeIs slot_tuple_getitem.lookup
  (getItem_tuple (j:=j) (Q:=λr s'=>r=w/\EP X pins σ Q r s') pl KK KK (by rw[GZ,<-hl];exact h1) (by simpa using ew) #[rfl,d_]) hs
def xV:IxR X rIxS:=by
 intro value slice pins s σ H x y v u Q I rx ry h hs;obtain⟨z,i,c,rfl,rfl,hz,he,q⟩:=h;obtain⟨t,rfl⟩:=rx;obtain⟨t',rfl⟩:=ry;obtain⟨j,h1,h2,h3,h4,h5⟩:=atI_get he;have hl:z.cps.toList.length=z.length:=by simp[Str.length]
 rw[hl]at h1 h4 h5;have hn:=line63;exact tail_any (VO s z t) slot_str_getitem.lookup (getItem_str (c:=c) (by
  have e1:decide (i< -(2^63:Int))=false:=decide_eq_false KK;have e2:decide (i>=2^63)=false:=decide_eq_false KK;rw[e1,e2,Bool.or_false]) (by rw[h1];simpa using h2) #[.str #[[c].toArray],H,I.tok _,#[_,rfl],q]) hs
def rIx(K:Ex):R2:=λx y H Q=>rIxL K x y H Q\/rIxT K x y H Q\/rIxS x y H Q
def rC:IxR X (rIx X.K):=ix_list.or (ix_tup.or xV)
def xW(its:List KB)(n j:Nat)(u:KB):Obj.mapSeq (·.setIfInBounds j u) {cls:=.type "list",data:=.seq its.toArray n}={cls:=.type "list",data:=.seq (its.set j u).toArray n}:=by
 simp[Obj.mapSeq]
def Inv.lst{pins:List (KF×Uj)}{σ:St}{H:Hp}{s:Os}{p:KF}{xs:List V}(I:Inv X pins σ H s)(h:H p=be (.lst xs)):
  ∃(its:List KB) (n:Nat),Vals xs its/\s.heap.get? p=be {cls:=.type "list",data:=.seq its.toArray n}/\xs.length<=sizeLine:=by
 obtain⟨z,its,n,r,e⟩:=I.hok p _ h;exact#[its,n,r,e,z]
variable{pins:List (KF×Uj)}{s:Os}
def Inv.lstUpd{σ:St}{H:Hp}{p:KF}{xs ys:List V}{its its':List KB}{n n':Nat}{f:Uj->Uj}(I:Inv X pins σ H s)(h:H p=be (.lst xs))
  (ho:s.heap.get? p=be {cls:=.type "list",data:=.seq its.toArray n}) (hf:f {cls:=.type "list",data:=.seq its.toArray n}={cls:=.type "list",data:=.seq its'.toArray n'}) (r:Vals ys its') (hz:ys.length<=sizeLine) (t:Nat):
  Inv X pins σ (upd H p (.lst ys)) {s with heap:=s.heap.update p f,toks:=t}:=by
 have e:(s.heap.update p f).get? p=be {cls:=.type "list",data:=.seq its'.toArray n'}:=by
  rw[Heap.get?_update_self f ho (by rw[hf]<;>rfl),hf]
 refine I.write (x:=p) (e:=p) (by rw[h];trivial) (.inl rfl) (λb u hb q=>(Heap.get?_update_other _ _ (Ne.symm hb)).trans q) #[_,e] ?_;exact#[hz,its',n',r,e]
def xX:V->V->V->Hp->(Hp->Prop)->Prop:=λo i v H Q=>∃p xs k j,o=.ref p/\i=.int k/\H p=be (.lst xs)/\ixN xs.length k=be j/\Q (upd H p (.lst (xs.set j v)))
def rD:PSet X xX:=by
 intro pins s σ H o i v ov iv u Q I ro ri rv h;obtain⟨p,xs,k,j,rfl,rfl,hp,hj,q⟩:=h;cases ro;obtain⟨t,rfl⟩:=ri;obtain⟨its,n,r,ho,hz⟩:=I.lst hp;obtain⟨h1,h2,h3,h4⟩:=rB hj;have hl:=r.length;have hn:=line63;have I':Inv X pins σ (upd H p (.lst (xs.set j v))) {s with heap:=s.heap.update p (Obj.mapSeq (·.setIfInBounds j u))}:=
  I.lstUpd hp ho (xW its n j u) (r.set rv j) (by rw[Hx];exact hz) s.toks
 by_cases h0:0<=k
 .have hk:k.toNat=j:=by
   rw[VE h0 h4]at h1;exact Option.some.inj h1
  exact ki_setAt ho h0 KK (by rw[GZ,<-hl];exact h4) (by rw[hk];exact#[_,I',q])
 .have hk:(k+(its.toArray.size:Int)).toNat=j:=by
   rw[Vu KK h3]at h1;rw[GZ,<-hl];exact Option.some.inj h1
  exact ki_setBack ho KK (by rw[GZ,<-hl];exact h3) KK (by rw[hk];exact#[_,I',q])
def xY(lo hi:Option Int)(n:Nat):(UI lo hi v7 n).1=((HT.sIx n 0 lo:Nat):Int)/\(UI lo hi v7 n).2.1=((HT.sIx n n hi:Nat):Int)/\(UI lo hi v7 n).2.2=1:=by
 refine#[?_,?_,rfl]
 .cases lo with
  |none=>simp[UI,HT.sIx]
  |some i=>
   simp only[UI,HT.sIx,JB,show(1:Int)>0 by decide,if_true];by_cases h:i<0
   .simp only[h,if_true]<;>lia
   .simp only[h,if_false]<;>lia
 .cases hi with
  |none=>simp[UI,HT.sIx]
  |some i=>
   simp only[UI,HT.sIx,JB,show(1:Int)>0 by decide,if_true];by_cases h:i<0
   .simp only[h,if_true]<;>lia
   .simp only[h,if_false]<;>lia
def xZ(its:List KB)(lo hi:Option Int):slicePick its.toArray lo hi v7=((its.drop (HT.sIx its.length 0 lo)).take (HT.sIx its.length its.length hi-HT.sIx its.length 0 lo)).toArray:=by
 obtain⟨h1,h2,h3⟩:=xY lo hi its.toArray.size;unfold slicePick;rw[h1,h2,h3];simp only[sliceRange_one,pick_run,GZ]<;>rfl
def rSlL(K:Ex):V->Option Int->Option Int->Hp->VK->Prop:=λx lo hi H Q=>∃a xs,x=.ref a/\SqL K H a xs/\∀p,H p=v7->Q (.ref p) (upd H p (.lst (cutV xs lo hi)))
def gM:SlR X (rSlL X.K):=by
 intro pins s σ H x v vl vu lo hi sl Q I rx hs pl pu h;obtain⟨a,xs,rfl,hx,q⟩:=h;cases rx;obtain⟨its,r,ht,hz⟩:=I.list hx;have b7:=r.length;refine#["list",_,slot_list_getitem.lookup,ht.isList.typeIs,?_];refine wpAny_getItem_list_slice ht.isList hs pl pu .none Ln ?_ (by rw[GZ]<;>lia);rw[xZ,<-b7];refine#[.ref s.heap.objs.size,_,I.laid (t':=s.toks) (o:=.lst (cutV xs lo hi)) (λb ob q=>Heap.get?_push_of_some _ q) (GO _) ?_,rfl,q _ (I.hok.fresh (GO _))];exact#[GY (rn xs lo hi) hz,_,0,(r.drop (HT.sIx xs.length 0 lo)).take (HT.sIx xs.length xs.length hi-HT.sIx xs.length 0 lo),Heap.get?_push_size _ rfl]
def cE:V->Bool
 |.non=>true
 |.bl _=>true
 |.int _=>true
 |.str _=>true
 |_=>false
def eqV:V->V->Bool
 |.non,.non=>true
 |.bl a,.bl b=>a==b
 |.bl a,.int b=>(if a then 1 else 0)==b
 |.int a,.bl b=>a==(if b then 1 else 0)
 |.int a,.int b=>a==b
 |.str a,.str b=>a==b
 |_,_=>false
variable{x:V}
def eqAt_V{A:T6}{y:V}{u v:KB}(ry:RelV y u)(rx:RelV x v)(fy:cE y=true)(fx:cE x=true):SeqAt.EqAt A s u v (eqV y x):=by
 cases y with
 |non=>
  cases ry;cases x with
  |non=>cases rx;exact SeqAt.EqAt.same _
  |bl b=>cases rx;exact SeqAt.EqAt.none_bool b
  |int b=>obtain⟨t,rfl⟩:=rx;exact SeqAt.EqAt.none_int b t
  |str b=>obtain⟨t,rfl⟩:=rx;exact SeqAt.EqAt.none_str b t
  |_=>exact absurd (show false=true from fx) G3
 |bl a=>
  cases ry;cases x with
  |non=>cases rx;exact SeqAt.EqAt.bool_none a
  |bl b=>cases rx;exact SeqAt.EqAt.bool_bool a b
  |int b=>obtain⟨t,rfl⟩:=rx;exact SeqAt.EqAt.bool_int a b t
  |str b=>obtain⟨t,rfl⟩:=rx;exact SeqAt.EqAt.bool_str a b t
  |_=>exact absurd (show false=true from fx) G3
 |int a=>
  obtain⟨t',rfl⟩:=ry;cases x with
  |non=>cases rx;exact SeqAt.EqAt.int_none a t'
  |bl b=>cases rx;exact SeqAt.EqAt.int_bool a t' b
  |int b=>obtain⟨t,rfl⟩:=rx;exact SeqAt.EqAt.int_int a t' b t
  |str b=>obtain⟨t,rfl⟩:=rx;exact SeqAt.EqAt.int_str a t' b t
  |_=>exact absurd (show false=true from fx) G3
 |str a=>
  obtain⟨t',rfl⟩:=ry;cases x with
  |non=>cases rx;exact SeqAt.EqAt.str_none a t'
  |bl b=>cases rx;exact SeqAt.EqAt.str_bool a t' b
  |int b=>obtain⟨t,rfl⟩:=rx;exact SeqAt.EqAt.str_int a t' b t
  |str b=>obtain⟨t,rfl⟩:=rx;exact SeqAt.EqAt.str_str a t' b t
  |_=>exact absurd (show false=true from fx) G3
 |_=>exact absurd (show false=true from fy) G3
def eqU(x:V)(u:KB):Bool:=match u with
 |.none=>eqV .non x
 |.bool b=>eqV (.bl b) x
 |.int i _=>eqV (.int i) x
 |.str z _=>eqV (.str z) x
 |_=>false
def rE{y:V}{u:KB}(r:RelV y u)(f:cE y=true):eqU x u=eqV y x:=by
 cases y with
 |non=>cases r;rfl
 |bl b=>cases r;rfl
 |int i=>obtain⟨t,rfl⟩:=r;rfl
 |str z=>obtain⟨t,rfl⟩:=r;rfl
 |_=>exact absurd (show false=true from f) G3
def jW{x:V}:∀{xs:List V} {us:List KB},Vals xs us->xs.all cE=true->us.any (eqU x)=xs.any λy=>eqV y x
 |_,_,.nil,_=>rfl
 |y::xs,u::us,.cons r t,f=>by
  rw[ID,Hj]at f;rw[IE,IE,rE r f.1,jW t f.2]
def mem_eqAt{A:T6}{s:Os}{x:V}{v:KB}(rx:RelV x v)(fx:cE x=true):∀{xs:List V} {us:List KB},Vals xs us->xs.all cE=true->∀u∈us,SeqAt.EqAt A s u v (eqU x u)
 |_,_,.nil,_=>λu hu=>by cases hu
 |y::xs,u::us,.cons r t,f=>λu' hu=>by
  rw[ID,Hj]at f;rcases GP.mp hu with rfl|hu
  .rw[rE r f.1];exact eqAt_V r rx f.1 fx
  .exact mem_eqAt rx fx t f.2 u' hu
def inV(x:V)(xs:List V):Bool:=xs.any λy=>eqV y x
def rIn(K:Ex)(neg:Bool):R2:=λx y H Q=>∃p xs,y=.ref p/\(SqL K H p xs\/SqT K H p xs)/\cE x=true/\xs.all cE=true/\Q (.bl (if neg then !inV x xs else inV x xs)) H
def ya:OpR X (Ul .NotIn) (rIn X.K true):=by
 intro pins s σ H x y v u Q I rx ry h;obtain⟨p,xs,rfl,hq,fx,fs,q⟩:=h;cases ry;rcases hq with hq|hq
 .obtain⟨its,r,pl,hz⟩:=I.list hq;refine SeqAt.notIn_listAt (eqU x) pl.isList (λw hw=>mem_eqAt rx fx r fs w (by simpa using hw)) #[.bl _,H,I,rfl,?_];rw[show its.toArray.any (eqU x)=its.any (eqU x)by simp,jW r fs];exact q
 .obtain⟨its,r,pl,hz⟩:=I.tuple hq;refine SeqAt.notIn_tupleAt (eqU x) pl (λw hw=>mem_eqAt rx fx r fs w (by simpa using hw)) #[.bl _,H,I,rfl,?_];rw[show its.toArray.any (eqU x)=its.any (eqU x)by simp,jW r fs];exact q
def yb:OpR X (Ul .NotIn) (λx y H Q=>∃i j,x=.str i/\y=.str j/\Q (.bl (!(!(Builtin.Str.occurrences j i 0 j.length 1).isEmpty))) H):=by
 intro pins s σ H x y v u Q I rx ry h;obtain⟨i,j,rfl,rfl,q⟩:=h;obtain⟨t,rfl⟩:=rx;obtain⟨t',rfl⟩:=ry;exact notIn_str #[.bl _,H,I,rfl,q]
def rF:bK X (.type "list") (λxs H Q=>∃p ys,xs=[.ref p]/\(SqL X.K H p ys\/SqT X.K H p ys)/\∀l,H l=v7->Q (.ref l) (upd H l (.lst ys))):=by
 intro pins s σ H xs us Q I r h;obtain⟨p,ys,rfl,hq,q⟩:=h;obtain⟨u,rfl,rx⟩:=cb r;cases rx;have d_:∀(its:List KB),Vals ys its->ys.length<=sizeLine->∀(h':Heap) (c':Nat),(∀b o',s.heap.get? b=be o'->h'.get? b=be o')->
   h'.get? s.heap.objs.size=be {cls:=.type "list",dict:=v7,data:=.seq its.toArray c',slots:=[].toArray}->EP X pins σ Q (.ref s.heap.objs.size) {s with heap:=h'}:=λits r' hz h' c' kp e=>
  #[.ref s.heap.objs.size,_,I.laid (t':=s.toks) kp (GO _) (show ObjOk X.prog X.w _ h' _ (.lst ys)from#[hz,its,c',r',e]),rfl,q _ (I.hok.fresh (GO _))]
 rcases hq with hq|hq
 .obtain⟨its,r',pl,hz⟩:=I.list hq;have b7:=r'.length;obtain⟨o,ho,hc,n,hd⟩:=pl.isList;exact call_list_seq p (.inl rfl) ho hc hd (λh' c' kp e=>d_ its r' hz h' c' kp e) (by simp only[GZ]<;>lia)
 .obtain⟨its,r',pl,hz⟩:=I.tuple hq;have b7:=r'.length;obtain⟨o,ho,hc,n,hd⟩:=pl;exact call_list_seq p (.inr rfl) ho hc hd (λh' c' kp e=>d_ its r' hz h' c' kp e) (by simp only[GZ]<;>lia)
def tyV(K:Ex)(T:String)(x:V)(H:Hp):Prop:=match x with
 |.str _=>T="str"
 |.int _=>T="int"
 | .ref p=>(T="list"/\∃xs,SqL K H p xs)\/(T="tuple"/\∃o,K.lookup p=be o/\o.cls=.type "tuple"/\o.dict=v7)\/
   (T="dict"/\((∃a9,H p=be (.dK a9))\/∃a9,H p=be (.dT a9)))\/(T="set"/\∃S n,H p=be (.set S n))
 |_=>False
def yc{σ:St}{H:Hp}{T:String}{v:KB}(I:Inv X pins σ H s)(r:RelV x v)(ty:tyV X.K T x H):
  s.TypeIs v T/\∀a,v=.ref a->∃ob,s.heap.get? a=be ob/\ob.dict=none:=by
 cases x with
 |str z=>
  obtain⟨t,rfl⟩:=r;cases(show T="str" from ty);exact#[VO s z t,λ_ e=>nomatch e]
 |int i=>
  obtain⟨t,rfl⟩:=r;cases(show T="int" from ty);exact#[typeIs_int s i t,λ_ e=>nomatch e]
 |ref p=>
  cases r;rcases ty with⟨rfl,xs,hq⟩|⟨rfl,o,hk,hc,hd⟩|⟨rfl,hk⟩|⟨rfl,S,n,hk⟩
  .obtain⟨its,_,pl,_⟩:=I.list hq;refine#[pl.isList.typeIs,λa e=>?_];cases e;obtain⟨o,n,e,c,hd,_⟩:=pl;exact#[o,e,hd]
  .refine#[#[o,I.kIn p o hk,hc],λa e=>?_];cases e;exact#[o,I.kIn _ o hk,hd]
  .have z:∃o,s.heap.get? p=be o/\o.ExactDict:=by
    rcases hk with⟨a9,hk⟩|⟨a9,hk⟩
    .obtain⟨_,_,_,_,o,_,_,e,ex,_⟩:=I.hok p _ hk;exact#[o,e,ex]
    .obtain⟨_,_,_,_,o,_,_,e,ex,_⟩:=I.hok p _ hk;exact#[o,e,ex]
   obtain⟨o,e,ex⟩:=z;refine#[#[o,e,ex.1],λa e2=>?_];cases e2;exact#[o,e,ex.2.1]
  .obtain⟨o,_,_,_,e,ex,_⟩:=I.hok p _ hk;refine#[#[o,e,ex.1],λa e2=>?_];cases e2;exact#[o,e,ex.2.1]
 |_=>exact False.elim ty
def tBM(K:Ex)(T:String)(r:V->List V->Hp->VK->Prop)(to:TE)(t:TA):TE:=λσ H Q=>to σ H λx H1=>tyV K T x H1/\t σ H1 λxs H2=>r x xs H2 Q
variable {o e:SZ}{es:List SZ}{to:TE}{t:TA}{name:Kq}{apos cpos:Ub}{T id:String}{r:V->List V->Hp->VK->Prop}
def eL(pa:PlainAttrs T)(slot:Slot T name id)(N7:typeOf (.builtin id)=pure (.type "method_descriptor"))(hm:MtR X id r)(ho:PE X o to)(ha:PA X (e::es) t)
  (b8:autoParam (T9 o name X.env (T_ o X.env)=T_ o X.env) zA0)
  (d8:((UD cpos (T7 (e::es) X.env)).all (λx=>!x.1)&&(UW cpos (UB [] X.env)).all (λx=>x.1.isSome)
   && decide ((e::es).length+([]:List U4).length+(if([]:List U4).isEmpty then 0 else 1)<30))=true:=by rfl)
  (c8:autoParam ((apos.endLine==cpos.line)=true) zA0) (hs:autoParam (zSE X e es) zA0) (p7:autoParam (zPL X cpos es) zA0):
  PE X (.Call (.Attribute o name apos) (e::es) [] cpos) (tBM X.K T r to t):=by
 intro pins s σ H Q I h;refine wpAny_Call_method_late b8 d8 c8 rfl (thn (ho pins s σ H _ I h) λv s1 b9=>?_);obtain⟨x,H1,I1,r1,ty,q1⟩:=b9;obtain⟨h1,h2⟩:=yc I1 r1 ty;refine#[T,id,pa,slot,N7,h1,h2,?_];have hA:=ha cpos pins s1 σ H1 _ I1 q1;rw[hs]at hA ⊢;refine Calls.callWith_builtin (by show(false||(UD cpos (T7 es X.env)).any (·.1))=false;rw[p7]<;>rfl) (Calls.evalArgs_plain ?_);exact thn hA λus s2 ⟨vs,H2,I2,r2,q2⟩=>hm pins s2 σ H2 x vs v us Q I2 r1 r2 q2
end
def MtM(X:Cx)(id:String)(r:V->List V->Hp->VK->Prop):Prop:=
 ∀(pins:List (KF×Uj)) (s:Os) (σ:St) (H:Hp) (x:V) (xs:List V) (v:KB) (us:List KB) (Q:VK),Inv X pins σ H s->RelV x v->Vals xs us->r x xs H Q->
  T4 (SL X.prog X.w) X.A (call (.builtin id) (v::us)) (EP X pins σ Q) X.xe s
def Vals.one:∀{x:V} {us:List KB},Vals [x] us->∃u,us=[u]/\RelV x u:=by
 intro x us h;cases h with
 |cons r h=>cases h;exact#[_,rfl,r]
def Vals.zero:∀{us:List KB},Vals [] us->us=[]
 |_,.nil=>rfl
def Vals.dropLast{xs:List V}{us:List KB}(h:Vals xs us):Vals xs.dropLast us.dropLast:=by
 induction h with
 |nil=>exact .nil
 |cons r t ih=>
  cases t with
  |nil=>exact .nil
  |cons q t'=>exact .cons r ih
section
variable {X:Cx}{pins:List (KF×Uj)}{σ:St}{H:Hp}{s:Os}{l b:KF}{xs ys zs:List V}
variable{its:List KB}
def Inv.lset{its':List KB}{n:Nat}{f:Array KB->Array KB}{t':Nat}(I:Inv X pins σ H s)(hH:H l=be (.lst xs))
  (e:s.heap.get? l=be {cls:=.type "list",data:=.seq its.toArray n}) (hf:f its.toArray=its'.toArray) (hv:Vals ys its') (hz:ys.length<=sizeLine):
  Inv X pins σ (upd H l (.lst ys)) {s with heap:=s.heap.update l (Obj.mapSeq f),toks:=t'}:=by
 have q:=PySem.IsL.update e f;rw[hf]at q;refine I.write (x:=l) (e:=l) (by rw[hH];exact trivial) (.inl rfl) (λb' u hb hu=>(Heap.get?_update_other s.heap (Obj.mapSeq f) (Ne.symm hb)).trans hu) #[_,q] ?_;exact#[hz,its',_,hv,q]
def Inv.lnew{t':Nat}(I:Inv X pins σ H s)(hv:Vals ys its)(hz:ys.length<=sizeLine):
  Inv X pins σ (upd H s.heap.objs.size (.lst ys)) {s with heap:=s.heap.push {cls:=.type "list",data:=.seq its.toArray},toks:=t'}:=
 I.laid (λ_ _ q=>Heap.get?_push_of_some _ q) (GO _) #[hz,its,0,hv,Heap.get?_push_size _ rfl]
def Inv.fresh(I:Inv X pins σ H s):H s.heap.objs.size=none:=I.hok.fresh (GO _)
def Inv.lstM(I:Inv X pins σ H s)(hH:H l=be (.lst xs)):xs.length<=sizeLine/\∃(its:List KB) (n:Nat),Vals xs its/\xs.length=its.length/\s.heap.get? l=be {cls:=.type "list",data:=.seq its.toArray n}:=by
 obtain⟨z,its,n,r,e⟩:=I.hok l _ hH;exact#[z,its,n,r,r.length,e]
def yd{n:Nat}(h:n<=sizeLine):Builtin.List.listTooLong n=false:=by
 unfold Builtin.List.listTooLong;exact decide_eq_false KK
end
section
variable {X:Cx}
def ye:V->List V->Hp->VK->Prop:=λx vs H Q=>∃l xs y,x=.ref l/\vs=[y]/\H l=be (.lst xs)/\xs.length<sizeLine/\Q .non (upd H l (.lst (xs++[y])))
def jX:MtM X "list.append" ye:=by
 intro pins s σ H x vs v us Q I rx rv h;obtain⟨l,xs,y,rfl,rfl,hH,hz,q⟩:=h;cases rx;obtain⟨u,rfl,ru⟩:=rv.one;obtain⟨z,its,n,r,hl,e⟩:=I.lstM hH;refine call_meets F.slot_list_append #[_,e,rfl] F.entry_list_append (F.args_list_append_2 _ _) (PySem.list_append l its.toArray n u (by rw[GZ];lia)) #[e,?_];refine#[.non,_,I.lset (its':=its++[u]) hH e Ln (r.append (.cons ru .nil)) ?_,rfl,q];rw[G0,IS];lia
def yf:V->List V->Hp->VK->Prop:=λx vs H Q=>∃l b xs zs,x=.ref l/\vs=[.ref b]/\H l=be (.lst xs)/\H b=be (.lst zs)/\xs.length+zs.length<=sizeLine/\Q .non (upd H l (.lst (xs++zs)))
def GH:MtM X "list.extend" yf:=by
 intro pins s σ H x vs v us Q I rx rv h;obtain⟨l,b,xs,zs,rfl,rfl,hH,hB,hz,q⟩:=h;cases rx;obtain⟨u,rfl,ru⟩:=rv.one;cases ru;obtain⟨z,its,n,r,hl,e⟩:=I.lstM hH;obtain⟨z2,m6,n2,r2,Nv,e2⟩:=I.lstM hB;have j7:its.toArray.size+m6.toArray.size<=sizeLine:=by rw[GZ,GZ];lia
 have Mo:¬(!its.toArray.isEmpty&&Builtin.List.listTooLong (its.toArray.size+m6.toArray.size))=true:=by
  rw[yd j7,Bool.and_false];exact G3
 refine call_meets F.slot_list_extend #[_,e,rfl] F.entry_list_extend (F.args_list_extend_2 _ _)
  (AutoSeq1.list_extend_list_list_0 l its.toArray n b m6.toArray n2 Mo (by rw[GZ];lia) KK) #[e,e2,?_]
 refine#[.non,_,I.lset (its':=its++m6) hH e Ln (r.append r2) ?_,rfl,q];rw[G0];lia
def rCat:R2:=λx y H Q=>∃l b xs zs,x=.ref l/\y=.ref b/\H l=be (.lst xs)/\H b=be (.lst zs)/\xs.length+zs.length<=sizeLine/\∀p,H p=v7->Q (.ref p) (upd H p (.lst (xs++zs)))
def rG:OpR X (Uq .Add) rCat:=by
 intro pins s σ H x y v u Q I rx ry h;obtain⟨l,b,xs,zs,rfl,rfl,hH,hB,hz,q⟩:=h;cases rx;cases ry;obtain⟨z,its,n,r,hl,e⟩:=I.lstM hH;obtain⟨z2,m6,n2,r2,Nv,e2⟩:=I.lstM hB;refine PySem.P.add_list e e2 ?_ (by rw[GZ,GZ];lia);have ea:its.toArray++m6.toArray=(its++m6).toArray:=Ln
 rw[ea];exact#[.ref _,_,I.lnew (t':=s.toks) (r.append r2) (by rw[G0];lia),rfl,q _ I.fresh]
end
end L2
namespace Qw
open PySem PySem.W PySem.Calls PyProof.Rows
variable{P:Params}
def yg{h:Heap}:∀(ns:List Int) (vs:List KB),WellAll P h vs (ns.map WData.int)->VA vs ns:=by
 intro ns;induction ns with
 |nil=>
  intro vs w;rw[HZ]at w;cases w;exact .nil
 |cons n ns ih=>
  intro vs w;rw[G8]at w;cases w with
  |cons a b=>
   cases a;exact .cons _ _ (ih _ b)
variable{l:OpenLaw}
def yh{n:Nat}(hn:l.most=be n){h:Heap}{args:List WData}{Lh:List KB}
  (Ku:l.row.toRowW.claim.pre args=true) (N8:WellAll P h Lh args):
  ∃a vs ns,Lh=[Value.ref a]/\args=[WData.list (ns.map WData.int)]/\h.get? a=be {cls:=.type "list",data:=.seq vs.toArray}/\VA vs ns/\ns.length<=n:=by
 have Rr:WShape.hasAll [] args [.list .int]=true:=(pre_splitW Ku).1;have hc:l.pre.holds [] {args:=args}=true:=(pre_splitW Ku).2;obtain⟨d,r,rfl,h1,h2⟩:=hasAllW_cons Rr;obtain rfl:=hasAllW_nil h2;obtain⟨xs,rfl,h3⟩:=hasW_list h1;obtain⟨ns,rfl⟩:=items_int h3;have b7:ns.length<=n:=by
  unfold OpenLaw.pre at hc;have h4:(WTm.not (.lt (.lit (.int (n:Int))) (.len (.arg 0)))).holds [] {args:=[.list (ns.map .int)]}=true:=by
   have h4:=(holds_andW hc).1;rw[hn]at h4;exact h4
  have h5:=condW_of h4 (w_not (w_lt w_lit (w_len_list (w_arg rfl))));rw[GQ]at h5;refine IT λq=>?_;have q':(n:Int)<((ns.length:Nat):Int):=KK
  first
   |(rw[decide_eq_true q']at h5;exact absurd h5 Lj)
   |(simp at h5;lia)
 cases N8 with
 |cons w1 w2=>
  cases w2;cases w1 with
  |list ho Kv=>exact#[_,_,ns,rfl,rfl,ho,yg ns _ Kv,b7]
def yi(l:OpenLaw)(args:List WData):l.row.toRowW.claim.post args (.bool true) args=true:=
 postW_of (r:=l.row.toRowW) (X:=(true==true))
  (show WShape.has [] (.bool true) .bool=true by first|rfl|decide|simp[WShape.has,WShape.arms,WShape.armsAll])
  (show(WTm.eq .res (.lit (.bool true))).value [] {args:=args,res:=be (.bool true),after:=args}=be (.bool (true==true))from w_eq_bool (w_res rfl) w_lit) rfl
def attach_call{n:Nat}{q:T3}{k8:List Kq}{XP:(Kq->Option KB)->Heap->Prop}{YP:T5->Heap->Prop}{d:DefRec}
  (hn:l.most=be n) (Mp:d.params.defaults=[])
  (call:∀(w:T5) (s₀ s₁:Os) (mg mb:Kq->Option KB) (fa:KF) (o:Uj) (pm cd doc:KB) (a:KF) (vs:List KB) (ns:List Int),
   Ground q k8 [] XP w s₀ mg mb s₁.heap->YP w s₁.heap->
   s₁.heap.get? fa=be o->o.data=.func (docDef d.name d.params d.body d.scope pm cd doc)->s₁.heap.CodeRec cd d.name->mg d.name=be (.ref fa)->
   s₁.heap.get? a=be {cls:=.type "list",data:=.seq vs.toArray}->VA vs ns->ns.length<=n->s₁.gens=[].toArray->
   U3 (SL l.prog w) U8 (.call (.ref fa) #[[.ref a],[]]) (λr s'=>r=.ok (.ret (.bool true))/\OldK s₁.heap s'.heap/\s'.os=s₁.os/\UT s'.gens) s₁):
  WalkO q k8 XP YP l.row.toRowW d [] (λf vs=>PySem.call f vs):=by
 intro w s₀ s₁ mg mb G Y fa o pm cd doc dV kV ho hd gt hD j_ hg args Lh as Ku Rs S' N8 S_;obtain rfl:dV=.none:=Dflts.none hD Mp;obtain rfl:kV=.none:=Dflts.noKw hD;obtain⟨a,vs,ns,rfl,rfl,Li,z7,b7⟩:=yh hn Ku N8;refine enter_call (UC (call w s₀ s₁ mg mb fa o pm cd doc a vs ns G Y ho (fd_plain hd) gt j_ Li z7 b7 hg) λr s' hq=>?_);obtain⟨rfl,h2,h3,h4⟩:=hq;exact#[.inl #[.bool true,.bool true,[],rfl,λ_=>rfl,.bool true,yi l _,λ_=>#[List.Pairwise.nil,λ_ hm=>(nomatch hm)]],h2,h3,h4]
end Qw
namespace L2
open PySem PySem.Spec PyProof.Rows
def rH:∀{vs:List KB} {ns:List Int},VA vs ns->Vals (ns.map V.int) vs
 |_,_,.nil=>.nil
 |_,_,.cons n t h=>.cons #[t,rfl] (rH h)
def Only(H:Hp):Prop:=∀b,H b=v7\/∃o xs,H b=be (.frz o (.lst xs))
variable{P:T3}{w:T5}{k:Nat}{a:KF}
def yj{K:Ex}{mg mb:Kq->Option KB}{CX:CXT}{fa:KF}{fd:Ua}{x:Kq}{sp:Sp}{s₁:Os}{vs:List KB}{ns:List Int}
  (KX:K.In s₁.heap) (hns:s₁.heap.Ns Pi mg) (hb:s₁.heap.Ns VQ mb) (Rt:∀x:Kq,x≠"__name__"->mb x=Ui x) (N9:s₁.heap.NoLimit) (hg:s₁.gens=[].toArray)
  (ha:s₁.heap.get? a=be {cls:=.type "list",data:=.seq vs.toArray}) (hi:VA vs ns) (hl:ns.length<=sizeLine) (hr:Room k U8)
  (F:∀base:Heap,K.In base->base.Ns Pi mg->FnOk P w K mg base CX k fa fd [x] sp) (Mq:∀(s:Os) (u:KB),UY s fd #[[u],[]] [(x,u)])
  (z6:∀H:Hp,Only H->SqL K H a (ns.map V.int)->sp [.ref a] H (λv _=>v=.bl true) λ_ _ _=>False)
  (N_:∀H e s',CX [] H s₁ (λ_ _ _=>False) e s'->False):
  U3 (SL P w) U8 (.call (.ref fa) #[[.ref a],[]]) (λr s'=>r=.ok (.ret (.bool true))/\OldK s₁.heap s'.heap/\s'.os=s₁.os/\UT s'.gens) s₁:=by
 have rv:=rH hi;have Oa:=hi.length;have Ms:∀H:Hp,Only H->SqL K H a (ns.map V.int)->HOk P w H s₁.heap->(∀b,H b≠v7->b=a)->(H a≠v7->K.lookup a=v7)->
   U3 (SL P w) U8 (.call (.ref fa) #[[.ref a],[]]) (λr s'=>r=.ok (.ret (.bool true))/\OldK s₁.heap s'.heap/\s'.os=s₁.os/\UT s'.gens) s₁:=by
  intro H hO hS hok hA hK;have s9:∀{b:KF} {o:Uj},s₁.heap.get? b=be o->H b=v7->(hidT s₁.heap H).get? b=be o:=λe n=>wu e n;have Mm:∀{b:KF} {o:Uj} {es:Array DictEntry} {ep:Nat},s₁.heap.get? b=be o->o.data=.dict es ep->H b=none:=λ{b o es ep} e d=>by
   cases q:H b with
   |none=>rfl
   |some u=>
    have e':b=a:=hA b (by rw[q];simp);subst e';rw[ha]at e;cases e;have d':Data.seq vs.toArray _=Data.dict es ep:=d;cases d'
  have Ny:∀{b:KF} {m:Kq->Option KB},s₁.heap.Ns b m->(hidT s₁.heap H).Ns b m:=λ{b m} ⟨o,es,ep,e,d,r⟩=>#[o,es,ep,s9 e (Mm e d),d,r];have Qy:K.In (hidT s₁.heap H):=λb o e=>s9 (KX b o e) (by
   cases q:H b with
   |none=>rfl
   |some u=>
    have e':b=a:=hA b (by rw[q];simp);subst e';rw[hK (by rw[q];simp)]at e;cases e)
  have hM:Mod K mg (hidT s₁.heap H):=#[Qy,Ny hns,#[mb,Ny hb,Rt],let ⟨mc,h1,h2⟩:=N9;#[mc,Ny h1,h2]];have e0:Env0 P w K mg (hidT s₁.heap H) U8 [] s₁ H:=#[rfl,hM,λb o e=>wv e,IB (wt _ _),trivial,λb hb=>absurd (show b∈([]:List KF)from hb) Ln,hok,.of_eq hg];refine UC ((F _ Qy (Ny hns)).run U8 [] s₁ H #[[.ref a],[]] [.ref a] [.ref a] _ _ hr e0 (Mq s₁ (.ref a)) (.cons rfl .nil) (z6 H hO hS)) λr s' h=>?_;cases r with
  |error e=>exact(N_ H e s' h).elim
  |ok fl=>
   cases fl with
   |next=>exact False.elim h
   |brk=>exact False.elim h
   |cont=>exact False.elim h
   |ret u=>
    obtain⟨v,H',os,bare,un,Ob,r',q⟩:=h;have q':v=.bl true:=q;subst q';obtain rfl:u=Value.bool true:=r';refine#[rfl,OldK.of_keep λb o e=>?_,os,bare];cases q:H b with
    |none=>exact un.keep b o e q (by intro z;exact absurd (show b∈([]:List KF)from z) Ln) Ln
    |some u=>
     rcases hO b with z|⟨ob,xs,z⟩
     .rw[q]at z;cases z
     .have z2:=un.frzs b ob _ z;obtain⟨e1,_⟩:=hok b _ z;obtain⟨e2,_⟩:=Ob b _ z2;rw[e]at e1;cases e1;exact e2
 cases hk:K.lookup a with
 |some o=>
  have e:=KX a o hk;rw[ha]at e;cases e;refine Ms (λ_=>v7) (λ_=>.inl rfl) (.inr #[_,vs.toArray,_,hk,rfl,rfl,rfl,by rw[GZ,Oa];exact hl,by simpa using rv]) (λb u z=>by have z':(v7:Option HO)=be u:=z;cases z') (λb z=>absurd rfl z) λz=>absurd rfl z
 |none=>
  refine Ms (λb=>if b=a then be (.frz {cls:=.type "list",data:=.seq vs.toArray} (.lst (ns.map V.int)))else v7) (λb=>?_) (.inl (.inr #[{cls:=.type "list",data:=.seq vs.toArray},if_pos rfl])) (λb u z=>?_) (λb z=>?_) λ_=>hk
  .by_cases hb:b=a
   .exact .inr #[_,_,if_pos hb]
   .exact .inl (if_neg hb)
  .by_cases hb:b=a
   .have z':=(if_pos hb).symm.trans z;cases z';subst hb;exact#[ha,by rw[GQ];exact hl,vs,_,rv,ha]
   .have z':=(if_neg hb).symm.trans z;cases z'
  .by_cases hb:b=a
   .exact hb
   .exact absurd (if_neg hb) z
def walk_of{l:IU}{n:Nat}{q:T3}{k8:List Kq}{XP:(Kq->Option KB)->Heap->Prop}{YP:T5->Heap->Prop}{d:DefRec}{K:Params->Ex}{CX:T5->CXT}{sp:T5->Sp}{x:Kq}
  (hn:l.most=be n) (Lg:n<=sizeLine) (Mp:d.params.defaults=[]) (hr:Room k U8)
  (hY:∀(w:T5) (h:Heap),YP w h->(K w.params).In h)
  (F:∀(w:T5) (mg:Kq->Option KB) (fa:KF) (h:Heap),(K w.params).In h->h.Ns Pi mg->mg d.name=be (.ref fa)->
   ∃fd:Ua,(∀(s:Os) (u:KB),UY s fd #[[u],[]] [(x,u)])/\
    ∀base:Heap,(K w.params).In base->base.Ns Pi mg->FnOk l.prog w (K w.params) mg base (CX w) k fa fd [x] (sp w))
  (z6:∀(w:T5) (H:Hp) (a:KF) (ns:List Int),ns.length<=n->Only H->SqL (K w.params) H a (ns.map V.int)->sp w [.ref a] H (λv _=>v=.bl true) λ_ _ _=>False)
  (N_:∀(w:T5) (H:Hp) (s:Os) (e:KB) (s':Os),CX w [] H s (λ_ _ _=>False) e s'->False):
  JC q k8 XP YP l.row.toRowW d [] (λf vs=>PySem.call f vs):=by
 refine Qw.attach_call hn Mp λw s₀ s₁ mg mb fa o pm cd doc a vs ns G Y ho hd gt j_ Li z7 b7 hg=>?_;have KX:=hY w _ Y;obtain⟨fd,hb,hF⟩:=F w mg fa _ KX G.T.g j_;exact yj KX G.T.g G.T.b G.T.builtins G.T.nolimit hg Li z7 (GY b7 Lg) hr hF hb (λH hO hS=>z6 w H a ns b7 hO hS) λH e s'=>N_ w H s₁ e s'
def aR(s:SB)(j:Nat):SB:=match s with
 |.ClassDef _ _ _ body _ _ _ _ _ _ _=>body.getD j (.Pass #[0,0,0,0])
 |_=>.Pass #[0,0,0,0]
def bw(s:SB):Arguments:=match s with
 |.FunctionDef _ a _ _ _ _ _ _ _ _=>a
 |_=>{posonlyargs:=[],args:=[],vararg:=v7,kwonlyargs:=[],kw_defaults:=[],kwarg:=v7,defaults:=[]}
def aJ(s:SB):List SB:=match s with
 |.FunctionDef _ _ b _ _ _ _ _ _ _=>b
 |_=>[]
def ah(s:SB):Uv:=match s with
 |.FunctionDef _ _ _ _ _ _ sc _ _ _=>sc
 |_=>{kind:=.function,names:=[],isGenerator:=false,isCoroutine:=false}
abbrev E0:XK:=λ_ _ _=>False
structure FunG(K:Ex)(dV:KB)(x qual:Str)(st:SB)(f:KF)(fd:Ua):Prop where
 ex:∃(oc:KB) (od:Option KF) (kV doc pm:KB) (an:Option KF) (cdv ct:KB) (osl:Array (Option KB)),
  fd=fnOf x qual (bw st) (aJ st) (ah st) dV kV doc pm an cdv ct/\K.lookup f=be #[oc,od,.func fd,osl]/\codeIn K cdv qual=true
 kp:keepIn K (.ref f)=true
abbrev Fun(K:Ex):Kq->Kq->SB->KF->Ua->Prop:=FunG K .none
section
variable {P:T3}{w:T5}{K:Ex}{mg:Kq->Option KB}{base:Heap}
def Fun.binds{x qual:Kq}{st:SB}{f:KF}{fd:Ua}{ps:List Kq}(F:Fun K x qual st f fd)
  (h:∀(kV doc pm:KB) (an:Option KF) (cdv ct:KB) (us:List KB),us.length=ps.length->UK (fnOf x qual (bw st) (aJ st) (ah st) .none kV doc pm an cdv ct) #[us,[]]=pure (ps.zip us)):Binds K fd ps []:=by
 obtain⟨oc,od,kV,doc,pm,an,cdv,ct,osl,rfl,lk,gt⟩:=F.ex;exact .all (h kV doc pm an cdv ct)
def gN{x qual:Kq}{st:SB}{f:KF}{oc:KB}{od an:Option KF}{osl:Array (Option KB)}{kV doc pm cdv ct:KB}(l:K.lookup f=be #[oc,od,.func (fnOf x qual (bw st) (aJ st) (ah st) .none kV doc pm an cdv ct),osl])
  (c:codeIn K cdv qual=true) (k:keepIn K (.ref f)=true):Fun K x qual st f (fnOf x qual (bw st) (aJ st) (ah st) .none kV doc pm an cdv ct):=#[#[oc,od,kV,doc,pm,an,cdv,ct,osl,rfl,l,c],k]
end
def rJ{A:T6}(hr:Room k A):A.units+1<Vn:=JD (Nat.add_le_add_left (Lj:1<=64) _) hr.units
def yk{n:Nat}(h:n<=1000):n<sizeLine:=JD h Lj
def ite2{c A B:Prop}[Decidable c](h1:c->A)(h2:¬c->B):if c then A else B:=by
 by_cases h:c
 .rw[if_pos h];exact h1 h
 .rw[if_neg h];exact h2 h
def Same(H H':Hp):Prop:=∀b o,H b=be o->H' b=be o
def Same.refl(H:Hp):Same H H:=λ_ _ h=>h
variable{H:Hp}
def Same.trans{H1 H2:Hp}(a:Same H H1)(b:Same H1 H2):Same H H2:=λc o h=>b c o (a c o h)
variable{H':Hp}
def Same.free(e:Same H H'){l:KF}(h:H' l=Option.none):H l=Option.none:=by
 cases q:H l with
 |none=>rfl
 |some o=>
  rw[e l o q]at h;cases h
def Same.seq{K:Ex}{xs:List V}(e:Same H H')(h:SqL K H a xs):SqL K H' a xs:=by
 rcases h with(h|⟨o,h⟩)|h
 .exact .inl (.inl (e _ _ h))
 .exact .inl (.inr #[o,e _ _ h])
 .exact .inr h
section
variable {κ:Type}[DecidableEq κ]
def valV(a9:List (κ×V))(k:κ):Option V:=(a9.find? λkv=>decide (kv.1=k)).map (·.2)
def jY{p:κ×V}{r:List (κ×V)}{k:κ}(e:p.1=k):valV (p::r) k=be p.2:=by simp[valV,H8,e]
def jZ{p:κ×V}{r:List (κ×V)}{k:κ}(e:¬p.1=k):valV (p::r) k=valV r k:=by simp[valV,H8,e]
def RelO.getD{o:Option V}{u:Option KB}{d:V}{d':KB}(r:RelO o u)(rd:RelV d d'):RelV (o.getD d) (u.getD d'):=by
 cases o with
 |none=>cases u with
  |none=>exact rd
  |some _=>exact(show False from r).elim
 |some _=>cases u with
  |none=>exact(show False from r).elim
  |some _=>exact r
def KV.val{a9:List (κ×V)}{vs:List (κ×KB)}(r:KV a9 vs)(k:κ):RelO (valV a9 k) (Vd vs k):=by
 unfold KV at r;induction r with
 |nil=>exact True.intro
 |@cons p q ps qs h t ih=>
  obtain⟨h1,h2⟩:=h;by_cases e:p.1=k
  .have e':q.1=k:=h1.symm.trans e;have b:Vd (q::qs) k=be q.2:=by simp[Vd,H8,e']
   rw[jY e,b];exact h2
  .have e':¬q.1=k:=λz=>e (h1.trans z);have b:Vd (q::qs) k=Vd qs k:=by simp[Vd,H8,e']
   rw[jZ e,b];exact ih
end
def rK{k:Key}{u:KB}(r:RelV (kV k) u):(bJ P w).is k u=true:=by
 cases k with
 |inl i=>obtain⟨t,e⟩:=(show ∃t,u=Value.int i t from r);subst e;exact mixKind_int P w i t
 |inr x=>obtain⟨t,e⟩:=(show ∃t,u=Value.str x t from r);subst e;exact wo P w x t
def rL{P:T3}{w:T5}:∀{ks:List Key} {us:List KB},Vals (ks.map kV) us->ItemsAre (bJ P w) ks us
 |[],_,r=>by rw[HZ]at r;cases r;exact .nil
 |k::ks,_,r=>by
  rw[G8]at r;cases r with
  |cons h t=>exact .cons (rK h) (rL t)
abbrev KT(H:Hp):List (List Key×V)->List (List Key×KF×KB)->Prop:=Paired λp q=>p.1=q.1/\H q.2.1=be (.tup (p.1.map kV))/\RelV p.2 q.2.2
variable{xs:List (List Key×KF×KB)}{a9:List (List Key×V)}
def KT.val(r:KT H a9 xs)(k:List Key):RelO (valV a9 k) ((Vb xs k).map (·.2)):=by
 induction r with
 |nil=>exact True.intro
 |@cons p q ps qs h t ih=>
  obtain⟨h1,_,h2⟩:=h;by_cases e:p.1=k
  .have e':q.1=k:=h1.symm.trans e;have b:Vb (q::qs) k=be q.2:=by simp[Vb,H8,e']
   rw[jY e,b];exact h2
  .have e':¬q.1=k:=λz=>e (h1.trans z);have b:Vb (q::qs) k=Vb qs k:=by simp[Vb,H8,e']
   rw[jZ e,b];exact ih
def KT.keeps(r:KT H a9 xs)(ht:∀b ys,H b=be (.tup ys)->H' b=be (.tup ys)):KT H' a9 xs:=
 Paired.mapP r λ_ _ z=>#[z.1,ht _ _ z.2.1,z.2.2]
section
variable {P:T3}{w:T5}{H:Hp}{h:Heap}{a:KF}
def rM{u:HO}(ok:HOk P w H h)(e:Rd H a u):ObjOk P w H h a u:=e.ok ok
def yl{a9:List (Key×V)}(ok:HOk P w H h)(e:Rd H a (.dK a9)):a9.length<=sizeLine/\(a==Ut)=false/\∃vs,KV a9 vs/\h.DictOf (bJ P w) a vs:=
 show ObjOk P w H h a (.dK a9)from rM ok e
def key_of{ks:List Key}(ok:HOk P w H h)(e:H a=be (.tup (ks.map kV))):(UU (bJ P w)).is h ks a:=by
 obtain⟨_,its,r,o,h1,h2,n,h3⟩:=(show ObjOk P w H h a (.tup (ks.map kV))from ok a _ e);exact#[o,its.toArray,n,h1,h2,h3,by simpa using rL r]
variable{a9:List (List Key×V)}
def rN(ok:HOk P w H h)(e:Rd H a (.dT a9)):a9.length<=sizeLine/\(a==Ut)=false/\
  ∃xs,KT H a9 xs/\h.DictOfH (UU (bJ P w)) a xs:=by
 obtain⟨z,y,xs,r,o,es,ep,h1,h2,h3,h4,h5⟩:=(show ObjOk P w H h a (.dT a9)from rM ok e);refine#[z,y,xs,r,o,es,ep,h1,h2,h3,h4,λx hx=>?_,h5];have all:∀{l:List (List Key×V)} {m:List (List Key×KF×KB)},KT H l m->∀x∈m,(UU (bJ P w)).is h x.1 x.2.1:=by
  intro l m q;induction q with
  |nil=>intro x hx;exact nomatch hx
  |@cons p q ps qs hq t ih=>
   intro x hx;rcases GP.mp hx with e|hx
   .subst e;exact key_of ok (by rw[<-hq.1];exact hq.2.1)
   .exact ih x hx
 exact all r x hx
def ym(ok:HOk P w H h)(e:H a=be (.dT a9)):a9.length<=sizeLine/\(a==Ut)=false/\
  ∃xs,KT H a9 xs/\h.DictOfH (UU (bJ P w)) a xs:=rN ok (.inl e)
end
def DGet(H:Hp)(a:KF)(y:V)(r:Option V):Prop:=
 (∃a9 k,Rd H a (.dK a9)/\y=kV k/\r=valV a9 k)\/∃a9 k b,Rd H a (.dT a9)/\y=.ref b/\H b=be (.tup (k.map kV))/\r=valV a9 k
def DGet.t{b:KF}{k:List Key}(e:H a=be (.dT a9))(eb:H b=be (.tup (k.map kV))):DGet H a (.ref b) (valV a9 k):=.inr #[a9,k,b,.inl e,rfl,eb,rfl]
section
variable {X:Cx}{pins:List (KF×Uj)}{σ:St}{H:Hp}{s:Os}{a:KF}{y v:V}{u r:KB}{o:Option V}{A:T6}{E:KB->Os->Prop}
def Inv.big(I:Inv X pins σ H s):Ut<s.heap.objs.size:=by
 have h:Pi<s.heap.objs.size:=(I.mod.glob.keeps I.bk).lt;exact JE Lj h
def yn{h':Heap}{t':Nat}{ob:HO}(I:Inv X pins σ H s)(mu:Mut (H a))(hs:Heap.SameBut a s.heap h')(he:∃q,h'.get? a=be q)(new:ObjOk X.prog X.w (upd H a ob) h' a ob):
  Inv X pins σ (upd H a ob) {s with heap:=h',toks:=t'}:=
 I.write (x:=a) (e:=a) mu (.inl rfl) (λb q hb z=>(hs.2 b hb).trans z) he new
end
def yo(h:Heap)(hb:Ut<h.objs.size):ObjOk P w H (h.push {cls:=.type "dict",data:=.dict [].toArray}) h.objs.size (.dT []):=
 #[Hc _,beq_eq_false_iff_ne.mpr (Ne.symm (GW hb)),[],.nil,_,[].toArray,0,Heap.get?_push_size _ rfl,#[rfl,rfl,rfl],rfl,rfl,JF]
def yp:TE:=λ_ H Q=>∀p,H p=v7->Q (.ref p) (upd H p (.dT []))
section
variable {X:Cx}{pos:Ub}
def pe_dnewT:PE X (.Dict [] [] pos) yp:=λpins s σ H Q I h=>
 wpAny_Dict_empty #[.ref s.heap.objs.size,_,I.laid (a:=s.heap.objs.size) (o:=.dT []) (t':=s.toks) (λ_ _ q=>Heap.get?_push_of_some _ q) (GO _) (yo s.heap I.big),rfl,h _ (I.hok.fresh (GO _))]
end
structure M1(X:Cx)(o:SZ)(m:Str)(apos:Ub)(e:SZ)(cpos:Ub):Prop where
 base:T9 o m X.env (T_ o X.env)=T_ o X.env
 few:((UD cpos (T7 [e] X.env)).all (λx=>!x.1)&&(UW cpos (UB [] X.env)).all (λx=>x.1.isSome)
  && decide (([e]:List SZ).length+([]:List U4).length+(if([]:List U4).isEmpty then 0 else 1)<30))=true
 line:(apos.endLine==cpos.line)=true
 trees:UD cpos (T7 [e] X.env)=[(false,T_ e X.env)]
structure M2(X:Cx)(o:SZ)(m:Str)(apos:Ub)(e f:SZ)(cpos:Ub):Prop where
 base:T9 o m X.env (T_ o X.env)=T_ o X.env
 few:((UD cpos (T7 [e,f] X.env)).all (λx=>!x.1)&&(UW cpos (UB [] X.env)).all (λx=>x.1.isSome)
  && decide (([e,f]:List SZ).length+([]:List U4).length+(if([]:List U4).isEmpty then 0 else 1)<30))=true
 line:(apos.endLine==cpos.line)=true
 trees:UD cpos (T7 [e,f] X.env)=[(false,T_ e X.env),(false,T_ f X.env)]
section
variable {X:Cx}{pins:List (KF×Uj)}{σ:St}{H:Hp}{s:Os}{a:KF}{y d:V}{u r:KB}{o:Option V}{A:T6}{E:KB->Os->Prop}
def yq{Q:KB->Os->Prop}(hu:A.units+1<Vn)(I:Inv X pins σ H s)(g:DGet H a y o)(ry:RelV y u)(rd:RelV d r)(h:∀w' s',Inv X pins σ H s'->RelV (o.getD d) w'->Q w' s'):
  T4 (SL X.prog X.w) A (call (.builtin "dict.get") [.ref a,u,r]) Q E s:=by
 rcases g with⟨a9,k,e,ey,l⟩|⟨a9,k,b,e,ey,eb,l⟩
 .subst ey;obtain⟨z,hd,vs,rel,dd⟩:=yl I.hok e;refine Vy PySem.F.slot_dict_get dd.typeIs PySem.F.entry_dict_get (PySem.F.args_dict_get_3 _ _ _) (meets_dict_get_default (bJ X.prog X.w) a (rK ry) hd r) #[_,dd.mapOf,h _ _ (I.tok _) ?_];rw[l];exact(rel.val k).getD rd
 .subst ey;cases(show u=Value.ref b from ry);obtain⟨z,hd,xs,rel,dd⟩:=rN I.hok e;refine Vy PySem.F.slot_dict_get dd.typeIs PySem.F.entry_dict_get (PySem.F.args_dict_get_3 _ _ _) (meetsH_dict_get_default (UU (bJ X.prog X.w)) a b hd r) #[VP hu,k,xs,key_of I.hok eb,dd,h _ _ (I.tok _) ?_];rw[l];exact(rel.val k).getD rd
end
end L2
end
section
open PySem PySem.Spec PyProof.Rows L2
namespace Exc
open PySem PySem.Spec PyProof.Rows PySem.W L2
def aN:List KB->Bool
 |.ref _::r=>aN r
 |l=>l==[.type "ValueError",.type "Exception",.type "BaseException",.type "object"]
def kd(self:KB):∀{l:List KB},aN l=true->refuseLoop self "__setattr__" l=pure ()
 |.ref c::r,e=>by rw[refuseLoop_ref];exact kd self (by unfold aN at e;exact e)
 |[],e=>by simp[aN]at e
 |.type n::r,e=>by
  have e':(Value.type n::r)=[.type "ValueError",.type "Exception",.type "BaseException",.type "object"]:=by simpa[aN]using e
  rw[e'];exact PySem.F.store_ValueError.passes self
 |.none::r,e=>by simp[aN]at e
 |.bool _::r,e=>by simp[aN]at e
 |.int _ _::r,e=>by simp[aN]at e
 |.float _ _::r,e=>by simp[aN]at e
 |.str _ _::r,e=>by simp[aN]at e
 |.bytes _ _::r,e=>by simp[aN]at e
 |.builtin _::r,e=>by simp[aN]at e
def eN{T:String}(hT:[Value.type "ValueError",.type "Exception",.type "BaseException",.type "object"].contains (.type T)=true):∀{l:List KB},aN l=true->l.contains (.type T)=true
 |.ref c::r,e=>by rw[IV,eN hT (l:=r) (by unfold aN at e;exact e),IF]
 |[],e=>by simp[aN]at e
 |.type n::r,e=>by
  have e':(Value.type n::r)=[.type "ValueError",.type "Exception",.type "BaseException",.type "object"]:=by simpa[aN]using e
  rw[e'];exact hT
 |.none::r,e=>by simp[aN]at e
 |.bool _::r,e=>by simp[aN]at e
 |.int _ _::r,e=>by simp[aN]at e
 |.float _ _::r,e=>by simp[aN]at e
 |.str _ _::r,e=>by simp[aN]at e
 |.bytes _ _::r,e=>by simp[aN]at e
 |.builtin _::r,e=>by simp[aN]at e
section
variable {prog:T3}{w:T5}{A:T6}{E:KB->Os->Prop}{s:Os}{K:Ex}{x C:KF}{ox:Uj}{cd:Vq}{name:Kq}{v:KB}{vs:Array KB}
def yr{Q:Unit->Os->Prop}(X:K.In s.heap)(hx:s.heap.get? x=be ox)(g9:ox.cls=.ref C)(z8:ox.data=.fields vs)(hd:ox.dict=v7)(hc:clsIn K C=be cd)(hm:aN cd.mro=true)(hh:cd.hasDict=true)
  (hs:findIn K (.ref C) "__setattr__"=be (be (.builtin "object.__setattr__"))) (hf:findIn K (.ref C) name=be v7)
  (h:∀h',h'.get? x=be {ox with dict:=be s.heap.objs.size}->h'.Ns1 s.heap.objs.size (λy=>if y=name then be v else v7)->(∀b o,b≠x->s.heap.get? b=be o->h'.get? b=be o)->∀tk,Q () {s with heap:=h',toks:=tk}):
  T4 (SL prog w) A (VS (.ref x) name v) Q E s:=by
 have hn:notCls ox=true:=by unfold notCls;rw[z8]
 have I:InstAt s.heap x ox C none:=#[hx,g9,hn,by rw[hd];trivial];refine set_plain X I hs ?_;have SF:=PySem.F.store_object;have ne:cd.mro.isEmpty=false:=Oi
 have sub:Looks (SL prog w) s.heap (U5 (.ref x) (.type "object")) true:=I.type.andThen (looks_mroIn X Tb);refine UJ SF.slot.plain SF.entry (@check_slot (SL prog w) _ _ _ "object.__setattr__" "object" "__setattr__" (.ref x) [.str name s.toks,v] [] _ SF.kind SF.split sub (SF.args (.ref x) (.str name s.toks) v) ?_);have Lk:Looks (SL prog w) s.heap (mroOf (.ref C)) cd.mro:=(looks_clsIn X hc).andThen .now;rw[osa_eq,refuse_eq];refine KM (KM (I.type.here (s:={s with toks:=s.toks+1}) (KM (Lk.here (s:={s with toks:=s.toks+1}) ?_))));rw[kd _ hm];refine P3 (KM (I.type.here (s:={s with toks:=s.toks+1}) (KM ((looks_findIn X hf).here (s:={s with toks:=s.toks+1}) (KM (Looks.now.here (s:={s with toks:=s.toks+1}) ?_))))));obtain⟨oc,Qz,QA,osl⟩:=ox;dsimp only at g9 hd z8;subst g9 hd z8;refine KM (P3 (KM (KM (Vf hx (KM ((looks_clsIn X hc).here (s:={s with toks:=s.toks+1}) ?_))))));rw[hh];rw[if_neg Lj];have hx₁:(s.heap.push {cls:=.type "dict",data:=.dict [].toArray}).get? x=be #[.ref C,v7,.fields vs,osl]:=Heap.get?_push_of_some _ hx;have QB:x≠s.heap.objs.size:=GW (Heap.lt_size hx);show T4 _ _ (do
  let d <-alloc {cls:=Value.type "dict",data:=Data.dict [].toArray}
  update x λo=>{cls:=o.cls,dict:=be d,data:=o.data,slots:=o.slots}
  dictMade (.ref C) x d) _ _ _
 refine KM (wpAny_alloc' ?_);refine KM (wpAny_update' hx₁ ?_);refine P3 ?_;have Ru:((s.heap.push {cls:=.type "dict",data:=.dict [].toArray}).update x λo=>{cls:=o.cls,dict:=be s.heap.objs.size,data:=o.data,slots:=o.slots}).get? s.heap.objs.size
   =be {cls:=.type "dict",data:=.dict [].toArray}:=
  (Heap.get?_update_ne _ _ _ _ QB.symm).trans (Heap.get?_push_at rfl rfl)
 have Rv:((s.heap.push {cls:=.type "dict",data:=.dict [].toArray}).update x λo=>{cls:=o.cls,dict:=be s.heap.objs.size,data:=o.data,slots:=o.slots}).Ns s.heap.objs.size (λ_=>v7):=
  #[_,[].toArray,_,Ru,rfl,λe he=>absurd he Ln,λ_=>rfl]
 show T4 _ _ (Builtin.ObjectAttr.storeInDict s.heap.objs.size (.str name s.toks) name v) _ _ _;unfold Builtin.ObjectAttr.storeInDict Builtin.ObjectAttr.newKeyGuard;refine KM (P3 (KM (Vr (Heap.Ns1.of_empty Rv) λh' g8 hs=>?_)));obtain⟨oD,Qo,Qp,Mi,Mj,Ml⟩:=g8.count (Within.cons name v Within.nil);refine KM (U9 Mi (by rw[Mj];exact U_ (GY Ml (by rw[GV,List.length_nil,US];lia))) ?_);refine P3 (h h' ?_ g8 (λb o hb q=>?_) _)
 .exact(hs.2 x QB).trans (Heap.get?_update_self _ hx₁ rfl)
 .exact(hs.2 b (GW (Heap.lt_size q))).trans ((Heap.get?_update_ne _ _ _ _ hb).trans (Heap.get?_push_of_some _ q))
variable{Q:KB->Os->Prop}
def yt{od:Uj}{y_:Bool}(X:K.In s.heap)(I:InstAt s.heap x ox C (be od))(hc:clsIn K C=be cd)(hm:aN cd.mro=true)
  (Rw:findIn K (.ref C) "__getattribute__"=be (be (.builtin "BaseException.__getattribute__"))) (Rx:findIn K (.ref C) "__getattr__"=be v7)
  (hf:findObj K C (be od) name=be (.value v)) (hh:handedIn v=true) (h:∀tk,Q v {s with toks:=tk}):T4 (SL prog w) A (Vw (.ref x) name y_) Q E s:=by
 have FB:=PySem.F.attr_ValueError;obtain⟨hp,g,d,t,os⟩:=s;have L0:=I.type (M:=SL prog w);have L1:=looks_findIn (M:=SL prog w) X Rw;have L2:=looks_findIn (M:=SL prog w) X Rx;have L3:=looks_find (M:=SL prog w) X I hf;have f3:=FB.ga.bind (.ref x);have ne:cd.mro.isEmpty=false:=Oi
 have sub:Looks (SL prog w) hp (U5 (.ref x) (.type "BaseException")) true:=I.type.andThen (looks_mroIn X Tb);unfold Vw getAttrBy;refine KM (wpAny_mkText (Up (KM (L0.at (KM (L1.at ?_))))));dsimp only;have KY:(onTheHeap (Value.ref C)&&Value.builtin "BaseException.__getattribute__"==Value.builtin "object.__getattribute__")=false:=by
  have n9:(Value.builtin "BaseException.__getattribute__"==Value.builtin "object.__getattribute__")=false:=Lf
  rw[n9];rfl
 have Ry:(y_&&onTheHeap (Value.builtin "BaseException.__getattribute__"))=false:=by cases y_<;>rfl
 rw[KY,if_neg G3];unfold getAttrByItsOwn hookBefore;rw[show onTheHeap (Value.ref C)=true from rfl,if_pos rfl];refine KM (L2.at ?_);unfold callGetattribute;rw[Ry,if_neg G3];unfold boundAndCalled;refine KM (wpAny_attempt (Up (KM (VC f3 ?_))));refine UF (UJ FB.ga.plain PySem.F.entry_bexc_ga (@check_slot (SL prog w) _ _ _ "BaseException.__getattribute__" "BaseException" "__getattribute__" (.ref x) [.str name t] [] _ Lf Lf sub (PySem.F.args_bexc_ga _ _) ?_));unfold Builtin.«object.__getattribute__»;refine KM (VC (a:=(Value.ref x,[Value.str name t])) rfl ?_);refine KM (VC (a:=name) rfl ?_);refine KM (L0.at (KM (L3.at ?_)));refine P3 ?_;show T4 _ _ (handedOut v) _ _ _;rw[handedOut_of hh];exact P3 (h _)
def yu{rest:List KB}{t0:KF}{a1 a2 a3 a4 a5:KB}(X:K.In s.heap)(hx:s.heap.get? x=be ox)(g9:ox.cls=.ref C)(z8:ox.data=.fields [.ref t0,a1,a2,a3,a4,a5].toArray)(hc:clsIn K C=be cd)(hm:aN cd.mro=true)(hl:rest.length<=sizeLine)
  (h:∀h',h'.get? x=be {ox with data:=.fields [.ref s.heap.objs.size,a1,a2,a3,a4,a5].toArray}->(∀b o,b≠x->s.heap.get? b=be o->h'.get? b=be o)->Q .none {s with heap:=h'}):
  T4 (SL prog w) A (call (.builtin "ValueError.__init__") (.ref x::rest)) Q E s:=by
 have F:=PySem.F.excBase_ValueError;have hn:notCls ox=true:=by unfold notCls;rw[z8]
 have ht:Looks (SL prog w) s.heap (typeOf (.ref x)) (.ref C):=g9 ▸ (Looks.ld hx).andThen .now;have ne:cd.mro.isEmpty=false:=Oi
 have sub:Looks (SL prog w) s.heap (U5 (.ref x) (.type "ValueError")) true:=ht.andThen (looks_mroIn X Tb);have Rz:∀{Q:Unit->Os->Prop} {E:KB->Os->Prop} {A:T6},Q () s->T4 (SL prog w) A (checkBuiltinCall "ValueError.__init__" #[.ref x::rest,[]]) Q E s:=λ{Q E A} hq=>by
  have Oc:=F.noStar;simp only[checkBuiltinCall,F.initKind,F.initSplit,F.initRow];refine KM (sub.here ?_);obtain⟨hp,g,d,t,os⟩:=s;have Lc:=looks_clsIn (M:=SL prog w) X hc
  repeat(first|(with_reducible refine Uk hx ?_;rw[g9])|(with_reducible refine Lc.here ?_)|wp_step)
  refine wpAny_onRaise ?_;rw[show ∀(a b:String) (n:Nat),Bind.check #[.positional,"*","ValueError",.self,[#["args",.varPos,false]]] a b n (Il (λx=>x.fst) ({pos:=Value.ref x::rest}:Args).kw)=pure ()from
   λa b n=>check_star_args _ _ _ _ _ _]
  exact P3 hq
 refine UF (UJ F.init.plain F.initEntry (Rz ?_));obtain⟨hp,g,d,t,os⟩:=s;obtain⟨oc,Qz,QA,osl⟩:=ox;dsimp only at g9 z8 hx h;subst g9 z8
 wp_walk
 have hx₁:=Heap.get?_push_of_some {cls:=Value.type "tuple",data:=Data.seq rest.toArray} hx;refine h _ ?_ (λb o hb q=>?_)
 .rw[Heap.get?_update_self _ hx₁ rfl];rfl
 .rw[Heap.get?_update_other _ _ (Ne.symm hb)];exact Heap.get?_push_of_some _ q
end
abbrev veLine:List KB:=[.type "ValueError",.type "Exception",.type "BaseException",.type "object"]
section
variable {prog:T3}{w:T5}{A:T6}{E:KB->Os->Prop}{h:Heap}{g:Array VH}{d:Drawn}{t:Nat}{os:OsState}{K:Ex}
variable {nm q:Kq}{C N fI:KF}{bs bm:List KB}{hdct:Bool}{sn:List Kq}{sub:List KB}{ab:Bool}{col:Option Bool}{dd:Option KF}{k0 k1 k2 k3 k5:Option KB}{rest:List KB}
def yw{Q:Fin->Os->Prop}(X:K.In h)(T:OwnTail h veLine bm)(hC:h.get? C=be (Uo nm q C N bs bm hdct sn sub ab col dd k0 k1 k2 k3 k5 "ValueError.__new__"))
  (hi:findIn K (.ref C) "__init__"=be (be (.ref fI))) (hf:typeIn K (.ref fI)=be (.type "function"))
  (hq:∀h' e,Heap.MadeExcOf h h' e (.ref C) rest->T4 (SL prog w) A (call (.ref fI) (.ref e::rest)) (λr s'=>r=.none/\Q (.done (.ret (.ref e))) s') E #[h',g,d,t,os]) (hl:rest.length<=sizeLine):
  T4 (SL prog w) A (Builtin.«type.__call__» #[.ref C::rest,[]]) Q E #[h,g,d,t,os]:=by
 have F:=PySem.F.excBase_ValueError
 repeat(first|(with_reducible refine Uk hC ?_)|(with_reducible refine wpAny_madeBy_exc hC ?_)|wp_step)
 refine codeAny_call_builtin_code (Code.quiet_builtin _ F.quiet) (wpAny_check_new_subT F T hC (codeAny_exc_new_subT F T hC ?_ hl));have kp:∀b o,h.get? b=be o->((h.push {cls:=.type "tuple",data:=.seq rest.toArray}).push {cls:=.ref C,data:=.fields [.ref h.objs.size,.none,.none,.none,.bool false,.none].toArray}).get? b=be o:=λb o e=>Heap.get?_push_of_some _ (Heap.get?_push_of_some _ e);have RA:=kp _ _ hC;have X1:K.In _:=X.keeps kp;have he:((h.push {cls:=.type "tuple",data:=.seq rest.toArray}).push {cls:=.ref C,data:=.fields [.ref h.objs.size,.none,.none,.none,.bool false,.none].toArray}).get? (h.objs.size+1)=be {cls:=.ref C,data:=.fields [.ref h.objs.size,.none,.none,.none,.bool false,.none].toArray}:=by heap_get
 have RB:(Value.ref C::bm).contains (.ref C)=true:=Ln
 have L1:=looks_findIn (M:=SL prog w) X1 hi;have L2:=bind_fn (M:=SL prog w) X1 (.ref (h.objs.size+1)) hf;show T4 _ _ _ _ _ _;unfold U5
 repeat(first|(with_reducible refine Uk he ?_)|(with_reducible refine UN RA ?_;rw[RB])|wp_step)
 refine L1.at ?_;refine Up (KM (L2.at ?_));refine KM (Ug (hq _ (h.objs.size+1) #[kp,Heap.get?_none_of_le (HL _),h.objs.size,he,Heap.get?_none_of_le (GO _),Heap.get?_push_of_some _ (Heap.get?_push_at rfl rfl)]) (λr s' hr=>?_) λ_ _ x=>x);obtain⟨rfl,hQ⟩:=hr;refine P3 ?_;exact P3 hQ
def yx{Q:KB->Os->Prop}(X:K.In h)(T:OwnTail h veLine bm)(hC:h.get? C=be (Uo nm q C N bs bm hdct sn sub ab col dd k0 k1 k2 k3 k5 "ValueError.__new__"))
  (hi:findIn K (.ref C) "__init__"=be (be (.ref fI))) (hf:typeIn K (.ref fI)=be (.type "function"))
  (hq:∀h' e,Heap.MadeExcOf h h' e (.ref C) rest->T4 (SL prog w) (A.under (.builtin "type.__call__" #[.ref C::rest,[]])) (call (.ref fI) (.ref e::rest)) (λr s'=>r=.none/\Q (.ref e) s') E #[h',g,d,t,os]) (hl:rest.length<=sizeLine):
  T4 (SL prog w) A (call (.ref C) rest) Q E #[h,g,d,t,os]:=by
 have f1:=tc_lookup;have f2:=tc_bind (.ref C);have hT:(#[h,g,d,t,os]:Os).TypeIs (.ref C) "type":=#[_,hC,rfl];refine UF (codeAny_of_tree ?_);show T4 _ _ (callAny (.ref C) _) _ _ _
 repeat(any_goals (first|(with_reducible refine Uk hC ?_)|assumption|wp_step))
 exact#[rfl,codeAny_call_builtin_at (Code.quiet_builtin _ Lf) entry_typeCall (wpAny_check_type_call_sub hC (yw X T hC hi hf (λh' e hm=>hq h' e hm) hl))]
end
section
variable {prog:T3}{w:T5}{A:T6}{E:KB->Os->Prop}{s:Os}{env:UP}
variable {nm q:Kq}{C N:KF}{bs bm:List KB}{hdct:Bool}{sn:List Kq}{sub:List KB}{ab:Bool}{col:Option Bool}{dd:Option KF}{k0 k1 k2 k3 k5:Option KB}{newId:String}
variable{Q:Flow->Os->Prop}
def yy{x:Vz KB}(b8:bm.contains (.type "BaseException")=true)(hh:A.handled=v7)
  (h:T4 (SL prog w) A x (λv s₁=>∃e t od sl,v=.ref e/\s₁.heap.get? C=be (Uo nm q C N bs bm hdct sn sub ab col dd k0 k1 k2 k3 k5 newId)/\
   s₁.heap.get? e=be #[.ref C,od,.fields [.ref t,.none,.none,.none,.bool false,.none].toArray,sl]/\E (.ref e) s₁) E s):
  T4 (SL prog w) A (raiseStmt env (be x) v7) Q E s:=by
 have Od:(Value.ref C::bm).contains (.type "BaseException")=true:=by rw[IV,b8,IF]
 unfold raiseStmt;refine KM (Ug h (λv s₁ h₁=>?_) λ_ _ x=>x);obtain⟨e,t,od,sl,rfl,hC,he,hE⟩:=h₁;obtain⟨hp,g,d,tk,os⟩:=s₁
 repeat(first|(with_reducible refine Uk he ?_)|(with_reducible refine Uk hC ?_)|(with_reducible refine UN hC ?_;rw[Od])|wp_step)
 exact wpAny_raiseNew_none hh hE
def ke{x:SZ}{pos:Ub}(b8:bm.contains (.type "BaseException")=true)(hh:A.handled=v7)
  (h:T4 (SL prog w) A (T_ x env) (λv s₁=>∃e t od sl,v=.ref e/\s₁.heap.get? C=be (Uo nm q C N bs bm hdct sn sub ab col dd k0 k1 k2 k3 k5 newId)/\
   s₁.heap.get? e=be #[.ref C,od,.fields [.ref t,.none,.none,.none,.bool false,.none].toArray,sl]/\E (.ref e) s₁) E s):
  T4 (SL prog w) A (exec (.Raise (be x) v7 pos) env) Q E s:=by
 rw[arm_exec_Raise];show T4 (SL prog w) A (do UO pos;raiseStmt env (be (do let v <-T_ x env;UO pos;pure v)) v7) Q E s;exact KM (Uw (yy b8 hh (KM (Ug h (λv s₁ h₁=>KM (Uw (P3 h₁))) λ_ _ x=>x))))
end
def ExAt(h:Heap)(e C:KF)(od:Option KF)(T:KF)(fl:KB):Prop:=
 ∃sl vs oT ts,h.get? e=be #[.ref C,od,.fields vs,sl]/\vs[1]?=be (.ref T)/\T≠e/\h.get? T=be oT/\oT.data=.fields ts/\ts[3]?=be fl
structure Stay(fs ex:List KF)(h h':Heap):Prop where
 keep:∀b o,h.get? b=be o->b∉ex->b∉fs->h'.get? b=be o
 slot:∀b o,h.get? b=be o->b∉ex->∃sl,h'.get? b=be {o with slots:=sl}
 there:∀b o,h.get? b=be o->∃o',h'.get? b=be o'
section
variable {M:VG}{A:T6}{E:KB->Os->Prop}{s:Os}{env:UP}{outer:List UP}{base:Heap}{L e C T:KF}{od:Option KF}
variable{Q:Unit->Os->Prop}
def rO{sl:Array (Option KB)}{vs:Array KB}(l9:A.frames=be (env::outer))(hl:s.heap.FunFrames base (env::outer))(hf:env.frame=be L)
  (he:s.heap.get? e=be #[.ref C,od,.fields vs,sl]) (h1:vs[1]?=be .none)
  (h:∀h' T,ExAt h' e C od T (UX L)->s.heap.objs.size<=T->Stay (frs (env::outer)) [e] s.heap h'->Q () {s with heap:=h'}):T4 M A (UV (.ref e) env) Q E s:=by
 have j7:1<vs.size:=(IG.mp h1).1;have Ll:e∉(env::outer).filterMap (·.frame):=λhm=>by
  obtain⟨_,o,ho,hnf⟩:=hl.mem hm;rw[he]at ho;injection ho with ho;subst ho;exact hnf vs rfl
 unfold UV;simp only[hf];refine KM (UH he rfl h1 ?_);rw[if_neg Lj];refine KM (VR l9 hl hf λh₁ hs₁=>KM (VM λpl c7=>?_));unfold EntryCells.newEntry newFields;refine KM (Ue ?_ (c7.sizeOk5 _ _ _ _ _));have he₁:h₁.get? e=be #[.ref C,od,.fields vs,sl]:=(hs₁.2.1 e Ll).trans he;have fresh:h₁.get? h₁.objs.size=none:=Heap.get?_none_of_le (GO _);generalize Mu:({cls:=.type "traceback",dict:=v7,data:=.fields ([Value.none,.ref L,.none,UX L,.none]++(if pl.isEmpty then Hu 6 Value.none else pl)).toArray}:Uj)=oT;have he₂:=Heap.get?_push_of_some (h:=h₁) oT he₁;have v8:h₁.objs.size≠e:=HB (Heap.lt_size he₁);refine U1 he₂ rfl j7 (h _ h₁.objs.size ?_ ?_ ?_)
 .refine#[sl,vs.setIfInBounds 1 (.ref h₁.objs.size),oT,([Value.none,.ref L,.none,UX L,.none]++(if pl.isEmpty then Hu 6 Value.none else pl)).toArray,?_,by simp[j7],v8,?_,by rw[<-Mu],Ln]
  .rw[Heap.get?_update_self _ he₂ rfl];rfl
  .rw[Heap.get?_update_other _ _ (Ne.symm v8)];exact Heap.get?_push_size h₁ (by rw[<-Mu];rfl)
 .exact IB hs₁.1.symm
 .have kp:∀b o,b≠e->h₁.get? b=be o->((h₁.push oT).update e (Obj.mapFields (·.setIfInBounds 1 (Value.ref h₁.objs.size)))).get? b=be o:=λb o hb z=>by
   rw[Heap.get?_update_other _ _ (Ne.symm hb)];exact Heap.get?_push_of_some _ z
  refine#[λb o q n m=>kp b o (λz=>n (by simp[z])) ((hs₁.2.1 b m).trans q),λb o q n=>?_,λb o q=>?_]
  .obtain⟨v4,z⟩:=hs₁.2.2 b o q;exact#[v4,kp b _ (λz=>n (by simp[z])) z]
  .by_cases hb:b=e
   .subst hb;exact#[_,Heap.get?_update_self _ he₂ rfl]
   .obtain⟨v4,z⟩:=hs₁.2.2 b o q;exact#[_,kp b _ hb z]
def rP(l9:A.frames=be (env::outer))(hl:s.heap.FunFrames base (env::outer))(hf:env.frame=be L)(hx:ExAt s.heap e C od T .none)
  (h:∀h' T',ExAt h' e C od T' (UX L)->s.heap.objs.size<=T'->Stay (frs (env::outer)) [T,e] s.heap h'->Q () {s with heap:=h'}):T4 M A (UV (.ref e) env) Q E s:=by
 obtain⟨sl,vs,oT,ts,he,h1,v8,hT,k_,h3⟩:=hx;have j7:1<vs.size:=(IG.mp h1).1;have Nz:3<ts.size:=(IG.mp h3).1;have Ll:e∉(env::outer).filterMap (·.frame):=λhm=>by
  obtain⟨_,o,ho,hnf⟩:=hl.mem hm;rw[he]at ho;injection ho with ho;subst ho;exact hnf vs rfl
 unfold UV;simp only[hf];refine KM (UH he rfl h1 ?_);rw[if_pos (show(Value.ref T !=Value.none)=true from Ln)];refine KM (UH hT k_ h3 ?_);rw[if_neg (show¬((Value.none==UX L)=true)from by simp[UX])];refine KM (U1 hT k_ Nz ?_);have other:∀b,b≠T->(s.heap.update T (Obj.mapFields (·.setIfInBounds 3 Value.none))).get? b=s.heap.get? b:=λb hb=>Heap.get?_update_other _ _ (Ne.symm hb);have nT:∀b o,s.heap.get? b=be o->(∀vs,o.data≠.fields vs)->b≠T:=λb o hb hnf q=>by
  rw[q,hT]at hb;injection hb with hb;subst hb;exact hnf ts k_
 have Oe:(s.heap.update T (Obj.mapFields (·.setIfInBounds 3 Value.none))).FunFrames base (env::outer):=hl.of_keeps λb o hb hnf=>#[o,(other b (nT b o hb hnf)).trans hb,rfl];have RC:∃o',(s.heap.update T (Obj.mapFields (·.setIfInBounds 3 Value.none))).get? T=be o':=#[_,Heap.get?_update_self _ hT (Obj.isFreed_of_fields (Obj.data_mapFields k_ _))];refine KM (VR l9 Oe hf λh₁ hs₁=>KM (VM λpl c7=>?_));unfold EntryCells.newEntry newFields;refine KM (Ue ?_ (c7.sizeOk5 _ _ _ _ _));have he₁:h₁.get? e=be #[.ref C,od,.fields vs,sl]:=(hs₁.2.1 e Ll).trans ((other e (Ne.symm v8)).trans he);have fresh:h₁.get? h₁.objs.size=none:=Heap.get?_none_of_le (GO _);generalize Mu:({cls:=.type "traceback",dict:=v7,data:=.fields ([Value.ref T,.ref L,.none,UX L,.none]++(if pl.isEmpty then Hu 6 Value.none else pl)).toArray}:Uj)=Of;have he₂:=Heap.get?_push_of_some (h:=h₁) Of he₁;have Mw:h₁.objs.size≠e:=HB (Heap.lt_size he₁);refine U1 he₂ rfl j7 (h _ h₁.objs.size ?_ ?_ ?_)
 .refine#[sl,vs.setIfInBounds 1 (.ref h₁.objs.size),Of,([Value.ref T,.ref L,.none,UX L,.none]++(if pl.isEmpty then Hu 6 Value.none else pl)).toArray,?_,by simp[j7],Mw,?_,by rw[<-Mu],Ln]
  .rw[Heap.get?_update_self _ he₂ rfl];rfl
  .rw[Heap.get?_update_other _ _ (Ne.symm Mw)];exact Heap.get?_push_size h₁ (by rw[<-Mu];rfl)
 .exact IB (hs₁.1.trans (Heap.size_after_update _ _ _)).symm
 .have kp:∀b o,b≠e->h₁.get? b=be o->((h₁.push Of).update e (Obj.mapFields (·.setIfInBounds 1 (Value.ref h₁.objs.size)))).get? b=be o:=λb o hb z=>by
   rw[Heap.get?_update_other _ _ (Ne.symm hb)];exact Heap.get?_push_of_some _ z
  refine#[λb o q n m=>kp b o (λz=>n (by simp[z])) ((hs₁.2.1 b m).trans ((other b (λz=>n (by simp[z]))).trans q)),λb o q n=>?_,λb o q=>?_]
  .obtain⟨v4,z⟩:=hs₁.2.2 b o ((other b (λz=>n (by simp[z]))).trans q);exact#[v4,kp b _ (λz=>n (by simp[z])) z]
  .by_cases hb:b=e
   .subst hb;exact#[_,Heap.get?_update_self _ he₂ rfl]
   .have:∃o',(s.heap.update T (Obj.mapFields (·.setIfInBounds 3 Value.none))).get? b=be o':=by
     by_cases hb:b=T
     .rw[hb];exact RC
     .exact#[o,(other _ hb).trans q]
    obtain⟨o',q'⟩:=this;obtain⟨v4,z⟩:=hs₁.2.2 b o' q';exact#[_,kp b _ hb z]
def flight_none{fl:KB}(hx:ExAt s.heap e C od T fl)(h:∀h',ExAt h' e C od T .none->Stay [] [T] s.heap h'->Q () {s with heap:=h'}):T4 M A (U' (.ref e) v7) Q E s:=by
 obtain⟨sl,vs,oT,ts,he,h1,v8,hT,k_,h3⟩:=hx;have Nz:3<ts.size:=(IG.mp h3).1;unfold U';refine KM (UH he rfl h1 ?_);rw[if_pos (show(Value.ref T !=Value.none)=true from Ln)];refine U1 hT k_ Nz (h _ ?_ ?_)
 .exact#[sl,vs,_,_,(Heap.get?_update_other _ _ v8).trans he,h1,v8,Heap.get?_update_self _ hT (Obj.isFreed_of_fields (Obj.data_mapFields k_ _)),Obj.data_mapFields k_ _,by simp[Nz]]
 .have other:∀b o,b∉[T]->s.heap.get? b=be o->(s.heap.update T (Obj.mapFields (·.setIfInBounds 3 ((v7:Option KF).elim Value.none λf=>UX f)))).get? b=be o:=λb o hb q=>(Heap.get?_update_other _ _ (λz=>hb (by simp[z]))).trans q;refine#[λb o q n _=>other b o n q,λb o q n=>#[o.slots,other b o n q],λb o q=>?_];by_cases hb:b=T
  .subst hb;exact#[_,Heap.get?_update_self _ hT (Obj.isFreed_of_fields (Obj.data_mapFields k_ _))]
  .exact#[o,other b o (by simp[hb]) q]
end
def CX1(P:T3)(w:T5):CXT:=λouter H s E ev s'=>∃e C od T H',ev=.ref e/\s'.os=s.os/\UT s'.gens/\Un (frs outer) [] H H' s.heap s'.heap/\HOk P w H' s'.heap/\ExAt s'.heap e C od T .none/\s.heap.get? e=v7/\s.heap.get? T=v7/\H' e=v7/\H' T=v7/\E (.ref C) od H'
variable{fs ex:List KF}
def fQ{P:T3}{w:T5}{H:Hp}{h h':Heap}(x:HOk P w H h)(st:Stay fs ex h h')(hf:∀b∈fs,H b=v7)(he:∀b∈ex,H b=v7):HOk P w H h':=λa o q=>
 (x a o q).stay (λb u hb r=>by
  have hn:H b≠none:=by
   rcases hb with rfl|hb
   .rw[q];exact λz=>nomatch z
   .rw[hb];exact λz=>nomatch z
  exact st.keep b u r (λz=>hn (he b z)) (λz=>hn (hf b z))) (λ_ q=>q) λ_ _ q=>q
def gO{l7:List KF}{H H':Hp}{h h1 h2:Heap}(u:Un fs [] H H' h h1)(st:Stay l7 ex h1 h2)(d9:∀b∈ex,h.get? b=v7)(NA:∀b∈l7,b∈fs\/h.get? b=v7):Un fs [] H H' h h2 where
 keep:=λb o q n hb hx=>st.keep b o (u.keep b o q n hb hx) (λz=>by rw[d9 b z]at q;cases q) (λz=>(NA b z).elim hb λy=>by rw[y]at q;cases q)
 slot:=λb o q n hb hx=>by
  obtain⟨sl,e1⟩:=u.slot b o q n hb hx;obtain⟨v4,e2⟩:=st.slot b _ e1 (λz=>by rw[d9 b z]at q;cases q);exact#[v4,e2]
 free:=u.free
 there:=λb o q hx=>by
  obtain⟨o1,e1⟩:=u.there b o q hx;exact st.there b o1 e1
 tups:=u.tups
 frzs:=u.frzs
 tbls:=u.tbls
section
variable {P:T3}{w:T5}{K:Ex}{mg:Kq->Option KB}{base:Heap}{N:List Kq}{qual:Kq}{scope:Uv}{f:KF}{cd:KB}{A:T6}{outer:List UP}{s:Os}{H:Hp}{E E':XK}
def rQ{b:KF}(hb:b∈frs (Ud qual scope s.heap.objs.size f cd::outer)):b∈frs outer\/s.heap.get? b=none:=by
 unfold frs at hb;rw[Iy]at hb;rcases GP.mp (show b∈s.heap.objs.size::outer.filterMap (·.frame)from hb)with e|e
 .rw[e];exact .inr (Heap.get?_none_of_le (GO _))
 .exact .inl e
def rR{pins:List (KF×Uj)}{σ:L2.St}{H1:Hp}{s1:Os}{e C:KF}{od:Option KF}{sl:Array (Option KB)}{vs:Array KB}(I:Inv (cxOf (CX1 P w) P w K mg base N qual scope f cd A outer s H E') pins σ H1 s1)
  (he:s1.heap.get? e=be #[.ref C,od,.fields vs,sl]) (h1:vs[1]?=be .none) (He:H1 e=v7) (ne:s.heap.get? e=v7) (hE:E' (.ref C) od H1):(cxOf (CX1 P w) P w K mg base N qual scope f cd A outer s H E').xe (.ref e) s1:=by
 show T4 _ _ (Vv _ _) _ _ _;unfold Vv;refine KM (rO I.ok.frames I.stack rfl he h1 λh2 T2 n9 z9 t7=>flight_none (s:={s1 with heap:=h2}) n9 λh3 Mx I_=>?_);have Kw:s1.heap.get? T2=none:=Heap.get?_none_of_le z9;have f1:∀b,s1.heap.get? b=v7->s.heap.get? b=none:=λb q=>by
  cases z:s.heap.get? b with
  |none=>rfl
  |some o=>
   obtain⟨o',z'⟩:=I.base.there b o z (by exact λy=>absurd (show b∈([]:List KF)from y) Ln);rw[q]at z';cases z'
 have hok:HOk P w H1 s1.heap:=I.hok;have KZ:H1 T2=none:=hok.fresh z9;have u2:Un (frs outer) [] H H1 s.heap h2:=gO (show Un (frs outer) [] H H1 s.heap s1.heap from I.base) t7 (λb hb=>by rw[GN.mp hb];exact ne) λb hb=>rQ hb;have u3:Un (frs outer) [] H H1 s.heap h3:=gO u2 I_ (λb hb=>by rw[GN.mp hb];exact f1 T2 Kw) λb hb=>by cases hb
 have k2:=fQ hok t7 (λb hb=>I.stkFree b hb) (λb hb=>by rw[GN.mp hb];exact He);have k3:=fQ k2 I_ (λb hb=>by cases hb) (λb hb=>by rw[GN.mp hb];exact KZ);exact#[e,C,od,T2,H1,rfl,I.os,I.bare,u3,k3,Mx,ne,f1 T2 Kw,He,KZ,hE]
end
end Exc
namespace L2
def Same.tup{K:Ex}{H H':Hp}{a:KF}{xs:List V}(e:Same H H')(h:SqT K H a xs):SqT K H' a xs:=by
 rcases h with(h|⟨o,h⟩)|h
 .exact .inl (.inl (e _ _ h))
 .exact .inl (.inr #[o,e _ _ h])
 .exact .inr h
end L2
namespace My
def eO{X:Cx}:fO (Exc.CX1 X.prog X.w) X E0:=λ_ _ _ _ _ _ _ h=>by
 obtain⟨e,C,od,T,H',_,_,_,_,_,_,_,_,_,_,h⟩:=h;exact h.elim
def Fun.okC{P:T3}{w:T5}{K:Ex}{mg:Kq->Option KB}{base:Heap}{CX:CXT}{x qual:Kq}{st:SB}{f:KF}{fd:Ua}{N ps:List Kq}{k:Nat}{sp:Sp}{dV:KB}(F:FunG K dV x qual st f fd)(S:FnScope N ps (ah st))(len:∀vs H Q E,sp vs H Q E->vs.length=ps.length)
  (a8:∀(cdv:KB) (A:T6) (outer:List UP) (s:Os) (H:Hp) (vs:List V) (Q:VK) (E:XK),Room k (A.deeper (Ud qual (ah st) s.heap.objs.size f cdv))->sp vs H Q E->
   ∃t,PSs (cxOf CX P w K mg base N qual (ah st) f cdv A outer s H E) (aJ st) t/\t {nx:=λ_ H'=>Q .non H',rt:=Q} (start N vs) H):FnOk P w K mg base CX (k+1) f fd ps sp:=by
 obtain⟨oc,od,kV,doc,pm,an,cdv,ct,osl,rfl,lk,gt⟩:=F.ex;refine xN lk gt S len λA outer s H vs Q E hr z6=>?_;exact a8 cdv A outer s H vs Q E hr z6
def Cal(P:T3)(w:T5)(K:Ex)(mg:Kq->Option KB)(base:Heap)(n:Nat)(x:Kq)(ps:List Kq)(sp:Sp):Prop:=
 ∃f fd,FnOk P w K mg base (Exc.CX1 P w) n f fd ps sp/\Binds K fd ps []/\keepIn K (.ref f)=true/\mg x=be (.ref f)
def Tx(K:Ex)(mg:Kq->Option KB)(x:Kq)(st:SB)(ps:List Kq):Prop:=
 ∃f fd,Fun K x x st f fd/\Binds K fd ps []/\mg x=be (.ref f)
section
variable {X:Cx}{n m:Nat}{ps:List Kq}{sp:Sp}{x:Kq}{p pos:Ub}{e:SZ}{es:List SZ}{t:TA}
def yz(C:Cal X.prog X.w X.K X.mg X.base n x ps sp)(hr:Room m X.A)(ha:PA X (e::es) t)(hg:autoParam (Gl X x) zA0)(hn:autoParam (n<=m) zA1)(d5:autoParam (zND x) zA1)
  (he:autoParam (zSE X e es) zA0) (c7:autoParam (zPL X pos es) zA0):
  PE X (.Call (.Name x p) (e::es) [] pos) (rg sp [] E0 t):=by
 obtain⟨f,fd,F,hb,hk,hm⟩:=C;exact xK F (hr.mono hn) hg hm hk hb .nil eO ha d5 he c7
end
def aO{H:Hp}{p:KF}(h:H p=v7)(o:HO):Same H (upd H p o):=λb u q=>by rw[ar (bE q h)];exact q
def sz{n:Nat}(h:n<=1000):n<=sizeLine:=Ix (yk h)
end My
namespace L2
section
variable {X:Cx}
variable{e:SZ}
def PE.anti{t t':TE}(h:PE X e t)(a:∀s H Q,t' s H Q->t s H Q):PE X e t':=λpins s σ H Q I q=>h pins s σ H Q I (a _ _ _ q)
def PT.anti{t t':TT}(h:PT X e t)(a:∀s H Q,t' s H Q->t s H Q):PT X e t':=λpins s σ H Q I q=>h pins s σ H Q I (a _ _ _ q)
def PW.anti{t t':TT}(h:PW X e t)(a:∀s H Q,t' s H Q->t s H Q):PW X e t':=λwh pins s σ H Q I q=>h wh pins s σ H Q I (a _ _ _ q)
def PA.anti{e:List SZ}{t t':TA}(h:PA X e t)(a:∀s H Q,t' s H Q->t s H Q):PA X e t':=λp pins s σ H Q I q=>h p pins s σ H Q I (a _ _ _ q)
def PS.anti{e:SB}{t t':TS}(h:PS X e t)(a:∀E s H,t' E s H->t E s H):PS X e t':=λpins s σ H Q I q=>h pins s σ H Q I (a _ _ _ q)
def PSs.anti{e:List SB}{t t':TS}(h:PSs X e t)(a:∀E s H,t' E s H->t E s H):PSs X e t':=λpins s σ H Q I q=>h pins s σ H Q I (a _ _ _ q)
end
end L2
namespace My
inductive D where
 |non|bl (b:Bool)|int (i:Int)|str (x:Str)|tup (xs:List D)|lst (xs:List D)
  |rol (xs:List D)
  |obj (x:Kq) (fs:List (Kq×D))
  |exc (x:Kq) (fs:List (Kq×D))
  |own (xs:List D)
  |ptr (a:KF)
  |dti (a9:List ((Int×Int)×Int))
def dtiV(a9:List ((Int×Int)×Int)):List (List Key×V):=a9.map λe=>([.inl e.1.1,.inl e.1.2],.int e.2)
def XO(e C:KF)(od:Option KF):HO:=.ext λh=>∃vs sl,h.get? e=be #[.ref C,od,.fields vs,sl]
mutual
def Rep(K:Ex)(H:Hp):D->V->Prop
 |.non,v=>v=.non
 |.bl b,v=>v=.bl b
 |.int i,v=>v=.int i
 |.str x,v=>v=.str x
 |.tup ds,v=>∃a vs,v=.ref a/\H a=be (.tup vs)/\Reps K H ds vs
 |.lst ds,v=>∃a vs,v=.ref a/\H a=be (.lst vs)/\Reps K H ds vs
 |.rol ds,v=>∃a vs,v=.ref a/\SqL K H a vs/\Reps K H ds vs
 |.obj x fs,v=>∃a C dx vs,v=.ref a/\nsIn K Pi x=be (be (.ref C))/\H a=be (.ins C dx vs)/\RepF K H fs vs
 |.exc x fs,v=>∃a C od vs,v=.ref a/\nsIn K Pi x=be (be (.ref C))/\H a=be (XO a C od)/\RepF K H fs vs/\((od=v7/\vs=[])\/∃b,od=be b/\H b=be (.xd vs))
 |.own _,_=>False
 |.ptr a,v=>v=.ref a
 |.dti a9,v=>∃a,v=.ref a/\H a=be (.dT (dtiV a9))
def RepF(K:Ex)(H:Hp):List (Kq×D)->List (Kq×V)->Prop
 |[],vs=>vs=[]
 |(f,d)::ds,vs=>∃v r,vs=(f,v)::r/\Rep K H d v/\RepF K H ds r
def Reps(K:Ex)(H:Hp):List D->List V->Prop
 |[],vs=>vs=[]
 |d::ds,vs=>∃v r,vs=v::r/\Rep K H d v/\Reps K H ds r
end
mutual
def Rep.mono{K:Ex}{H H':Hp}(g:Same H H'):∀(d:D) (v:V),Rep K H d v->Rep K H' d v
 |.non,v,h=>by unfold Rep at h ⊢;exact h
 |.bl b,v,h=>by unfold Rep at h ⊢;exact h
 |.int b,v,h=>by unfold Rep at h ⊢;exact h
 |.str b,v,h=>by unfold Rep at h ⊢;exact h
 |.tup ds,v,h=>by
  unfold Rep at h ⊢;obtain⟨a,vs,e,q,r⟩:=h;exact#[a,vs,e,g _ _ q,Reps.mono g ds vs r]
 |.lst ds,v,h=>by
  unfold Rep at h ⊢;obtain⟨a,vs,e,q,r⟩:=h;exact#[a,vs,e,g _ _ q,Reps.mono g ds vs r]
 |.rol ds,v,h=>by
  unfold Rep at h ⊢;obtain⟨a,vs,e,q,r⟩:=h;exact#[a,vs,e,g.seq q,Reps.mono g ds vs r]
 |.obj C fs,v,h=>by
  unfold Rep at h ⊢;obtain⟨a,C,dx,vs,e,n,q,r⟩:=h;exact#[a,C,dx,vs,e,n,g _ _ q,RepF.mono g fs vs r]
 |.exc C fs,v,h=>by
  unfold Rep at h ⊢;obtain⟨a,C,od,vs,e,n,q,r,d⟩:=h;exact#[a,C,od,vs,e,n,g _ _ q,RepF.mono g fs vs r,d.imp id λ⟨b,h1,h2⟩=>#[b,h1,g _ _ h2]]
 |.own ds,v,h=>by
  unfold Rep at h ⊢;exact h
 |.ptr a,v,h=>by unfold Rep at h ⊢;exact h
 |.dti a9,v,h=>by
  unfold Rep at h ⊢;obtain⟨a,e,q⟩:=h;exact#[a,e,g _ _ q]
def RepF.mono{K:Ex}{H H':Hp}(g:Same H H'):∀(ds:List (Kq×D)) (vs:List (Kq×V)),RepF K H ds vs->RepF K H' ds vs
 |[],vs,h=>by unfold RepF at h ⊢;exact h
 |(f,d)::ds,vs,h=>by
  unfold RepF at h ⊢;obtain⟨v,r,e,q1,q2⟩:=h;exact#[v,r,e,Rep.mono g d v q1,RepF.mono g ds r q2]
def Reps.mono{K:Ex}{H H':Hp}(g:Same H H'):∀(ds:List D) (vs:List V),Reps K H ds vs->Reps K H' ds vs
 |[],vs,h=>by unfold Reps at h ⊢;exact h
 |d::ds,vs,h=>by
  unfold Reps at h ⊢;obtain⟨v,r,e,q1,q2⟩:=h;exact#[v,r,e,Rep.mono g d v q1,Reps.mono g ds r q2]
end
section
variable {K:Ex}{H:Hp}
variable{v:V}
def rep_non:Rep K H .non v↔v=.non:=by unfold Rep;exact Iff.rfl
def rep_bl{b:Bool}:Rep K H (.bl b) v↔v=.bl b:=by unfold Rep;exact Iff.rfl
def rep_int{i:Int}:Rep K H (.int i) v↔v=.int i:=by unfold Rep;exact Iff.rfl
variable{x:Kq}
def rep_str:Rep K H (.str x) v↔v=.str x:=by unfold Rep;exact Iff.rfl
variable{ds:List My.D}
def rep_tupS:Rep K H (.tup ds) v↔∃a vs,v=.ref a/\H a=be (.tup vs)/\Reps K H ds vs:=by
 constructor
 .intro h;unfold Rep at h;exact h
 .intro h;unfold Rep;exact h
def rep_tup_mp(h:Rep K H (.tup ds) v):∃a vs,v=.ref a/\SqT K H a vs/\Reps K H ds vs:=by
 obtain⟨a,vs,e,q,r⟩:=rep_tupS.mp h;exact#[a,vs,e,SqT.of q,r]
def rep_ptr{a:KF}:Rep K H (.ptr a) v↔v=.ref a:=by unfold Rep;exact Iff.rfl
def rep_dti{a9:List ((Int×Int)×Int)}:Rep K H (.dti a9) v↔∃a,v=.ref a/\H a=be (.dT (dtiV a9)):=by
 constructor
 .intro h;unfold Rep at h;exact h
 .intro h;unfold Rep;exact h
def rep_lst:Rep K H (.lst ds) v↔∃a vs,v=.ref a/\H a=be (.lst vs)/\Reps K H ds vs:=by
 constructor
 .intro h;unfold Rep at h;exact h
 .intro h;unfold Rep;exact h
def rep_rol:Rep K H (.rol ds) v↔∃a vs,v=.ref a/\SqL K H a vs/\Reps K H ds vs:=by
 constructor
 .intro h;unfold Rep at h;exact h
 .intro h;unfold Rep;exact h
variable{fs:List (Kq×My.D)}
def rep_obj:Rep K H (.obj x fs) v↔∃a C dx vs,v=.ref a/\nsIn K Pi x=be (be (.ref C))/\H a=be (.ins C dx vs)/\RepF K H fs vs:=by
 constructor
 .intro h;unfold Rep at h;exact h
 .intro h;unfold Rep;exact h
def rep_exc:Rep K H (.exc x fs) v↔∃a C od vs,v=.ref a/\nsIn K Pi x=be (be (.ref C))/\H a=be (XO a C od)/\RepF K H fs vs/\((od=v7/\vs=[])\/∃b,od=be b/\H b=be (.xd vs)):=by
 constructor
 .intro h;unfold Rep at h;exact h
 .intro h;unfold Rep;exact h
def rep_own:¬Rep K H (.own ds) v:=by intro h;unfold Rep at h;exact h
variable{vs:List (Kq×V)}
def repf_nil:RepF K H [] vs↔vs=[]:=by unfold RepF;exact Iff.rfl
def repf_cons{f:Kq}{d:D}{ds:List (Kq×D)}:RepF K H ((f,d)::ds) vs↔∃v r,vs=(f,v)::r/\Rep K H d v/\RepF K H ds r:=by
 constructor
 .intro h;unfold RepF at h;exact h
 .intro h;unfold RepF;exact h
def RepF.look{f:Kq}{d:D}:∀{fs:List (Kq×D)} {vs:List (Kq×V)},RepF K H fs vs->fs.lookup f=be d->∃v,vs.lookup f=be v/\Rep K H d v
 |[],_,_,e=>by cases e
 |(g,x)::fs,vs,h,e=>by
  obtain⟨v,r,rfl,h1,h2⟩:=repf_cons.mp h;rw[G4]at e ⊢;split at e
  .cases e;exact#[v,rfl,h1]
  .exact RepF.look h2 e
def RepF.none{f:Kq}:∀{fs:List (Kq×D)} {vs:List (Kq×V)},RepF K H fs vs->fs.lookup f=Option.none->vs.lookup f=Option.none
 |[],vs,h,_=>by rw[repf_nil.mp h];rfl
 |(g,x)::fs,vs,h,e=>by
  obtain⟨v,r,rfl,h1,h2⟩:=repf_cons.mp h;rw[G4]at e ⊢;split at e
  .cases e
  .exact RepF.none h2 e
def reps_nil{vs:List V}:Reps K H [] vs↔vs=[]:=by unfold Reps;exact Iff.rfl
def reps_cons{d:D}{vs:List V}:Reps K H (d::ds) vs↔∃v r,vs=v::r/\Rep K H d v/\Reps K H ds r:=by
 constructor
 .intro h;unfold Reps at h;exact h
 .intro h;unfold Reps;exact h
def Reps.length:∀{ds:List D} {vs:List V},Reps K H ds vs->vs.length=ds.length
 |[],vs,h=>by rw[reps_nil.mp h];rfl
 |d::ds,vs,h=>by
  obtain⟨v,r,rfl,_,h2⟩:=reps_cons.mp h;rw[GV,GV,Reps.length h2]
def Reps.get:∀{ds:List D} {vs:List V} {i:Nat} {d:D},Reps K H ds vs->ds[i]?=be d->∃v,vs[i]?=be v/\Rep K H d v
 |[],_,_,_,_,e=>by simp at e
 |x::ds,vs,0,d,h,e=>by
  obtain⟨v,r,rfl,h1,_⟩:=reps_cons.mp h;simp at e;subst e;exact#[v,rfl,h1]
 |x::ds,vs,i+1,d,h,e=>by
  obtain⟨v,r,rfl,_,h2⟩:=reps_cons.mp h;obtain⟨u,q1,q2⟩:=Reps.get (i:=i) h2 (by simpa using e);exact#[u,by simpa using q1,q2]
def Reps.ints:∀{ns:List Int} {vs:List V},Reps K H (ns.map D.int) vs↔vs=ns.map V.int
 |[],vs=>reps_nil
 |n::ns,vs=>by
  rw[G8,reps_cons,G8];constructor
  .rintro⟨v,r,rfl,h1,h2⟩;rw[rep_int.mp h1,Reps.ints.mp h2]
  .rintro rfl;exact#[_,_,rfl,rep_int.mpr rfl,Reps.ints.mpr rfl]
end
abbrev SD:=List (Option D)
def gP:D->Bool|.own _=>true|_=>false
structure RepS(K:Ex)(B F H:Hp)(t:SD)(s:L2.St):Prop where
 len:s.length=t.length
 val:∀(i:Nat) d,t[i]?=be (be d)->gP d=false->∃v,s[i]?=be (be v)/\Rep K F d v
 own:∀(i:Nat) ds,t[i]?=be (be (.own ds))->∃a vs,s[i]?=be (be (.ref a))/\H a=be (.lst vs)/\B a=v7/\F a=v7/\Reps K F ds vs
 apart:∀(i j:Nat) di dj a,t[i]?=be (be (.own di))->t[j]?=be (be (.own dj))->s[i]?=be (be (.ref a))->s[j]?=be (be (.ref a))->i=j
structure Grow(F H F' H':Hp):Prop where
 ff:Same F F'
 fh:Same F' H'
 hh:Same H H'
 out:∀b,F b=v7->H b≠v7->F' b=v7
variable{F H:Hp}
def Grow.refl(h:Same F H):Grow F H F H:=#[Same.refl F,h,Same.refl H,λ_ h _=>h]
def Grow.trans{F1 H1 F2 H2:Hp}(g:Grow F H F1 H1)(k:Grow F1 H1 F2 H2):Grow F H F2 H2:=
 ⟨g.ff.trans k.ff,k.fh,g.hh.trans k.hh,λb h1 h2=>k.out b (g.out b h1 h2) (by
  cases e:H b with
  |none=>exact absurd e h2
  |some o=>rw[g.hh b o e];exact λz=>nomatch z)⟩
def Grow.new{p:KF}(h:Same F H)(hp:H p=v7)(o:HO):Grow F H (upd F p o) (upd H p o):=by
 have fp:F p=none:=h.free hp;refine#[aO fp o,λb u e=>?_,aO hp o,λb h1 h2=>?_]
 .by_cases hb:b=p
  .subst hb;rw[aA]at e ⊢;exact e
  .rw[ar hb]at e ⊢;exact h b u e
 .by_cases hb:b=p
  .subst hb;exact absurd hp h2
  .rw[ar hb];exact h1
class Jx where
 B:Hp
 F0:Hp
 RX:SD->Kq->List (Kq×D)->Prop
structure Kept[J:Jx](B F0 F H:Hp):Prop where
 bh:Same B H
 fh:Same F H
 f0:Same F0 F
 out:∀b,F0 b=v7->B b≠v7->F b=v7
 eb:B=J.B
 jf:Same J.F0 F0
 jo:∀b,J.F0 b=v7->B b≠v7->F0 b=v7
variable{B:Hp}
def Kept.kf[J:Jx]{F0:Hp}(k:Kept B F0 F H):Kept B J.F0 F H:=#[k.bh,k.fh,k.jf.trans k.f0,λb h1 h2=>k.out b (k.jo b h1 h2) h2,k.eb,Same.refl _,λ_ h _=>h]
def Kept.grow[Jx]{F0 F' H':Hp}(k:Kept B F0 F H)(g:Grow F H F' H'):Kept B F0 F' H':=
 ⟨k.bh.trans g.hh,g.fh,k.f0.trans g.ff,λb h1 h2=>g.out b (k.out b h1 h2) (by
  cases e:B b with
  |none=>exact absurd e h2
  |some o=>rw[k.bh b o e];exact λz=>nomatch z),k.eb,k.jf,k.jo⟩
section
variable {K:Ex}{B F H F' H':Hp}{t:SD}{s:L2.St}
def RepS.grow(g:Grow F H F' H')(h:RepS K B F H t s):RepS K B F' H' t s where
 len:=h.len
 val:=λi d e no=>let ⟨v,q1,q2⟩:=h.val i d e no;#[v,q1,q2.mono g.ff]
 own:=λi ds e=>by
  obtain⟨a,vs,q1,q2,q3,q4,q5⟩:=h.own i ds e;exact#[a,vs,q1,g.hh a _ q2,q3,g.out a q4 (by rw[q2];exact λz=>nomatch z),q5.mono g.ff]
 apart:=h.apart
variable{i:Nat}
def RepS.set{d:D}{v:V}(h:RepS K B F H t s)(r:Rep K F d v):RepS K B F H (t.set i (be d)) (s.set i (be v)):=by
 have no:gP d=false:=by
  cases d with
  |own ds=>exact absurd r rep_own
  |_=>rfl
 have get:∀{j:Nat} {x:D},(t.set i (be d))[j]?=be (be x)->(j=i/\x=d/\i<t.length)\/(j≠i/\t[j]?=be (be x)):=λ{j x} e=>by
  by_cases hj:i=j
  .subst hj;rw[HM]at e;simp at e;exact .inl #[rfl,e.2.symm,e.1]
  .rw[G2 hj]at e;exact .inr #[λz=>hj z.symm,e]
 refine#[by rw[Hx,Hx];exact h.len,λj x e nx=>?_,λj ds e=>?_,λj k dj dk a e1 e2 e3 e4=>?_]
 .rcases get e with⟨rfl,rfl,hl⟩|⟨hj,e⟩
  .exact#[v,by rw[Ht (by rw[h.len];exact hl)],r]
  .obtain⟨u,q1,q2⟩:=h.val j x e nx;exact#[u,by rw[G2 (λz=>hj z.symm)];exact q1,q2]
 .rcases get e with⟨rfl,rfl,hl⟩|⟨hj,e⟩
  .cases no
  .obtain⟨a,vs,q1,q⟩:=h.own j ds e;exact#[a,vs,by rw[G2 (λz=>hj z.symm)];exact q1,q]
 .rcases get e1 with⟨rfl,rfl,hl⟩|⟨hj,e1⟩
  .cases no
  .rcases get e2 with⟨rfl,rfl,hl⟩|⟨hk,e2⟩
   .cases no
   .rw[G2 (λz=>hj z.symm)]at e3;rw[G2 (λz=>hk z.symm)]at e4;exact h.apart j k dj dk a e1 e2 e3 e4
variable{ds:List My.D}
def RepS.setOwn{a:KF}{vs:List V}(h:RepS K B F H t s)(hB:B a=v7)(hF:F a=v7)(r:Reps K F ds vs)
  (free:∀(j:Nat) dj,j≠i->t[j]?=be (be (.own dj))->s[j]?≠be (be (.ref a))):RepS K B F (upd H a (.lst vs)) (t.set i (be (.own ds))) (s.set i (be (.ref a))):=by
 have get:∀{j:Nat} {x:D},(t.set i (be (.own ds)))[j]?=be (be x)->(j=i/\x=.own ds/\i<t.length)\/(j≠i/\t[j]?=be (be x)):=λ{j x} e=>by
  by_cases hj:i=j
  .subst hj;rw[HM]at e;simp at e;exact .inl #[rfl,e.2.symm,e.1]
  .rw[G2 hj]at e;exact .inr #[λz=>hj z.symm,e]
 refine#[by rw[Hx,Hx];exact h.len,λj x e nx=>?_,λj dj e=>?_,λj k dj dk b e1 e2 e3 e4=>?_]
 .rcases get e with⟨rfl,rfl,hl⟩|⟨hj,e⟩
  .cases nx
  .obtain⟨u,q1,q2⟩:=h.val j x e nx;exact#[u,by rw[G2 (λz=>hj z.symm)];exact q1,q2]
 .rcases get e with⟨rfl,e,hl⟩|⟨hj,e⟩
  .cases e;exact#[a,vs,by rw[Ht (by rw[h.len];exact hl)],aA,hB,hF,r]
  .obtain⟨b,us,q1,q2,q⟩:=h.own j dj e;have ne:b≠a:=λz=>free j dj hj e (z ▸ q1);exact#[b,us,by rw[G2 (λz=>hj z.symm)];exact q1,by rw[ar ne];exact q2,q]
 .rcases get e1 with⟨hj,c1,hl⟩|⟨hj,f1⟩
  .rcases get e2 with⟨hk,c2,Nv⟩|⟨hk,f2⟩
   .rw[hj,hk]
   .rw[hj,Ht (by rw[h.len];exact hl)]at e3;rw[G2 (λz=>hk z.symm)]at e4;cases e3;exact absurd e4 (free k dk hk f2)
  .rcases get e2 with⟨hk,c2,Nv⟩|⟨hk,f2⟩
   .rw[hk,Ht (by rw[h.len];exact Nv)]at e4;rw[G2 (λz=>hj z.symm)]at e3;cases e4;exact absurd e3 (free j dj hj f1)
   .rw[G2 (λz=>hj z.symm)]at e3;rw[G2 (λz=>hk z.symm)]at e4;exact h.apart j k dj dk b f1 f2 e3 e4
def RepS.freeze[Jx]{F0:Hp}(h:RepS K B F H t s)(k:Kept B F0 F H)(e:t[i]?=be (be (.own ds))):∃F',Kept B F0 F' H/\RepS K B F' H (t.set i (be (.lst ds))) s:=by
 obtain⟨a,vs,q1,q2,q3,q4,q5⟩:=h.own i ds e;have hl:i<t.length:=(G1.mp e).1;have g:Same F (upd F a (.lst vs)):=aO q4 _;have get:∀{j:Nat} {x:D},(t.set i (be (.lst ds)))[j]?=be (be x)->(j=i/\x=.lst ds)\/(j≠i/\t[j]?=be (be x)):=λ{j x} e=>by
  by_cases hj:i=j
  .subst hj;rw[HM]at e;simp at e;exact .inl #[rfl,e.2.symm]
  .rw[G2 hj]at e;exact .inr #[λz=>hj z.symm,e]
 refine#[upd F a (.lst vs),#[k.bh,λb o z=>?_,k.f0.trans g,λb h1 h2=>?_,k.eb,k.jf,k.jo],#[by rw[Hx];exact h.len,λj x e' nx=>?_,λj dj e'=>?_,λj l dj dl b e1 e2 e3 e4=>?_]]
 .by_cases hb:b=a
  .subst hb;rw[aA]at z;cases z;exact q2
  .rw[ar hb]at z;exact k.fh b o z
 .by_cases hb:b=a
  .subst hb;exact absurd q3 h2
  .rw[ar hb];exact k.out b h1 h2
 .rcases get e' with⟨rfl,rfl⟩|⟨hj,e'⟩
  .exact#[.ref a,q1,rep_lst.mpr #[a,vs,rfl,aA,q5.mono g]]
  .obtain⟨u,p1,p2⟩:=h.val j x e' nx;exact#[u,p1,p2.mono g]
 .rcases get e' with⟨rfl,c⟩|⟨hj,e'⟩
  .cases c
  .obtain⟨b,us,p1,p2,p3,p4,p5⟩:=h.own j dj e';have ne:b≠a:=λz=>hj (h.apart j i dj ds a e' e (z ▸ p1) q1);exact#[b,us,p1,p2,p3,by rw[ar ne];exact p4,p5.mono g]
 .rcases get e1 with⟨rfl,c⟩|⟨hj,e1⟩
  .cases c
  .rcases get e2 with⟨rfl,c⟩|⟨hk,e2⟩
   .cases c
   .exact h.apart j l dj dl b e1 e2 e3 e4
end
def startD(N:List Kq)(ds:List D):SD:=ds.map be++Hu (N.length-ds.length) v7
variable{K:Ex}
def Rep.noown{d:D}{v:V}(r:Rep K F d v):gP d=false:=by
 cases d with
 |own ds=>exact absurd r rep_own
 |_=>rfl
def dL{N:List Kq}{ds:List D}{vs:List V}(h:Reps K F ds vs):RepS K B F H (startD N ds) (L2.start N vs):=by
 have hl:=h.length;have get:∀(i:Nat) d,(startD N ds)[i]?=be (be d)->∃v,(L2.start N vs)[i]?=be (be v)/\Rep K F d v:=λi d e=>by
  unfold startD at e;unfold L2.start;by_cases hi:i<ds.length
  .rw[Hv (by simpa using hi),GX]at e;cases q:ds[i]? with
   |none=>rw[q]at e;cases e
   |some x=>
    rw[q]at e;cases e;obtain⟨v,q1,q2⟩:=h.get q;exact#[v,by rw[Hv (by simpa[hl]using hi),GX,q1];rfl,q2]
  .rw[HD (by simpa using hi),IR]at e;split at e<;>cases e
 refine#[by unfold startD L2.start;simp[hl],λi d e _=>get i d e,λi d e=>?_,λi j di dj a e=>?_]
 .obtain⟨v,_,r⟩:=get i _ e;exact absurd r rep_own
 .obtain⟨v,_,r⟩:=get i _ e;exact absurd r rep_own
abbrev TD:=SD->(D->Prop)->Prop
abbrev TDT:=SD->(Bool->Prop)->Prop
abbrev TDA:=SD->(List D->Prop)->Prop
structure EndsD where
 nx:SD->Prop
 rt:D->Prop
 bk:SD->Prop:=λ_=>False
 ct:SD->Prop:=λ_=>False
abbrev TSD:=EndsD->SD->Prop
def lE(K:Ex)[J:Jx](t:TD):TE:=λs H Q=>∃B F z,Kept B J.F0 F H/\RepS K B F H z s/\∃R:D->Prop,t z R/\∀d v F' H',Grow F H F' H'->R d->Rep K F' d v->Q v H'
def lT(K:Ex)[J:Jx](t:TDT):TT:=λs H Q=>∃B F z,Kept B J.F0 F H/\RepS K B F H z s/\∃R:Bool->Prop,t z R/\∀b F' H',Grow F H F' H'->R b->Q b H'
def lA(K:Ex)[J:Jx](t:TDA):TA:=λs H Q=>∃B F z,Kept B J.F0 F H/\RepS K B F H z s/\∃R:List D->Prop,t z R/\∀ds vs F' H',Grow F H F' H'->R ds->Reps K F' ds vs->Q vs H'
structure EndsOk[Jx](K:Ex)(B F0:Hp)(ED:EndsD)(E:Ends):Prop where
 nx:∀z' s' F' H',Kept B F0 F' H'->ED.nx z'->RepS K B F' H' z' s'->E.nx s' H'
 rt:∀d v F' H',Kept B F0 F' H'->ED.rt d->Rep K F' d v->E.rt v H'
 bk:∀z' s' F' H',Kept B F0 F' H'->ED.bk z'->RepS K B F' H' z' s'->E.bk s' H'
 ct:∀z' s' F' H',Kept B F0 F' H'->ED.ct z'->RepS K B F' H' z' s'->E.ct s' H'
def lS(K:Ex)[Jx](t:TSD):TS:=λE s H=>∃B F0 F z,Kept B F0 F H/\RepS K B F H z s/\∃ED:EndsD,t ED z/\EndsOk K B F0 ED E
abbrev DE(X:Cx)[Jx](e:SZ)(t:TD):Prop:=PE X e (lE X.K t)
abbrev DT(X:Cx)[Jx](e:SZ)(t:TDT):Prop:=PT X e (lT X.K t)
abbrev DW(X:Cx)[Jx](e:SZ)(t:TDT):Prop:=PW X e (lT X.K t)
abbrev DA(X:Cx)[Jx](es:List SZ)(t:TDA):Prop:=PA X es (lA X.K t)
abbrev DS(X:Cx)[Jx](st:SB)(t:TSD):Prop:=PS X st (lS X.K t)
abbrev DSs(X:Cx)[Jx](st:List SB)(t:TSD):Prop:=PSs X st (lS X.K t)
structure WDE(X:Cx)[Jx](e:SZ)(t:TD):Prop where
 out:DE X e t
structure WDT(X:Cx)[Jx](e:SZ)(t:TDT):Prop where
 out:DT X e t
structure WDW(X:Cx)[Jx](e:SZ)(t:TDT):Prop where
 out:DW X e t
structure WDA(X:Cx)[Jx](es:List SZ)(t:TDA):Prop where
 out:DA X es t
structure WDS(X:Cx)[Jx](st:SB)(t:TSD):Prop where
 out:DS X st t
structure WDSs(X:Cx)[Jx](st:List SB)(t:TSD):Prop where
 out:DSs X st t
section
variable {X:Cx}
def okR(R:D->Prop):D->Prop|.own _=>False|d=>R d
def dVar(i:Nat):TD:=λz R=>match z[i]? with|some (be d)=>okR R d|_=>False
def dC(d:D):TD:=λ_ R=>R d
variable{x:Kq}
def aa[Jx](i:Nat){pos:Ub}(hN:autoParam (X.N[i]?=be x) zA0)(hv:autoParam (Vis X.env.scope x) zA5)(hd:autoParam (zND x) zA1)
  (gt:autoParam (zNC x) zA1):WDE X (.Name x pos) (dVar i):=⟨(cO hN hv hd gt).anti λs H Q h=>by
 obtain⟨B,F,z,kf,r,R,h1,h2⟩:=h;have fh:=kf.fh;unfold dVar at h1;split at h1
 .rename_i d e;have no:gP d=false:=by
   cases d with
   |own ds=>exact False.elim h1
   |_=>rfl
  have RD:R d:=by
   cases d with
   |own ds=>exact False.elim h1
   |_=>exact h1
  obtain⟨v,q1,q2⟩:=r.val i d e no;exact#[v,q1,h2 d v F H (Grow.refl fh) RD q2]
 .exact h1.elim⟩
variable{e:SZ}
def de_c[Jx]{d:D}{v:V}(h:PE X e (tC v))(r:∀H,Rep X.K H d v):DE X e (dC d):=h.anti λs H Q q=>by
 obtain⟨B,F,z,kf,_,R,h1,h2⟩:=q;have fh:=kf.fh;exact h2 d v F H (Grow.refl fh) h1 (r F)
def ad[Jx]{i j pos}:WDE X (.Constant (.int i) j pos) (dC (.int i)):=#[de_c ww λ_=>rep_int.mpr rfl]
def bo[Jx]{b j pos}:WDE X (.Constant (.bool b) j pos) (dC (.bl b)):=#[de_c wx λ_=>rep_bl.mpr rfl]
def bL[Jx]{j pos}:WDE X (.Constant .none j pos) (dC .non):=#[de_c wy λ_=>rep_non.mpr rfl]
def ay[Jx]{x j pos}:WDE X (.Constant (.str x) j pos) (dC (.str x)):=#[de_c qt λ_=>rep_str.mpr rfl]
abbrev RD2:=D->D->(D->Prop)->Prop
def dOp(r:RD2)(ta tb:TD):TD:=λz R=>ta z λx=>tb z λy=>r x y R
def bf(K:Ex)(r:R2)(rd:RD2):Prop:=∀x y u v F H R Q,Same F H->rd x y R->Rep K F x u->Rep K F y v->(∀d w F' H',Grow F H F' H'->R d->Rep K F' d w->Q w H')->r u v H Q
variable{r:R2}{rd:RD2}
def kg[Jx]{ta tb:TD}(L:bf X.K r rd)(h:PE X e (tOp r (lE X.K ta) (lE X.K tb))):DE X e (dOp rd ta tb):=h.anti λs H Q q=>by
 obtain⟨B,F,z,kf,rs,R,h1,h2⟩:=q;have fh:=kf.fh;refine#[B,F,z,kf,rs,_,h1,λx u F1 H1 g1 hx rx=>?_];refine#[B,F1,z,kf.grow g1,rs.grow g1,_,hx,λy v F2 H2 g2 hy ry=>?_];exact L x y u v F2 H2 R Q g2.fh hy (rx.mono g2.ff) ry λd w F' H' g3=>h2 d w F' H' (g1.trans (g2.trans g3))
variable {a b c:SZ}{ta tb tc:TD}{pos:Ub}
def dM[Jx]{op:Vk}(ho:OpR X (Uq op) r)(L:bf X.K r rd)(ha:DE X a ta)(hb:DE X b tb):DE X (.BinOp a op b pos) (dOp rd ta tb):=kg L (jN ho ha hb)
def rS[Jx]{op:VY}(ho:OpR X (Ul op) r)(L:bf X.K r rd)(ha:DE X a ta)(hb:DE X b tb)(hm:Us op b=false):DE X (.Compare a [op] [b] pos) (dOp rd ta tb):=kg L (xm ho ha hb hm)
def yB[Jx](hr:IxR X r)(L:bf X.K r rd)(ha:DE X a ta)(hb:DE X b tb)(hs:autoParam (eK b) zA6):DE X (.Subscript a b pos) (dOp rd ta tb):=kg L (pe_ix hr ha hb hs)
def rdAdd:RD2:=λx y R=>match x,y with
 |.int i,.int j=>R (.int (i+j))
 |.str i,.str j=>i.length+j.length<=1000000/\R (.str (i++j))
 |.lst xs,.lst ys=>xs.length+ys.length<=1000000/\R (.lst (xs++ys))
 |.tup xs,.tup ys=>(xs≠[]/\ys≠[]/\xs.length+ys.length<=1000000)/\R (.tup (xs++ys))
 |_,_=>False
def rT(K:Ex):R2:=λx y H Q=>rI0 (λi j=>.int (i+j)) x y H Q\/((λx y H Q=>∃i j,x=.str i/\y=.str j/\i.length+j.length<=sizeLine/\Q (.str (i++j)) H) x y H Q\/(rCat x y H Q\/rA K x y H Q))
def rV:OpR X (Uq .Add) (rT X.K):=OpR.or xa (OpR.or xq (OpR.or rG xU))
def Reps.append{K:Ex}{F:Hp}:∀{xs ys:List D} {us vs:List V},Reps K F xs us->Reps K F ys vs->Reps K F (xs++ys) (us++vs)
 |[],ys,us,vs,r1,r2=>by rw[reps_nil.mp r1];exact r2
 |x::xs,ys,us,vs,r1,r2=>by
  obtain⟨u,ur,rfl,a1,a2⟩:=reps_cons.mp r1;exact reps_cons.mpr #[u,ur++vs,rfl,a1,Reps.append a2 r2]
variable{K:Ex}
def Reps.ne_nil{F:Hp}{xs:List D}{us:List V}(r:Reps K F xs us)(h:xs≠[]):us≠[]:=by
 cases xs with
 |nil=>exact absurd rfl h
 |cons x xs=>obtain⟨u,ur,rfl,_⟩:=reps_cons.mp r;exact λz=>nomatch z
def rW:bf K (rT K) rdAdd:=by
 intro x y u v F H R Q fh h rx ry q;unfold rdAdd at h;split at h
 .exact .inl #[_,_,rep_int.mp rx,rep_int.mp ry,q _ _ F H (Grow.refl fh) h (rep_int.mpr rfl)]
 .exact .inr (.inl #[_,_,rep_str.mp rx,rep_str.mp ry,GY h.1 Lj,q _ _ F H (Grow.refl fh) h.2 (rep_str.mpr rfl)])
 .obtain⟨a,us,rfl,hq,rr⟩:=rep_lst.mp rx;obtain⟨b,vs,rfl,Ks,LK⟩:=rep_lst.mp ry;refine .inr (.inr (.inl #[a,b,us,vs,rfl,rfl,fh _ _ hq,fh _ _ Ks,by rw[rr.length,LK.length];exact GY h.1 Lj,λp hp=>?_]));exact q _ _ _ _ (Grow.new fh hp _) h.2 (rep_lst.mpr #[p,_,rfl,aA,(rr.append LK).mono (aO (fh.free hp) _)])
 .obtain⟨a,us,rfl,hq,rr⟩:=rep_tup_mp rx;obtain⟨b,vs,rfl,Ks,LK⟩:=rep_tup_mp ry;obtain⟨⟨n1,n2,hz⟩,h⟩:=h;refine .inr (.inr (.inr #[a,b,us,vs,rfl,rfl,fh.tup hq,fh.tup Ks,rr.ne_nil n1,by rw[rr.length,LK.length];exact GY hz Lj,λz=>absurd z (LK.ne_nil n2),λ_ p hp=>?_]));exact q _ _ _ _ (Grow.new fh hp _) h (rep_tupS.mpr #[p,_,rfl,aA,(rr.append LK).mono (aO (fh.free hp) _)])
 .exact h.elim
def aj[Jx](ha:WDE X a ta)(hb:WDE X b tb):WDE X (.BinOp a .Add b pos) (dOp rdAdd ta tb):=#[have ha:=ha.out;have hb:=hb.out;dM rV rW ha hb]
def rdSub:RD2:=λx y R=>match x,y with|.int i,.int j=>R (.int (i-j))|_,_=>False
def rX:bf K (rI0 λi j=>.int (i-j)) rdSub:=by
 intro x y u v F H R Q fh h rx ry q;unfold rdSub at h;split at h
 .exact#[_,_,rep_int.mp rx,rep_int.mp ry,q _ _ F H (Grow.refl fh) h (rep_int.mpr rfl)]
 .exact h.elim
def bq[Jx](ha:WDE X a ta)(hb:WDE X b tb):WDE X (.BinOp a .Sub b pos) (dOp rdSub ta tb):=#[have ha:=ha.out;have hb:=hb.out;dM qI rX ha hb]
def rdMul:RD2:=λx y R=>match x,y with|.int i,.int j=>CMul i j/\R (.int (i*j))|_,_=>False
def yD:bf K (rI CMul λi j=>.int (i*j)) rdMul:=by
 intro x y u v F H R Q fh h rx ry q;unfold rdMul at h;split at h
 .exact#[_,_,rep_int.mp rx,rep_int.mp ry,h.1,q _ _ F H (Grow.refl fh) h.2 (rep_int.mpr rfl)]
 .exact h.elim
def ax[Jx](ha:WDE X a ta)(hb:WDE X b tb):WDE X (.BinOp a .Mult b pos) (dOp rdMul ta tb):=#[have ha:=ha.out;have hb:=hb.out;dM xb yD ha hb]
def rdFdiv:RD2:=λx y R=>match x,y with|.int i,.int j=>(0<j/\j<1073741824)/\R (.int (i/j))|_,_=>False
def yF:bf K (rI CDiv λi j=>.int (i/j)) rdFdiv:=by
 intro x y u v F H R Q fh h rx ry q;unfold rdFdiv at h;split at h
 .exact#[_,_,rep_int.mp rx,rep_int.mp ry,h.1,q _ _ F H (Grow.refl fh) h.2 (rep_int.mpr rfl)]
 .exact h.elim
def aX[Jx](ha:WDE X a ta)(hb:WDE X b tb):WDE X (.BinOp a .FloorDiv b pos) (dOp rdFdiv ta tb):=#[have ha:=ha.out;have hb:=hb.out;dM xc yF ha hb]
def rY(i j:Int):Prop:=j≠0/\j.natAbs<4611686018427387904
def yG:OpR X (Uq .FloorDiv) (rI rY λi j=>.int (i.fdiv j)):=opI λ_ j _ _ _ _ _ hc q=>floordiv_int hc.1 q (.inl (PyProof.noPylong_of_log2 (JE ((JG (λz=>hc.1 (JH.mp z))).mpr (show j.natAbs<2^62 from hc.2)) Lj)))
def rdFdivN:RD2:=λx y R=>match x,y with|.int i,.int j=>(j≠0/\j.natAbs<4611686018427387904)/\R (.int (i.fdiv j))|_,_=>False
def yH:bf K (rI rY λi j=>.int (i.fdiv j)) rdFdivN:=by
 intro x y u v F H R Q fh h rx ry q;unfold rdFdivN at h;split at h
 .exact#[_,_,rep_int.mp rx,rep_int.mp ry,h.1,q _ _ F H (Grow.refl fh) h.2 (rep_int.mpr rfl)]
 .exact h.elim
def yI[Jx](ha:WDE X a ta)(hb:WDE X b tb):WDE X (.BinOp a .FloorDiv b pos) (dOp rdFdivN ta tb):=#[have ha:=ha.out;have hb:=hb.out;dM yG yH ha hb]
def rdMod:RD2:=λx y R=>match x,y with|.int i,.int j=>0<j/\R (.int (i%j))|_,_=>False
def yJ:bf K (rI (λ_ j=>0<j) λi j=>.int (i%j)) rdMod:=by
 intro x y u v F H R Q fh h rx ry q;unfold rdMod at h;split at h
 .exact#[_,_,rep_int.mp rx,rep_int.mp ry,h.1,q _ _ F H (Grow.refl fh) h.2 (rep_int.mpr rfl)]
 .exact h.elim
def aD[Jx](ha:WDE X a ta)(hb:WDE X b tb):WDE X (.BinOp a .Mod b pos) (dOp rdMod ta tb):=#[have ha:=ha.out;have hb:=hb.out;dM xg yJ ha hb]
def rdModN:RD2:=λx y R=>match x,y with|.int i,.int j=>j≠0/\R (.int (i.fmod j))|_,_=>False
def yL:bf K (rI (λ_ j=>j≠0) λi j=>.int (i.fmod j)) rdModN:=by
 intro x y u v F H R Q fh h rx ry q;unfold rdModN at h;split at h
 .exact#[_,_,rep_int.mp rx,rep_int.mp ry,h.1,q _ _ F H (Grow.refl fh) h.2 (rep_int.mpr rfl)]
 .exact h.elim
def rZ[Jx](ha:WDE X a ta)(hb:WDE X b tb):WDE X (.BinOp a .Mod b pos) (dOp rdModN ta tb):=#[have ha:=ha.out;have hb:=hb.out;dM xh yL ha hb]
def rdLt:RD2:=λx y R=>match x,y with|.int i,.int j=>R (.bl (decide (i<j)))|_,_=>False
def se:bf K (rI0 λi j=>.bl (decide (i<j))) rdLt:=by
 intro x y u v F H R Q fh h rx ry q;unfold rdLt at h;split at h
 .exact#[_,_,rep_int.mp rx,rep_int.mp ry,q _ _ F H (Grow.refl fh) h (rep_bl.mpr rfl)]
 .exact h.elim
def rdLe:RD2:=λx y R=>match x,y with|.int i,.int j=>R (.bl (decide (i<=j)))|_,_=>False
def yM:bf K (rI0 λi j=>.bl (decide (i<=j))) rdLe:=by
 intro x y u v F H R Q fh h rx ry q;unfold rdLe at h;split at h
 .exact#[_,_,rep_int.mp rx,rep_int.mp ry,q _ _ F H (Grow.refl fh) h (rep_bl.mpr rfl)]
 .exact h.elim
def rdGt:RD2:=λx y R=>match x,y with|.int i,.int j=>R (.bl (decide (j<i)))|_,_=>False
def sf:bf K (rI0 λi j=>.bl (decide (j<i))) rdGt:=by
 intro x y u v F H R Q fh h rx ry q;unfold rdGt at h;split at h
 .exact#[_,_,rep_int.mp rx,rep_int.mp ry,q _ _ F H (Grow.refl fh) h (rep_bl.mpr rfl)]
 .exact h.elim
def rdGe:RD2:=λx y R=>match x,y with|.int i,.int j=>R (.bl (decide (j<=i)))|_,_=>False
def yO:bf K (rI0 λi j=>.bl (decide (j<=i))) rdGe:=by
 intro x y u v F H R Q fh h rx ry q;unfold rdGe at h;split at h
 .exact#[_,_,rep_int.mp rx,rep_int.mp ry,q _ _ F H (Grow.refl fh) h (rep_bl.mpr rfl)]
 .exact h.elim
def rdEq:RD2:=λx y R=>match x,y with
 |.int i,.int j=>R (.bl (decide (i=j)))
 |.bl i,.bl j=>R (.bl (decide (i=j)))
 |.str i,.str j=>R (.bl (decide (i=j)))
 |.non,.non=>R (.bl true)
 |_,_=>False
def rdNe:RD2:=λx y R=>match x,y with
 |.int i,.int j=>R (.bl (!decide (i=j)))
 |.bl i,.bl j=>R (.bl (!decide (i=j)))
 |.str i,.str j=>R (.bl (!decide (i=j)))
 |.non,.non=>R (.bl false)
 |_,_=>False
def kh:bf K rEq rdEq:=by
 intro x y u v F H R Q fh h rx ry q;unfold rdEq at h;split at h
 .rw[rep_int.mp rx,rep_int.mp ry];refine#[rfl,q _ _ F H (Grow.refl fh) h (rep_bl.mpr ?_)];simp
 .rw[rep_bl.mp rx,rep_bl.mp ry];refine#[rfl,q _ _ F H (Grow.refl fh) h (rep_bl.mpr ?_)];simp
 .rw[rep_str.mp rx,rep_str.mp ry];refine#[rfl,q _ _ F H (Grow.refl fh) h (rep_bl.mpr ?_)];simp
 .rw[rep_non.mp rx,rep_non.mp ry];refine#[rfl,q _ _ F H (Grow.refl fh) h (rep_bl.mpr ?_)];simp
 .exact h.elim
def si:bf K rNe rdNe:=by
 intro x y u v F H R Q fh h rx ry q;unfold rdNe at h;split at h
 .rw[rep_int.mp rx,rep_int.mp ry];refine#[rfl,q _ _ F H (Grow.refl fh) h (rep_bl.mpr ?_)];simp
 .rw[rep_bl.mp rx,rep_bl.mp ry];refine#[rfl,q _ _ F H (Grow.refl fh) h (rep_bl.mpr ?_)];simp
 .rw[rep_str.mp rx,rep_str.mp ry];refine#[rfl,q _ _ F H (Grow.refl fh) h (rep_bl.mpr ?_)];simp
 .rw[rep_non.mp rx,rep_non.mp ry];refine#[rfl,q _ _ F H (Grow.refl fh) h (rep_bl.mpr ?_)];simp
 .exact h.elim
def dh[Jx](ha:WDE X a ta)(hb:WDE X b tb):WDE X (.Compare a [.Eq] [b] pos) (dOp rdEq ta tb):=#[have ha:=ha.out;have hb:=hb.out;rS jO kh ha hb (nomark _)]
def ki:D->Bool|.non=>true|_=>false
def rdIs(f:Bool->Bool):RD2:=λx y R=>match y with|.non=>R (.bl (f (ki x)))|_=>False
def sj{H:Hp}{x:D}{u:V}(r:Rep K H x u):decide (u=.non)=ki x:=by
 cases x with
 |non=>rw[rep_non.mp r];rfl
 |bl b=>rw[rep_bl.mp r];rfl
 |int b=>rw[rep_int.mp r];rfl
 |str b=>rw[rep_str.mp r];rfl
 |tup b=>obtain⟨a,vs,rfl,_⟩:=rep_tup_mp r;rfl
 |lst b=>obtain⟨a,vs,rfl,_⟩:=rep_lst.mp r;rfl
 |rol b=>obtain⟨a,vs,rfl,_⟩:=rep_rol.mp r;rfl
 |obj C b=>obtain⟨a,C,dx,vs,rfl,_⟩:=rep_obj.mp r;rfl
 |exc C b=>obtain⟨a,C,od,vs,rfl,_⟩:=rep_exc.mp r;rfl
 |own b=>exact absurd r rep_own
 |ptr b=>rw[rep_ptr.mp r];rfl
 |dti b=>obtain⟨a,rfl,_⟩:=rep_dti.mp r;rfl
def sk:bf K (λx y H Q=>y=.non/\Q (.bl (decide (x=.non))) H) (rdIs id):=by
 intro x y u v F H R Q fh h rx ry q;unfold rdIs at h;split at h
 .exact#[rep_non.mp ry,q _ _ F H (Grow.refl fh) h (rep_bl.mpr (by rw[sj rx];rfl))]
 .exact h.elim
def so:bf K (λx y H Q=>y=.non/\Q (.bl (!decide (x=.non))) H) (rdIs not):=by
 intro x y u v F H R Q fh h rx ry q;unfold rdIs at h;split at h
 .exact#[rep_non.mp ry,q _ _ F H (Grow.refl fh) h (rep_bl.mpr (by rw[sj rx]))]
 .exact h.elim
def yQ[Jx](ha:WDE X a ta)(hb:WDE X b tb):WDE X (.Compare a [.IsNot] [b] pos) (dOp (rdIs not) ta tb):=#[have ha:=ha.out;have hb:=hb.out;rS qR so ha hb (nomark _)]
def rdIx:RD2:=λx y R=>match x,y with
 |.tup ds,.int i=>∃d,atI ds i=be d/\R d
 |.lst ds,.int i=>∃d,atI ds i=be d/\R d
 |.rol ds,.int i=>∃d,atI ds i=be d/\R d
 |.str x,.int i=>∃c,(x.length<=1000000/\atI x.cps.toList i=be c)/\R (.str #[[c].toArray])
 |_,_=>False
def Reps.at{H:Hp}{ds:List D}{vs:List V}{i:Int}{d:D}(r:Reps K H ds vs)(e:atI ds i=be d):∃v,atI vs i=be v/\Rep K H d v:=by
 unfold atI at e ⊢;rw[r.length];cases q:ixN ds.length i with
 |none=>rw[q]at e;cases e
 |some j=>
  rw[q]at e;exact r.get e
def sq:bf K (rIx K) rdIx:=by
 intro x y u v F H R Q fh h rx ry q;unfold rdIx at h;split at h
 .obtain⟨d,e,h⟩:=h;obtain⟨a,vs,e1,hq,rs⟩:=rep_tup_mp rx;obtain⟨w,e2,h_⟩:=rs.at e;exact .inr (.inl #[a,vs,_,w,e1,rep_int.mp ry,fh.tup hq,e2,q d w F H (Grow.refl fh) h h_])
 .obtain⟨d,e,h⟩:=h;obtain⟨a,vs,e1,hq,rs⟩:=rep_lst.mp rx;obtain⟨w,e2,h_⟩:=rs.at e;exact .inl #[a,vs,_,w,e1,rep_int.mp ry,fh.seq (SqL.of hq),e2,q d w F H (Grow.refl fh) h h_]
 .obtain⟨d,e,h⟩:=h;obtain⟨a,vs,e1,hq,rs⟩:=rep_rol.mp rx;obtain⟨w,e2,h_⟩:=rs.at e;exact .inl #[a,vs,_,w,e1,rep_int.mp ry,fh.seq hq,e2,q d w F H (Grow.refl fh) h h_]
 .obtain⟨c,⟨hz,e⟩,h⟩:=h;exact .inr (.inr #[_,_,c,rep_str.mp rx,rep_int.mp ry,GY hz Lj,e,q _ _ F H (Grow.refl fh) h (rep_str.mpr rfl)])
 .exact h.elim
def ae[Jx](ha:WDE X a ta)(hb:WDE X b tb)(hs:autoParam (eK b) zA6):WDE X (.Subscript a b pos) (dOp rdIx ta tb):=#[have ha:=ha.out;have hb:=hb.out;yB rC sq ha hb hs]
def dUn(r:D->(D->Prop)->Prop)(ta:TD):TD:=λz R=>ta z λx=>r x R
def sr:D->(D->Prop)->Prop:=λx R=>match x with|.int i=>R (.int (-i))|_=>False
def ck[Jx](ha:WDE X a ta):WDE X (.UnaryOp .USub a pos) (dUn sr ta):=⟨have ha:=ha.out;(wZ xi ha).anti λs H Q h=>by
 obtain⟨B,F,z,kf,rs,R,h1,h2⟩:=h;have fh:=kf.fh;refine#[B,F,z,kf,rs,_,h1,λx u F1 H1 g1 hx rx=>?_];unfold sr at hx;split at hx
 .exact#[_,rep_int.mp rx,h2 _ _ F1 H1 g1 hx (rep_int.mpr rfl)]
 .exact hx.elim⟩
def dNil:TDA:=λ_ R=>R []
def yR(ta:TD)(tr:TDA):TDA:=λz R=>ta z λx=>tr z λxs=>R (x::xs)
def af[Jx]:WDA X [] dNil:=⟨pa_nil.anti λs H Q h=>by
 obtain⟨B,F,z,kf,rs,R,h1,h2⟩:=h;have fh:=kf.fh;exact h2 [] [] F H (Grow.refl fh) h1 (reps_nil.mpr rfl)⟩
variable{es:List SZ}{t:TDA}
def ac[Jx]{te:TD}(ha:WDE X e te)(hr:WDA X es t)(hs:autoParam (zSE X e es) zA0):WDA X (e::es) (yR te t):=⟨have ha:=ha.out;have hr:=hr.out;(bv ha hr hs).anti λs H Q h=>by
 obtain⟨B,F,z,kf,rs,R,h1,h2⟩:=h;have fh:=kf.fh;refine#[B,F,z,kf,rs,_,h1,λx u F1 H1 g1 hx rx=>?_];refine#[B,F1,z,kf.grow g1,rs.grow g1,_,hx,λxs us F2 H2 g2 hy ry=>?_];exact h2 _ _ F2 H2 (g1.trans g2) hy (reps_cons.mpr #[_,_,rfl,rx.mono g2.ff,ry])⟩
def dTup(t:TDA):TD:=λz R=>t z λxs=>xs.length<=1000/\R (.tup xs)
def dLst(t:TDA):TD:=λz R=>t z λxs=>xs.length<=1000/\R (.lst xs)
def aL[Jx]{x1}(h:WDA X es t):WDE X (.Tuple es x1 pos) (dTup t):=⟨have h:=h.out;(rb h).anti λs H Q q=>by
 obtain⟨B,F,z,kf,rs,R,h1,h2⟩:=q;have fh:=kf.fh;refine#[B,F,z,kf,rs,_,h1,λds vs F1 H1 g1 hx rx=>?_];have hl:=rx.length;refine#[sz (by rw[hl];exact hx.1),λp hp=>?_];exact h2 _ _ _ _ (g1.trans (Grow.new g1.fh hp _)) hx.2 (rep_tupS.mpr #[p,vs,rfl,aA,rx.mono (aO (g1.fh.free hp) _)])⟩
def bt[Jx](h:WDA X es t):WDE X (.List es pos) (dLst t):=⟨have h:=h.out;(jS h).anti λs H Q q=>by
 obtain⟨B,F,z,kf,rs,R,h1,h2⟩:=q;have fh:=kf.fh;refine#[B,F,z,kf,rs,_,h1,λds vs F1 H1 g1 hx rx=>?_];have hl:=rx.length;refine#[sz (by rw[hl];exact hx.1),λp hp=>?_];exact h2 _ _ _ _ (g1.trans (Grow.new g1.fh hp _)) hx.2 (rep_lst.mpr #[p,vs,rfl,aA,rx.mono (aO (g1.fh.free hp) _)])⟩
abbrev SpD:=List D->(D->Prop)->Prop
def lSp(K:Ex)(S:SpD):Sp:=λvs H Q _=>∃F ds,Same F H/\Reps K F ds vs/\∃R:D->Prop,S ds R/\∀d v F' H',Grow F H F' H'->R d->Rep K F' d v->Q v H'
def yT(S:SpD)(t:TDA):TD:=λz R=>t z λds=>S ds R
abbrev CalD(P:T3)(w:T5)(K:Ex)(mg:Kq->Option KB)(base:Heap)(n:Nat)(x:Kq)(ps:List Kq)(S:SpD):Prop:=Cal P w K mg base n x ps (lSp K S)
variable{p:Ub}
def az[Jx]{n m:Nat}{ps:List Kq}{S:SpD}(C:CalD X.prog X.w X.K X.mg X.base n x ps S)(hr:Room m X.A)(ha:WDA X (e::es) t)(hg:autoParam (Gl X x) zA0)(hn:autoParam (n<=m) zA1)(d5:autoParam (zND x) zA1)
  (he:autoParam (zSE X e es) zA0) (c7:autoParam (zPL X pos es) zA0):WDE X (.Call (.Name x p) (e::es) [] pos) (yT S t):=⟨have ha:=ha.out;(yz C hr ha hg hn d5 he c7).anti λs H Q h=>by
 obtain⟨B,F,z,kf,rs,R,h1,h2⟩:=h;have fh:=kf.fh;refine#[B,F,z,kf,rs,_,h1,λds vs F1 H1 g1 hx rx=>?_];exact#[F1,ds,g1.fh,by rw[Hn];exact rx,R,hx,λd v F' H' g=>h2 d v F' H' (g1.trans g)]⟩
abbrev RDn:=List D->(D->Prop)->Prop
def cy(K:Ex)(r:List V->Hp->VK->Prop)(rd:RDn):Prop:=∀ds vs F H R Q,Same F H->rd ds R->Reps K F ds vs->(∀d w F' H',Grow F H F' H'->R d->Rep K F' d w->Q w H')->r vs H Q
def dCB(r:RDn)(t:TDA):TD:=λz R=>t z λds=>r ds R
def gQ[Jx]{id:String}{r:List V->Hp->VK->Prop}{rd:RDn}(hc:bK X (.builtin id) r)(L:cy X.K r rd)(hm:X.mg x=v7)(hv:Ui x=be (.builtin id))(ha:DA X (e::es) t)(hg:autoParam (Gl X x) zA0)(hn:autoParam (x≠"__name__") zA1)(d5:autoParam (zND x) zA1)
  (he:autoParam (zSE X e es) zA0) (c7:autoParam (zPL X pos es) zA0):DE X (.Call (.Name x p) (e::es) [] pos) (dCB rd t):=(fP hc hg hm hv ha hn d5 he c7).anti λs H Q h=>by
 obtain⟨B,F,z,kf,rs,R,h1,h2⟩:=h;have fh:=kf.fh;refine#[B,F,z,kf,rs,_,h1,λds vs F1 H1 g1 hx rx=>?_];exact L ds vs F1 H1 R Q g1.fh hx rx λd w F' H' g=>h2 d w F' H' (g1.trans g)
def rdLen:RDn:=λds R=>match ds with
 |[.tup xs]=>R (.int xs.length)
 |[.lst xs]=>R (.int xs.length)
 |[.rol xs]=>R (.int xs.length)
 |[.str x]=>x.length<=1000000/\R (.int x.length)
 |_=>False
def ss:cy K (λxs H Q=>∃x n,xs=[x]/\LenV K x H n/\Q (.int n) H) rdLen:=by
 intro ds vs F H R Q fh h rx q;unfold rdLen at h;split at h
 .obtain⟨v,r,rfl,h1,h2⟩:=reps_cons.mp rx;rw[reps_nil.mp h2];obtain⟨a,us,rfl,hq,rs⟩:=rep_tup_mp h1;exact#[.ref a,us.length,rfl,.inr #[us,fh.tup hq,rfl],q _ _ F H (Grow.refl fh) h (rep_int.mpr (by rw[rs.length]))]
 .obtain⟨v,r,rfl,h1,h2⟩:=reps_cons.mp rx;rw[reps_nil.mp h2];obtain⟨a,us,rfl,hq,rs⟩:=rep_lst.mp h1;exact#[.ref a,us.length,rfl,.inl #[us,fh.seq (SqL.of hq),rfl],q _ _ F H (Grow.refl fh) h (rep_int.mpr (by rw[rs.length]))]
 .obtain⟨v,r,rfl,h1,h2⟩:=reps_cons.mp rx;rw[reps_nil.mp h2];obtain⟨a,us,rfl,hq,rs⟩:=rep_rol.mp h1;exact#[.ref a,us.length,rfl,.inl #[us,fh.seq hq,rfl],q _ _ F H (Grow.refl fh) h (rep_int.mpr (by rw[rs.length]))]
 .obtain⟨v,r,rfl,h1,h2⟩:=reps_cons.mp rx;rw[reps_nil.mp h2,rep_str.mp h1];exact#[.str _,_,rfl,#[GY h.1 Lj,rfl],q _ _ F H (Grow.refl fh) h.2 (rep_int.mpr rfl)]
 .exact h.elim
def bz[Jx](hm:X.mg "len"=v7)(ha:WDA X [e] t)(hg:autoParam (Gl X "len") zA0)(he:autoParam (zSE X e []) zA0):WDE X (.Call (.Name "len" p) [e] [] pos) (dCB rdLen t):=#[have ha:=ha.out;gQ jP ss hm PySem.boot_len ha hg Lj Lj he]
def rdAbs:RDn:=λds R=>match ds with
 |[.int i]=>R (.int (if i<0 then -i else i))
 |_=>False
def yU:cy K (λxs H Q=>∃i,xs=[.int i]/\Q (.int (if i<0 then -i else i)) H) rdAbs:=by
 intro ds vs F H R Q fh h rx q;unfold rdAbs at h;split at h
 .obtain⟨v,r,rfl,h1,h2⟩:=reps_cons.mp rx;rw[reps_nil.mp h2,rep_int.mp h1];exact#[_,rfl,q _ _ F H (Grow.refl fh) h (rep_int.mpr rfl)]
 .exact h.elim
def eQ[Jx](hm:X.mg "abs"=v7)(ha:WDA X [e] t)(hg:autoParam (Gl X "abs") zA0)(he:autoParam (zSE X e []) zA0):WDE X (.Call (.Name "abs" p) [e] [] pos) (dCB rdAbs t):=#[have ha:=ha.out;gQ xr yU hm PyProof.Rows.boot_abs ha hg Lj Lj he]
end
section
variable {X:Cx}{a b c e:SZ}{ta tb tc te:TD}{pos:Ub}
def dTst(t:TD):TDT:=λz R=>t z λx=>match x with|.bl k=>R k|_=>False
def dm[Jx]{op:VY}{r:R2}{rd:RD2}(ho:OpR X (Ul op) r)(L:bf X.K r rd)(ha:DE X a ta)(hb:DE X b tb)(hm:Us op b=false):DT X (.Compare a [op] [b] pos) (dTst (dOp rd ta tb)):=(qS ho ha hb hm).anti λs H Q q=>by
 obtain⟨B,F,z,kf,rs,R,h1,h2⟩:=q;have fh:=kf.fh;refine#[B,F,z,kf,rs,_,h1,λx u F1 H1 g1 hx rx=>?_];refine#[B,F1,z,kf.grow g1,rs.grow g1,_,hx,λy v F2 H2 g2 hy ry=>?_];refine L x y u v F2 H2 _ _ g2.fh hy (rx.mono g2.ff) ry λd w F' H' g3 hd rd=>?_;split at hd
 .exact#[_,rep_bl.mp rd,h2 _ F' H' (g1.trans (g2.trans g3)) hd]
 .exact hd.elim
def fR[Jx](ha:WDE X a ta)(hb:WDE X b tb):WDT X (.Compare a [.Lt] [b] pos) (dTst (dOp rdLt ta tb)):=#[have ha:=ha.out;have hb:=hb.out;dm qO se ha hb (nomark _)]
def yV[Jx](ha:WDE X a ta)(hb:WDE X b tb):WDT X (.Compare a [.LtE] [b] pos) (dTst (dOp rdLe ta tb)):=#[have ha:=ha.out;have hb:=hb.out;dm xj yM ha hb (nomark _)]
def kj[Jx](ha:WDE X a ta)(hb:WDE X b tb):WDT X (.Compare a [.Gt] [b] pos) (dTst (dOp rdGt ta tb)):=#[have ha:=ha.out;have hb:=hb.out;dm qP sf ha hb (nomark _)]
def su[Jx](ha:WDE X a ta)(hb:WDE X b tb):WDT X (.Compare a [.GtE] [b] pos) (dTst (dOp rdGe ta tb)):=#[have ha:=ha.out;have hb:=hb.out;dm xk yO ha hb (nomark _)]
def bC[Jx](ha:WDE X a ta)(hb:WDE X b tb):WDT X (.Compare a [.Eq] [b] pos) (dTst (dOp rdEq ta tb)):=#[have ha:=ha.out;have hb:=hb.out;dm jO kh ha hb (nomark _)]
def bU[Jx](ha:WDE X a ta)(hb:WDE X b tb):WDT X (.Compare a [.NotEq] [b] pos) (dTst (dOp rdNe ta tb)):=#[have ha:=ha.out;have hb:=hb.out;dm qN si ha hb (nomark _)]
def km[Jx](ha:WDE X a ta)(hb:WDE X b tb):WDT X (.Compare a [.Is] [b] pos) (dTst (dOp (rdIs id) ta tb)):=#[have ha:=ha.out;have hb:=hb.out;dm qQ sk ha hb (nomark _)]
def yY[Jx](ha:WDE X a ta)(hb:WDE X b tb):WDT X (.Compare a [.IsNot] [b] pos) (dTst (dOp (rdIs not) ta tb)):=#[have ha:=ha.out;have hb:=hb.out;dm qR so ha hb (nomark _)]
def dTru(t:TD):TDT:=λz R=>t z λx=>match x with
 |.non=>R false
 |.bl k=>R k
 |.int i=>R (i !=0)
 |.str y=>y.length<=1000/\R ((y.length:Int) !=0)
 |.tup xs=>R (!xs.isEmpty)
 |.lst xs=>R (!xs.isEmpty)
 |.rol xs=>R (!xs.isEmpty)
 |_=>False
variable{K:Ex}
def Reps.isEmpty{H:Hp}{ds:List D}{vs:List V}(r:Reps K H ds vs):vs.isEmpty=ds.isEmpty:=by
 cases ds with
 |nil=>rw[reps_nil.mp r];rfl
 |cons d ds=>obtain⟨v,r',rfl,_⟩:=reps_cons.mp r;rfl
def bM[Jx](ha:WDE X a ta)(he:autoParam (∀f6,isTrue a X.env f6=(do let v <-f6;UO a.pos;Uu [v] (truthy v))) zA3):WDT X a (dTru ta):=⟨have ha:=ha.out;(qT ha he).anti λs H Q q=>by
 obtain⟨B,F,z,kf,rs,R,h1,h2⟩:=q;have fh:=kf.fh;refine#[B,F,z,kf,rs,_,h1,λx u F1 H1 g1 hx rx=>?_];split at hx
 .rw[rep_non.mp rx];exact#[false,rfl,h2 _ F1 H1 g1 hx]
 .rw[rep_bl.mp rx];exact#[_,rfl,h2 _ F1 H1 g1 hx]
 .rw[rep_int.mp rx];exact#[_,rfl,h2 _ F1 H1 g1 hx]
 .rw[rep_str.mp rx];exact#[_,#[sz hx.1,rfl],h2 _ F1 H1 g1 hx.2]
 .obtain⟨p,vs,rfl,hq,rr⟩:=rep_tup_mp rx;exact#[_,.inr (.inl #[vs,g1.fh.tup hq,by rw[rr.isEmpty]]),h2 _ F1 H1 g1 hx]
 .obtain⟨p,vs,rfl,hq,rr⟩:=rep_lst.mp rx;exact#[_,.inl #[vs,g1.fh.seq (SqL.of hq),by rw[rr.isEmpty]],h2 _ F1 H1 g1 hx]
 .obtain⟨p,vs,rfl,hq,rr⟩:=rep_rol.mp rx;exact#[_,.inl #[vs,g1.fh.seq hq,by rw[rr.isEmpty]],h2 _ F1 H1 g1 hx]
 .exact hx.elim⟩
variable {tA Kn:TDT}{rest:List SZ}
def dAnd(t u:TDT):TDT:=λz R=>t z λc=>if c=true then u z R else R false
def dOr(t u:TDT):TDT:=λz R=>t z λc=>if c=true then R true else u z R
def dNot(t:TDT):TDT:=λz R=>t z λc=>R (!c)
def sy[Jx](ha:WDT X a tA):WDW X (.BoolOp .And [a] pos) tA:=#[have ha:=ha.out;qv ha]
def cQ[Jx](ha:WDT X a tA):WDW X (.BoolOp .Or [a] pos) tA:=#[have ha:=ha.out;qw ha]
def sA[Jx](ha:WDT X a tA)(hb:WDW X (.BoolOp .And (b::rest) pos) Kn):WDW X (.BoolOp .And (a::b::rest) pos) (dAnd tA Kn):=⟨have ha:=ha.out;have hb:=hb.out;(qy ha hb).anti λs H Q q=>by
 obtain⟨B,F,z,kf,rs,R,h1,h2⟩:=q;have fh:=kf.fh;refine#[B,F,z,kf,rs,_,h1,λk F1 H1 g1 hx=>?_];cases k with
 |true=>exact#[B,F1,z,kf.grow g1,rs.grow g1,R,hx,λb F' H' g=>h2 b F' H' (g1.trans g)]
 |false=>exact h2 _ F1 H1 g1 hx⟩
def cR[Jx](ha:WDT X a tA)(hb:WDW X (.BoolOp .Or (b::rest) pos) Kn):WDW X (.BoolOp .Or (a::b::rest) pos) (dOr tA Kn):=⟨have ha:=ha.out;have hb:=hb.out;(qz ha hb).anti λs H Q q=>by
 obtain⟨B,F,z,kf,rs,R,h1,h2⟩:=q;have fh:=kf.fh;refine#[B,F,z,kf,rs,_,h1,λk F1 H1 g1 hx=>?_];cases k with
 |false=>exact#[B,F1,z,kf.grow g1,rs.grow g1,R,hx,λb F' H' g=>h2 b F' H' (g1.trans g)]
 |true=>exact h2 _ F1 H1 g1 hx⟩
def cz[Jx](h:WDW X a tA):WDT X a tA:=#[have h:=h.out;PW.pt h]
def cF[Jx](ha:WDT X a tA):WDT X (.UnaryOp .Not a pos) (dNot tA):=⟨have ha:=ha.out;(qA ha).anti λs H Q q=>by
 obtain⟨B,F,z,kf,rs,R,h1,h2⟩:=q;have fh:=kf.fh;exact#[B,F,z,kf,rs,_,h1,λk F1 H1 g1 hx=>h2 _ F1 H1 g1 hx]⟩
def yZ(ta tb:TD):TD:=λz R=>ta z λx=>match x with|.bl k=>if k=true then tb z R else R (.bl false)|_=>False
def za(ta:TD):TD:=λz R=>ta z λx=>match x with|.bl k=>R (.bl (!k))|_=>False
def fS[Jx]{op}(h:WDE X a ta):WDE X (.BoolOp op [a] pos) ta:=#[have h:=h.out;wC h]
def fT[Jx](ha:WDE X a ta)(hb:WDE X (.BoolOp .And (b::rest) pos) tb):WDE X (.BoolOp .And (a::b::rest) pos) (yZ ta tb):=⟨have ha:=ha.out;have hb:=hb.out;(wE ha hb).anti λs H Q q=>by
 obtain⟨B,F,z,kf,rs,R,h1,h2⟩:=q;have fh:=kf.fh;refine#[B,F,z,kf,rs,_,h1,λx u F1 H1 g1 hx rx=>?_];split at hx
 .rename_i k;refine#[k,rep_bl.mp rx,?_];cases k with
  |true=>exact#[B,F1,z,kf.grow g1,rs.grow g1,R,hx,λd v F' H' g=>h2 d v F' H' (g1.trans g)]
  |false=>exact h2 _ _ F1 H1 g1 hx (rep_bl.mpr rfl)
 .exact hx.elim⟩
def zb[Jx](ha:WDE X a ta):WDE X (.UnaryOp .Not a pos) (za ta):=⟨have ha:=ha.out;(wF ha).anti λs H Q q=>by
 obtain⟨B,F,z,kf,rs,R,h1,h2⟩:=q;have fh:=kf.fh;refine#[B,F,z,kf,rs,_,h1,λx u F1 H1 g1 hx rx=>?_];split at hx
 .exact#[_,rep_bl.mp rx,h2 _ _ F1 H1 g1 hx (rep_bl.mpr rfl)]
 .exact hx.elim⟩
def tyD:D->String
 |.non=>"NoneType"|.bl _=>"bool"|.int _=>"int"|.str _=>"str"|.tup _=>"tuple"|.lst _=>"list"|.rol _=>"list"|.obj _ _=>"object"|.exc _ _=>"object"|.own _=>"list"|.ptr _=>"object"|.dti _=>"dict"
def cG(t:String)(x:D):Bool:=tyD x==t||(tyD x=="bool" && t=="int")
def TyQ(K:Ex)(H:Hp)(x:V)(t:String):Prop:=TyOf K H x (.type t)\/(t="tuple"/\∃a xs,x=.ref a/\SqT K H a xs)\/(t="list"/\∃a xs,x=.ref a/\SqL K H a xs)
def sB:bK X (.builtin "isinstance") (λxs H Q=>∃x t c k,xs=[x,.ty c]/\TyQ X.K H x t/\kitOne X.K (.type t) (.type c)=be k/\Q (.bl k) H):=by
 intro pins s σ H xs us Q I r h;obtain⟨x,t,c,k,rfl,ty,e,q⟩:=h;obtain⟨u,u',rfl,rx,rc⟩:=fN r;cases(show u'=Value.type c from rc);rcases ty with ty|⟨rfl,a,ys,rfl,hq⟩|⟨rfl,a,ys,rfl,hq⟩
 .exact xF I rx ty e λtk=>#[.bl k,H,I.tok _,rfl,q]
 .cases(show u=Value.ref a from rx);obtain⟨its,_,⟨o,h1,h2,_⟩,_⟩:=I.tuple hq;exact kia_one kitx_tuple I.kIn #[o,h1,h2] e (λz=>nomatch z) λtk=>#[.bl k,H,I.tok _,rfl,q]
 .cases(show u=Value.ref a from rx);obtain⟨its,_,pl,_⟩:=I.list hq;obtain⟨o,n,h1,h2,_⟩:=pl;exact kia_one kitx_list I.kIn #[o,h1,h2] e (λz=>nomatch z) λtk=>#[.bl k,H,I.tok _,rfl,q]
def cH:D->Bool|.obj _ _=>false|.exc _ _=>false|.ptr _=>false|.dti _=>false|_=>true
def sC{F H:Hp}{x:D}{u:V}(fh:Same F H)(r:Rep K F x u)(no:cH x=true):TyQ K H u (tyD x):=by
 cases x with
 |non=>rw[rep_non.mp r];exact .inl .non
 |bl b=>rw[rep_bl.mp r];exact .inl (.bl b)
 |int b=>rw[rep_int.mp r];exact .inl (.int b)
 |str b=>rw[rep_str.mp r];exact .inl (.str b)
 |tup b=>obtain⟨a,vs,rfl,hq,_⟩:=rep_tup_mp r;exact .inr (.inl #[rfl,a,vs,rfl,fh.tup hq])
 |lst b=>obtain⟨a,vs,rfl,hq,_⟩:=rep_lst.mp r;exact .inr (.inr #[rfl,a,vs,rfl,fh.seq (SqL.of hq)])
 |rol b=>obtain⟨a,vs,rfl,hq,_⟩:=rep_rol.mp r;exact .inr (.inr #[rfl,a,vs,rfl,fh.seq hq])
 |obj C b=>cases no
 |exc C b=>cases no
 |ptr b=>cases no
 |dti b=>cases no
 |own b=>exact absurd r rep_own
def ko(t:String):D->(D->Prop)->Prop:=λx R=>match x with|.obj _ _=>False|.exc _ _=>False|.ptr _=>False|.dti _=>False|x=>R (.bl (cG t x))
def dN[Jx]{p p2:Ub}{y:Kq}{t:String}(hm:X.mg "isinstance"=v7)(Og:X.mg y=v7)(ha:WDE X a ta)(hv:Ui y=be (.type t))
  (hk:∀x:D,cH x=true->kitOne X.K (.type (tyD x)) (.type t)=be (cG t x)) (hg:autoParam (Gl X "isinstance") zA0) (Oh:autoParam (Gl X y) zA0) (hn:autoParam (y≠"__name__") zA1) (d5:autoParam (zND y) zA1)
  (l_:autoParam (T7 [a,.Name y p2] X.env=(false,T_ a X.env)::T7 [.Name y p2] X.env) zA0) (l8:autoParam (T7 [.Name y p2] X.env=(false,T_ (.Name y p2) X.env)::T7 [] X.env) zA0) (c7:autoParam ((UD pos (T7 [.Name y p2] X.env)).any (·.1)=false) zA0):WDE X (.Call (.Name "isinstance" p) [a,.Name y p2] [] pos) (dUn (ko t) ta):=⟨have ha:=ha.out;(fP sB hg hm PyProof.Rows.boot_isinstance (bv ha (bv (qu (v:=.ty t) Oh Og hv rfl hn d5) pa_nil l8) l_) Lj Lj l_ c7).anti λs H Q q=>by
 obtain⟨B,F,z,kf,rs,R,h1,h2⟩:=q;have fh:=kf.fh;refine#[B,F,z,kf,rs,_,h1,λx u F1 H1 g1 hx rx=>?_];have no:cH x=true:=by
  cases x with
  |obj C b=>exact False.elim hx
  |exc C b=>exact False.elim hx
  |ptr b=>exact False.elim hx
  |dti b=>exact False.elim hx
  |_=>rfl
 have f7:R (.bl (cG t x)):=by
  cases x with
  |obj C b=>exact False.elim hx
  |exc C b=>exact False.elim hx
  |ptr b=>exact False.elim hx
  |dti b=>exact False.elim hx
  |_=>exact hx
 exact#[u,tyD x,t,_,rfl,sC g1.fh rx no,hk x no,h2 _ _ F1 H1 g1 f7 (rep_bl.mpr rfl)]⟩
def zc:∀x:D,cH x=true->kitOne K (.type (tyD x)) (.type "int")=be (cG "int" x):=Qm
def kit_bool:∀x:D,cH x=true->kitOne K (.type (tyD x)) (.type "bool")=be (cG "bool" x):=Qm
def kit_tuple:∀x:D,cH x=true->kitOne K (.type (tyD x)) (.type "tuple")=be (cG "tuple" x):=Qm
def kit_list:∀x:D,cH x=true->kitOne K (.type (tyD x)) (.type "list")=be (cG "list" x):=Qm
def kit_str:∀x:D,cH x=true->kitOne K (.type (tyD x)) (.type "str")=be (cG "str" x):=Qm
def toV:D->Option V
 |.non=>be .non|.bl b=>be (.bl b)|.int i=>be (.int i)|.str x=>be (.str x)|_=>v7
def cm(d:D):Bool:=(toV d).isSome
def eqF:D->D->Bool
 |.non,.non=>true
 |.bl a,.bl b=>a==b
 |.bl a,.int b=>(if a then 1 else 0)==b
 |.int a,.bl b=>a==(if b then 1 else 0)
 |.int a,.int b=>a==b
 |.str a,.str b=>a==b
 |_,_=>false
end
section
variable {X:Cx}{a b:SZ}{ta tb:TD}{pos:Ub}
def zd{K:Ex}{H:Hp}{x y:D}{u v:V}(rx:Rep K H x u)(ry:Rep K H y v)(fx:cm x=true)(fy:cm y=true):eqV u v=eqF x y:=by
 cases x with
 |tup _=>cases fx
 |lst _=>cases fx
 |rol _=>cases fx
 |obj _ _=>cases fx
 |exc _ _=>cases fx
 |ptr _=>cases fx
 |dti _=>cases fx
 |own _=>cases fx
 |non=>rw[rep_non.mp rx];cases y with
  |tup _=>cases fy
  |lst _=>cases fy
  |rol _=>cases fy
  |obj _ _=>cases fy
  |exc _ _=>cases fy
  |ptr _=>cases fy
  |dti _=>cases fy
  |own _=>cases fy
  |non=>rw[rep_non.mp ry];rfl
  |bl _=>rw[rep_bl.mp ry];rfl
  |int _=>rw[rep_int.mp ry];rfl
  |str _=>rw[rep_str.mp ry];rfl
 |bl _=>rw[rep_bl.mp rx];cases y with
  |tup _=>cases fy
  |lst _=>cases fy
  |rol _=>cases fy
  |obj _ _=>cases fy
  |exc _ _=>cases fy
  |ptr _=>cases fy
  |dti _=>cases fy
  |own _=>cases fy
  |non=>rw[rep_non.mp ry];rfl
  |bl _=>rw[rep_bl.mp ry];rfl
  |int _=>rw[rep_int.mp ry];rfl
  |str _=>rw[rep_str.mp ry];rfl
 |int _=>rw[rep_int.mp rx];cases y with
  |tup _=>cases fy
  |lst _=>cases fy
  |rol _=>cases fy
  |obj _ _=>cases fy
  |exc _ _=>cases fy
  |ptr _=>cases fy
  |dti _=>cases fy
  |own _=>cases fy
  |non=>rw[rep_non.mp ry];rfl
  |bl _=>rw[rep_bl.mp ry];rfl
  |int _=>rw[rep_int.mp ry];rfl
  |str _=>rw[rep_str.mp ry];rfl
 |str _=>rw[rep_str.mp rx];cases y with
  |tup _=>cases fy
  |lst _=>cases fy
  |rol _=>cases fy
  |obj _ _=>cases fy
  |exc _ _=>cases fy
  |ptr _=>cases fy
  |dti _=>cases fy
  |own _=>cases fy
  |non=>rw[rep_non.mp ry];rfl
  |bl _=>rw[rep_bl.mp ry];rfl
  |int _=>rw[rep_int.mp ry];rfl
  |str _=>rw[rep_str.mp ry];rfl
def gR{K:Ex}{H:Hp}{x:D}{u:V}(rx:Rep K H x u)(fx:cm x=true):cE u=true:=by
 cases x with
 |tup _=>cases fx
 |lst _=>cases fx
 |rol _=>cases fx
 |obj _ _=>cases fx
 |exc _ _=>cases fx
 |ptr _=>cases fx
 |dti _=>cases fx
 |own _=>cases fx
 |non=>rw[rep_non.mp rx];rfl
 |bl _=>rw[rep_bl.mp rx];rfl
 |int _=>rw[rep_int.mp rx];rfl
 |str _=>rw[rep_str.mp rx];rfl
def gS{K:Ex}{H:Hp}:∀{xs:List D} {us:List V},Reps K H xs us->xs.all cm=true->us.all cE=true
 |[],us,r,_=>by rw[reps_nil.mp r];rfl
 |x::xs,us,r,f=>by
  obtain⟨v,vr,rfl,r1,r2⟩:=reps_cons.mp r;rw[ID,Hj]at f ⊢;exact#[gR r1 f.1,gS r2 f.2]
end
section
variable {X:Cx}{a b c e:SZ}{ta tb tc te:TD}{pos:Ub}{st:SB}{rest:List SB}{t u:TSD}
def ze:TSD:=λE z=>E.nx z
def dSeq(t u:TSD):TSD:=λE z=>t {E with nx:=u E} z
def bg[Jx]:WDSs X [] ze:=⟨pss_nil.anti λE s H q=>by
 obtain⟨B,F0,F,z,k,rs,ED,h,e⟩:=q;exact e.nx z s F H k h rs⟩
def ai[Jx](h1:WDS X st t)(h2:WDSs X rest u):WDSs X (st::rest) (dSeq t u):=⟨have h1:=h1.out;have h2:=h2.out;(eI h1 h2).anti λE s H q=>by
 obtain⟨B,F0,F,z,k,rs,ED,h,e⟩:=q;exact#[B,F0,F,z,k,rs,{ED with nx:=u ED},h,#[λz' s' F' H' k' hz r'=>#[B,F0,F',z',k',r',ED,hz,e],e.rt,e.bk,e.ct]]⟩
def ao[Jx](h1:WDS X st t):WDSs X [st] t:=#[have h1:=h1.out;qB h1]
def dFrz(i:Nat)(t:TSD):TSD:=λE z=>match z[i]? with|some (be (.own ds))=>t E (z.set i (be (.lst ds)))|_=>False
def cS[Jx](i:Nat){Mz:List SB}(h:WDSs X Mz t):WDSs X Mz (dFrz i t):=⟨have h:=h.out;PSs.anti h λE s H q=>by
 obtain⟨B,F0,F,z,k,rs,ED,h,e⟩:=q;unfold dFrz at h;split at h
 .rename_i ds ez;obtain⟨F',k',r'⟩:=rs.freeze k ez;exact#[B,F0,F',_,k',r',ED,h,e]
 .exact h.elim⟩
def dRet(te:TD):TSD:=λE z=>te z E.rt
def aC[Jx](he:WDE X e te):WDS X (.Return (be e) pos) (dRet te):=⟨have he:=he.out;(qC he).anti λE s H q=>by
 obtain⟨B,F0,F,z,k,rs,ED,h,e⟩:=q;exact#[B,F,z,k.kf,rs,_,h,λd v F' H' g hd rd=>e.rt d v F' H' (k.grow g) hd rd]⟩
def zf(te:TD):TSD:=λE z=>te z λ_=>E.nx z
def sE[Jx](he:WDE X e te)(hs:autoParam (Uh e v7 pos.line X.env=pure false) zA0):WDS X (.Expr e pos) (zf te):=⟨have he:=he.out;(jH he hs).anti λE s H q=>by
 obtain⟨B,F0,F,z,k,rs,ED,h,e⟩:=q;exact#[B,F,z,k.kf,rs,_,h,λd v F' H' g hd rd=>e.nx z s F' H' (k.grow g) hd (rs.grow g)]⟩
def dIfS(c:TDT)(t u:TSD):TSD:=λE z=>c z λb=>if b=true then t E z else u E z
variable{l r:List SB}
def sF[Jx]{c:SZ}{tc:TDT}(hc:DT X c tc)(ha:DSs X l t)(hb:DSs X r u):DS X (.If c l r pos) (dIfS tc t u):=(qD hc ha hb).anti λE s H q=>by
 obtain⟨B,F0,F,z,k,rs,ED,h,e⟩:=q;refine#[B,F,z,k.kf,rs,_,h,λb F1 H1 g hk=>?_];cases b with
 |true=>exact#[B,F0,F1,z,k.grow g,rs.grow g,ED,hk,e]
 |false=>exact#[B,F0,F1,z,k.grow g,rs.grow g,ED,hk,e]
def dIfJ(c:TDT)(t u:TSD):TSD:=λE z=>∃J:SD->Prop,(c z λb=>if b=true then t {E with nx:=J} z else u {E with nx:=J} z)/\∀z',J z'->E.nx z'
def fU[Jx]{c:SZ}{tc:TDT}(hc:WDT X c tc)(ha:WDSs X l t)(hb:WDSs X r u):WDS X (.If c l r pos) (dIfJ tc t u):=⟨have hc:=hc.out;have ha:=ha.out;have hb:=hb.out;(sF hc ha hb).anti λE s H q=>by
 obtain⟨B,F0,F,z,k,rs,ED,⟨J,h,j⟩,e⟩:=q;exact#[B,F0,F,z,k,rs,{ED with nx:=J},h,#[λz' s' F' H' k' hz r'=>e.nx z' s' F' H' k' (j z' hz) r',e.rt,e.bk,e.ct]]⟩
def dSet(i:Nat)(te:TD):TSD:=λE z=>∃P:D->Prop,te z P/\∀d,P d->E.nx (z.set i (be d))
variable{x:Kq}
def am[Jx](i:Nat){b_:Ub}(hN:X.N.Nodup)(he:WDE X e te)(hi:autoParam (X.N[i]?=be x) zA0)(hx:autoParam (Loc X.env.scope x) zA4)(hs:autoParam (Uh e (be (.Name x b_)) pos.line X.env=pure false) zA0)
  (hf:autoParam (zFN X x) zA2):WDS X (.Assign [.Name x b_] e pos) (dSet i te):=⟨have he:=he.out;(gH hN hi hx he hs hf).anti λE s H q=>by
 obtain⟨B,F0,F,z,k,rs,ED,⟨P,h,j⟩,e⟩:=q;exact#[B,F,z,k.kf,rs,P,h,λd v F' H' g hd rd=>e.nx _ _ F' H' (k.grow g) (j d hd) ((rs.grow g).set rd)]⟩
def dNew(i:Nat)(ta:TDA):TSD:=λE z=>ta z λds=>ds.length<=1000/\E.nx (z.set i (be (.own ds)))
variable{es:List SZ}
def eU[Jx](i:Nat){b_ p2:Ub}{ta:TDA}(hN:X.N.Nodup)(he:WDA X es ta)(hi:autoParam (X.N[i]?=be x) zA0)(hx:autoParam (Loc X.env.scope x) zA4)(hs:autoParam (Uh (.List es p2) (be (.Name x b_)) pos.line X.env=pure false) zA0)
  (hf:autoParam (zFN X x) zA2):WDS X (.Assign [.Name x b_] (.List es p2) pos) (dNew i ta):=⟨have he:=he.out;(gH hN hi hx (jS he) hs hf).anti λE s H q=>by
 obtain⟨B,F0,F,z,k,rs,ED,h,e⟩:=q;refine#[B,F,z,k.kf,rs,_,h,λds vs F1 H1 g hd rd=>?_];have hl:=rd.length;refine#[sz (by rw[hl];exact hd.1),λp hp=>?_];have k1:=k.grow g;have r1:=rs.grow g;have hB:B p=none:=k1.bh.free hp;have hF:F1 p=none:=k1.fh.free hp;refine e.nx _ _ F1 _ #[k1.bh.trans (aO hp _),k1.fh.trans (aO hp _),k1.f0,k1.out,k1.eb,k1.jf,k1.jo] hd.2 (r1.setOwn hB hF rd λj dj hj e1 e2=>?_);obtain⟨a,us,q1,q2,_⟩:=r1.own j dj e1;rw[e2]at q1;cases q1;rw[hp]at q2;cases q2⟩
def dApp(i:Nat)(te:TD):TSD:=λE z=>match z[i]? with|some (be (.own ds))=>(te z λd=>ds.length<=100000/\E.nx (z.set i (be (.own (ds++[d])))))|_=>False
def eV{K:Ex}{F:Hp}{d:D}{v:V}(r:Rep K F d v):Reps K F [d] [v]:=reps_cons.mpr #[v,[],rfl,r,reps_nil.mpr rfl]
def cT[Jx](i:Nat){p1 apos cpos:Ub}(he:WDE X e te)(hN:autoParam (X.N[i]?=be x) zA0)(hv:autoParam (Vis X.env.scope x) zA5)(hd:autoParam (zND x) zA1)
  (gt:autoParam (zNC x) zA1) (l_:autoParam (zSE X e []) zA0)
  (b8:autoParam (T9 (.Name x p1) "append" X.env (T_ (.Name x p1) X.env)=T_ (.Name x p1) X.env) zA0)
  (d8:autoParam (zHF X cpos [e]) zA0)
  (c8:autoParam ((apos.endLine==cpos.line)=true) zA0) (Kx:autoParam (Uh (.Call (.Attribute (.Name x p1) "append" apos) [e] [] cpos) v7 pos.line X.env=pure false) zA0):WDS X (.Expr (.Call (.Attribute (.Name x p1) "append" apos) [e] [] cpos) pos) (dApp i te):=⟨have he:=he.out;(jH (eL PySem.F.plainAttrs_list PySem.F.slot_list_append PySem.F.type_list_append jX (cO hN hv hd gt) (bv he pa_nil l_) b8 d8 c8 l_) Kx).anti λE s H q=>by
 obtain⟨B,F0,F,z,k,rs,ED,h,e⟩:=q;unfold dApp at h;split at h
 .rename_i ds ez;obtain⟨a,vs,q1,q2,q3,q4,q5⟩:=rs.own i ds ez;refine#[.ref a,q1,.inl #[rfl,vs,SqL.of q2],?_];refine#[B,F,z,k.kf,rs,_,h,λd v F1 H1 g hd rd=>?_];have k1:=k.grow g;have r1:=rs.grow g;have a1:H1 a=be (.lst vs):=g.hh a _ q2;have f1:F1 a=none:=g.out a q4 (by rw[q2];exact λz=>nomatch z);have hl:vs.length=ds.length:=q5.length;have hz:vs.length<sizeLine:=by
   have h1:ds.length<=100000:=hd.1;have h2:(100000:Nat)<sizeLine:=Lj
   lia
  refine#[a,vs,v,rfl,rfl,a1,hz,?_];have Vc:∀{G:Hp},G a=v7->Same G H1->Same G (upd H1 a (.lst (vs++[v]))):=λ{G} ga gs b o eb=>by
   have ne:b≠a:=λz=>by rw[z,ga]at eb;cases eb
   rw[ar ne];exact gs b o eb
  have r2:=r1.setOwn (i:=i) (a:=a) (vs:=vs++[v]) (ds:=ds++[d]) q3 f1 ((q5.mono g.ff).append (eV rd)) (λj dj hj e1 e2=>hj (rs.apart j i dj ds a e1 ez e2 q1));have es:s.set i (be (.ref a))=s:=by
   apply HN;intro n;by_cases hn:i=n
   .subst hn;rw[Ht (G1.mp q1).1,q1]
   .rw[G2 hn]
  rw[es]at r2;exact e.nx _ s F1 _ #[Vc q3 k1.bh,Vc f1 k1.fh,k1.f0,k1.out,k1.eb,k1.jf,k1.jo] hd.2 r2
 .exact h.elim⟩
def aT:List Nat->List D->SD->SD
 |i::is,d::ds,z=>aT is ds (z.set i (be d))
 |_,_,z=>z
def DGs(X:Cx)(ts:List SZ)(is:List Nat):Prop:=∃u:TGs,PGs X ts u/\∀(ds:List D) (vs:List V) (z:SD) (s:L2.St) (B F H:Hp) (Q:L2.St->Hp->Prop),ds.length=is.length->Reps X.K F ds vs->RepS X.K B F H z s->(∀s',RepS X.K B F H (aT is ds z) s'->Q s' H)->u vs s H Q
def dO[Jx]:DGs X [] []:=⟨_,wL,λds vs z s B F H Q hl r rs q=>by
 cases ds with
 |nil=>exact#[reps_nil.mp r,q s rs]
 |cons _ _=>cases hl⟩
variable{p:Ub}{is:List Nat}
def dg_cons[Jx](i:Nat)(hN:X.N.Nodup)(h2:DGs X es is)(hi:autoParam (X.N[i]?=be x) zA0)(hx:autoParam (Loc X.env.scope x) zA4)(hf:autoParam (zFN X x) zA2)
  (hs:autoParam ((T8 (.Name x p::es) X.env).map (·.2)=UG (.Name x p) X.env::(T8 es X.env).map (·.2)) zA0):DGs X (.Name x p::es) (i::is):=by
 obtain⟨u,hu,k⟩:=h2;refine#[_,wM (dJ hN hi hx hf) hu hs,λds vs z s B F H Q hl r rs q=>?_];cases ds with
 |nil=>cases hl
 |cons d ds=>
  obtain⟨v,vr,rfl,r1,r2⟩:=reps_cons.mp r;exact#[v,vr,rfl,k ds vr _ _ B F H Q (Nat.succ.inj hl) r2 (rs.set r1) q]
def zg(is:List Nat)(te:TD):TSD:=λE z=>te z λx=>match x with|.tup ds=>ds.length=is.length/\E.nx (aT is ds z)|_=>False
def sG[Jx]{k:Nat}(hc:X.calm=true)(he:WDE X e te)(hg:DGs X es is)(hn:autoParam ((T8 es X.env).length=is.length) zA0)(k9:autoParam ((T8 es X.env).findIdx? (·.1)=none) zA0)
  (hs:autoParam (Ux [.Tuple es k p] e pos.line X.env=pure false) zA0) (hw:autoParam (Uy [.Tuple es k p] e X.env=pure none) zA0) (h1:autoParam ((T8 [.Tuple es k p] X.env).map (·.2)=[UG (.Tuple es k p) X.env]) zA0):WDS X (.Assign [.Tuple es k p] e pos) (zg is te):=⟨by
 have he:=he.out;obtain⟨u,hu,kk⟩:=hg;refine(gG he (gE hc hu hn k9) hs hw h1).anti λE s H q=>?_;obtain⟨B,F0,F,z,k,rs,ED,h,e⟩:=q;refine#[B,F,z,k.kf,rs,_,h,λd v F' H' g hd rd=>?_];split at hd
 .obtain⟨p,vs,rfl,hq,rr⟩:=rep_tup_mp rd;exact#[p,vs,rfl,g.fh.tup hq,by rw[rr.length];exact hd.1,kk _ vs z s B F' H' _ hd.1 rr (rs.grow g) λs' r'=>e.nx _ _ F' H' (k.grow g) hd.2 r']
 .exact hd.elim⟩
def dPar(i j:Nat)(ta:TDA):TSD:=λE z=>ta z λds=>match ds with|[x,y]=>E.nx ((z.set i (be x)).set j (be y))|_=>False
def zh[Jx](i j:Nat){y:Kq}{t:TDA}{px py pt:Ub}{kt k2 Le}(hc:X.calm=true)(hN:X.N.Nodup)(ha:WDA X [a,b] t)(hi:autoParam (X.N[i]?=be x) zA0)(hj:autoParam (X.N[j]?=be y) zA0)(N4:autoParam (i≠j) zA1)
  (hx:autoParam (X.env.scope.names.lookup x=be .local) zA0) (hy:autoParam (X.env.scope.names.lookup y=be .local) zA0)
  (hw:autoParam (Uy [.Tuple [.Name x px,.Name y py] kt pt] (.Tuple [a,b] k2 Le) X.env=pure (be [x,y])) zA0)
  (hs:autoParam (Ux [.Tuple [.Name x px,.Name y py] kt pt] (.Tuple [a,b] k2 Le) pos.line X.env=pure false) zA0):WDS X (.Assign [.Tuple [.Name x px,.Name y py] kt pt] (.Tuple [a,b] k2 Le) pos) (dPar i j t):=⟨have ha:=ha.out;(wP hc hN hi hj N4 hx hy ha hw hs).anti λE s H q=>by
 obtain⟨B,F0,F,z,k,rs,ED,h,e⟩:=q;refine#[B,F,z,k.kf,rs,_,h,λds vs F' H' g hd rd=>?_];split at hd
 .obtain⟨v,r,rfl,r1,r2⟩:=reps_cons.mp rd;obtain⟨w,r,rfl,r3,r4⟩:=reps_cons.mp r2;rw[reps_nil.mp r4];exact#[v,w,rfl,e.nx _ _ F' H' (k.grow g) hd (((rs.grow g).set r1).set r3)]
 .exact hd.elim⟩
def zi(c:TDT)(tb:TSD):TSD:=λE z=>∃W:Nat->SD->Prop,(∃m,W m z)/\∀m z,W m z->
 c z λb=>if b=true then tb {E with nx:=λz'=>∃m',m'<m/\W m' z',ct:=λz'=>∃m',m'<m/\W m' z',bk:=E.nx} z else E.nx z
variable{body:List SB}
def fV[Jx]{c:SZ}{tc:TDT}{tb:TSD}(hp:Um (SL X.prog X.w) X.A X.env X.xe)(hc:WDT X c tc)(hb:WDSs X body tb):WDS X (.While c body [] pos) (zi tc tb):=⟨have hc:=hc.out;have hb:=hb.out;(qE hp hc hb).anti λE s H q=>by
 obtain⟨B,F0,F,z,k,rs,ED,⟨W,⟨m0,w0⟩,c5⟩,e⟩:=q;refine#[λm s' H'=>∃F' z',Kept B F0 F' H'/\RepS X.K B F' H' z' s'/\W m z',#[m0,F,z,k,rs,w0],?_];rintro m s1 H1⟨F1,z1,k1,r1,w1⟩;refine#[B,F1,z1,k1.kf,r1,_,c5 m z1 w1,λb F2 H2 g2 hk=>?_];cases b with
 |true=>
  refine#[λs3 H3=>∃F3 z3,Kept B F0 F3 H3/\RepS X.K B F3 H3 z3 s3/\∃m',m'<m/\W m' z3,λs3 H3 ⟨F3,z3,k3,r3,m',l,w3⟩=>#[m',l,F3,z3,k3,r3,w3],?_];exact#[B,F0,F2,z1,k1.grow g2,r1.grow g2,_,hk,#[λz3 s3 F3 H3 k3 h3 r3=>#[F3,z3,k3,r3,h3],e.rt,e.nx,λz3 s3 F3 H3 k3 h3 r3=>#[F3,z3,k3,r3,h3]]]
 |false=>exact e.nx z1 s1 F2 H2 (k1.grow g2) hk (r1.grow g2)⟩
abbrev TDI:=SD->(List D->Prop)->Prop
def dItL(t:TD):TDI:=λz R=>t z λx=>match x with|.lst ds=>R ds|.rol ds=>R ds|_=>False
def dItR(t:TD):TDI:=λz R=>t z λx=>match x with|.int n=>(0<=n/\n<2^62)/\R ((GS n.toNat).map λk=>D.int ((k:Nat):Int))|_=>False
def dFor(i:Nat)(ti:TDI)(tb:TSD):TSD:=λE z=>ti z λds=>∃W:Nat->SD->Prop,W 0 z/\(∀k x z,ds[k]?=be x->W k z->tb {E with nx:=W (k+1),ct:=W (k+1),bk:=E.nx} (z.set i (be x)))/\∀z,W ds.length z->E.nx z
def Reps.get'{K:Ex}{H:Hp}{ds:List D}{vs:List V}{k:Nat}{v:V}(r:Reps K H ds vs)(e:vs[k]?=be v):∃d,ds[k]?=be d/\Rep K H d v:=by
 have hk:k<ds.length:=by rw[<-r.length];exact(G1.mp e).1
 obtain⟨u,q1,q2⟩:=r.get (G5 hk);rw[e]at q1;cases q1;exact#[_,G5 hk,q2]
def gT[Jx](i:Nat){tb:TSD}(hp:Um (SL X.prog X.w) X.A X.env X.xe)(hc:X.calm=true)(hN:X.N.Nodup)(he:WDE X e te)(hb:WDSs X body tb)(hi:autoParam (X.N[i]?=be x) zA0)(hx:autoParam (Loc X.env.scope x) zA4)
  (hf:autoParam (zFN X x) zA2) (hs:autoParam (∀y,zFS X e y) zA3):WDS X (.For (.Name x p) e body [] pos) (dFor i (dItL te) tb):=⟨have he:=he.out;have hb:=hb.out;(cP hp hc (jJ he) (dJ hN hi hx hf) hb hs).anti λE s H q=>by
 obtain⟨B,F0,F,z,kp,rs,ED,h,e⟩:=q;refine#[B,F,z,kp.kf,rs,_,h,λd v F1 H1 g1 hd rd=>?_];split at hd
 .obtain⟨p,vs,rfl,hq,rr⟩:=rep_lst.mp rd;obtain⟨W,w0,c5,out⟩:=hd;refine#[p,rfl,#[vs,g1.fh.seq (SqL.of hq)],jL (K:=X.K) (a:=p) (xs:=vs) (λk s' H'=>∃F' z',Kept B F0 F' H'/\Same F1 F'/\RepS X.K B F' H' z' s'/\W k z') #[F1,z,kp.grow g1,Same.refl F1,rs.grow g1,w0] (λk s' H' _ ⟨F',z',k',g',r',w'⟩=>k'.fh.seq (g'.seq (SqL.of hq))) ?_ ?_]
  .rintro k y s' H' hk⟨F',z',k',g',r',w'⟩;obtain⟨d,hd,ry⟩:=rr.get' hk;refine#[B,F',F',_,#[k'.bh,k'.fh,Same.refl F',λb h1 _=>h1,k'.eb,k'.jf.trans k'.f0,λb h1 h2=>k'.out b (k'.jo b h1 h2) h2],r'.set (ry.mono g'),_,c5 k d z' hd w',?_];have up:∀{F2 H2:Hp},Kept B F' F2 H2->Kept B F0 F2 H2:=λk2=>#[k2.bh,k2.fh,k'.f0.trans k2.f0,λb h1 h2=>k2.out b (k'.out b h1 h2) h2,k'.eb,k'.jf,k'.jo];exact#[λz3 s3 F3 H3 k3 h3 r3=>#[F3,z3,up k3,g'.trans k3.f0,r3,h3],λd v F3 H3 k3=>e.rt d v F3 H3 (up k3),λz3 s3 F3 H3 k3=>e.nx z3 s3 F3 H3 (up k3),λz3 s3 F3 H3 k3 h3 r3=>#[F3,z3,up k3,g'.trans k3.f0,r3,h3]]
  .rintro s' H'⟨F',z',k',g',r',w'⟩;exact e.nx z' s' F' H' k' (out z' (by rw[<-rr.length];exact w')) r'
 .obtain⟨p,vs,rfl,hq,rr⟩:=rep_rol.mp rd;obtain⟨W,w0,c5,out⟩:=hd;refine#[p,rfl,#[vs,g1.fh.seq hq],jL (K:=X.K) (a:=p) (xs:=vs) (λk s' H'=>∃F' z',Kept B F0 F' H'/\Same F1 F'/\RepS X.K B F' H' z' s'/\W k z') #[F1,z,kp.grow g1,Same.refl F1,rs.grow g1,w0] (λk s' H' _ ⟨F',z',k',g',r',w'⟩=>k'.fh.seq (g'.seq hq)) ?_ ?_]
  .rintro k y s' H' hk⟨F',z',k',g',r',w'⟩;obtain⟨d,hd,ry⟩:=rr.get' hk;refine#[B,F',F',_,#[k'.bh,k'.fh,Same.refl F',λb h1 _=>h1,k'.eb,k'.jf.trans k'.f0,λb h1 h2=>k'.out b (k'.jo b h1 h2) h2],r'.set (ry.mono g'),_,c5 k d z' hd w',?_];have up:∀{F2 H2:Hp},Kept B F' F2 H2->Kept B F0 F2 H2:=λk2=>#[k2.bh,k2.fh,k'.f0.trans k2.f0,λb h1 h2=>k2.out b (k'.out b h1 h2) h2,k'.eb,k'.jf,k'.jo];exact#[λz3 s3 F3 H3 k3 h3 r3=>#[F3,z3,up k3,g'.trans k3.f0,r3,h3],λd v F3 H3 k3=>e.rt d v F3 H3 (up k3),λz3 s3 F3 H3 k3=>e.nx z3 s3 F3 H3 (up k3),λz3 s3 F3 H3 k3 h3 r3=>#[F3,z3,up k3,g'.trans k3.f0,r3,h3]]
  .rintro s' H'⟨F',z',k',g',r',w'⟩;exact e.nx z' s' F' H' k' (out z' (by rw[<-rr.length];exact w')) r'
 .exact hd.elim⟩
def bN[Jx](i:Nat){p1 p2:Ub}{tb:TSD}(hp:Um (SL X.prog X.w) X.A X.env X.xe)(hc:X.calm=true)(hN:X.N.Nodup)(hm:X.mg "range"=v7)(he:WDE X e te)(hb:WDSs X body tb)(hg:autoParam (Gl X "range") zA0)(hi:autoParam (X.N[i]?=be x) zA0)(hx:autoParam (Loc X.env.scope x) zA4)
  (hf:autoParam (zFN X x) zA2) (hs:autoParam (∀y,zFS X (.Call (.Name "range" p1) [e] [] p2) y) zA3) (t9:autoParam (zSE X e []) zA0) (g7:autoParam (T7 [e] X.env=[(false,T_ e X.env)]) zA0):WDS X (.For (.Name x p) (.Call (.Name "range" p1) [e] [] p2) body [] pos) (dFor i (dItR te) tb):=⟨have he:=he.out;have hb:=hb.out;(cP hp hc (jK hg hm (bv he pa_nil t9) g7) (dJ hN hi hx hf) hb hs).anti λE s H q=>by
 obtain⟨B,F0,F,z,kp,rs,ED,h,e⟩:=q;refine#[B,F,z,kp.kf,rs,_,h,λd v F1 H1 g1 hd rd=>?_];split at hd
 .rename_i n;obtain⟨⟨b1,b2⟩,W,w0,c5,out⟩:=hd;have hl:((GS n.toNat).map λk=>D.int ((k:Nat):Int)).length=n.toNat:=by simp
  refine#[n,by rw[rep_int.mp rd],KK,b2,jM (lo:=0) (n:=n.toNat) (λk s' H'=>∃F' z',Kept B F0 F' H'/\RepS X.K B F' H' z' s'/\W k z') #[F1,z,kp.grow g1,rs.grow g1,w0] ?_ ?_]
  .rintro k s' H' hk⟨F',z',k',r',w'⟩;have e1:(0:Int)+(k:Int)=(k:Int):=by lia
   exact#[B,F0,F',_,k',r'.set (d:=.int (k:Int)) (rep_int.mpr (by rw[e1])),_,c5 k (.int (k:Int)) z' (by simp[hk]) w',#[λz3 s3 F3 H3 k3 h3 r3=>#[F3,z3,k3,r3,h3],e.rt,e.nx,λz3 s3 F3 H3 k3 h3 r3=>#[F3,z3,k3,r3,h3]]]
  .rintro s' H'⟨F',z',k',r',w'⟩;exact e.nx z' s' F' H' k' (out z' (by rw[hl];exact w')) r'
 .exact hd.elim⟩
end
section
variable {P:T3}{w:T5}{K:Ex}{mg:Kq->Option KB}{base:Heap}
variable{N ps:List Kq}
def _root_.L2.Fun.okD{x qual:Kq}{st:SB}{f:KF}{fd:Ua}{k:Nat}{S:SpD}(T:Fun K x qual st f fd)(F:FnScope N ps (ah st))(len:∀ds R,S ds R->ds.length=ps.length)
  (a8:∀(cdv:KB) (A:T6) (outer:List UP) (s:Os) (H:Hp) (E:XK) (J:Jx),Room k (A.deeper (Ud qual (ah st) s.heap.objs.size f cdv))->
   ∃t,DSs (cxOf (Exc.CX1 P w) P w K mg base N qual (ah st) f cdv A outer s H E).nox (aJ st) t/\∀ds R,S ds R->t {nx:=λ_=>R .non,rt:=R} (startD N ds)):FnOk P w K mg base (Exc.CX1 P w) (k+1) f fd ps (lSp K S):=by
 refine Fun.okC T F (λvs H Q E h=>?_) (λcdv A outer s H vs Q E hr h=>?_)
 .obtain⟨F,ds,fh,rs,R,h,_⟩:=h;rw[rs.length];exact len ds R h
 .obtain⟨F,ds,fh,rs,R,h,q⟩:=h
  letI:Jx:=#[H,F,λ_ _ _=>False]
  obtain⟨t,ht,hq⟩:=a8 cdv A outer s H E inferInstance hr;refine#[_,ht.nox,H,F,F,startD N ds,#[Same.refl H,fh,Same.refl F,λ_ h _=>h,rfl,Same.refl F,λ_ h _=>h],dL rs,_,hq ds R h,#[λz' s' F' H' k hn _=>q _ _ F' H' #[k.f0,k.fh,k.bh,k.out] hn (rep_non.mpr rfl),λd v F' H' k hd rd=>q d v F' H' #[k.f0,k.fh,k.bh,k.out] hd rd,λ_ _ _ _ _ h _=>h.elim,λ_ _ _ _ _ h _=>h.elim]]
def Tx.okD{x:Kq}{st:SB}{k:Nat}{S:SpD}(T:Tx K mg x st ps)(F:FnScope N ps (ah st))(len:∀ds R,S ds R->ds.length=ps.length)
  (a8:∀(f:KF) (cdv:KB) (A:T6) (outer:List UP) (s:Os) (H:Hp) (E:XK) (J:Jx),Room k (A.deeper (Ud x (ah st) s.heap.objs.size f cdv))->
   ∃t,DSs (cxOf (Exc.CX1 P w) P w K mg base N x (ah st) f cdv A outer s H E).nox (aJ st) t/\∀ds R,S ds R->t {nx:=λ_=>R .non,rt:=R} (startD N ds)):CalD P w K mg base (k+1) x ps S:=by
 obtain⟨f,fd,T,hb,hm⟩:=T;exact#[f,fd,T.okD F len λcdv A outer s H E J hr=>a8 f cdv A outer s H E J hr,hb,T.kp,hm]
end
def eX:SpD:=λds R=>∃ns:List Int,ds=[.rol (ns.map D.int)]/\ns.length<=63/\R (.bl true)
def zj{a:KF}{ns:List Int}(hl:ns.length<=63)(hS:SqL K H a (ns.map V.int)){E:XK}:lSp K eX [.ref a] H (λv _=>v=.bl true) E:=
 #[H,[.rol (ns.map D.int)],Same.refl H,reps_cons.mpr #[_,_,rfl,rep_rol.mpr #[a,_,rfl,hS,Reps.ints.mpr rfl],reps_nil.mpr rfl],λd=>d=.bl true,#[ns,rfl,hl,rfl],λd v F' H' _ hd rd=>by subst hd;exact rep_bl.mp rd]
section
variable {X:Cx}{a b c e:SZ}{ta tb tc te:TD}{pos:Ub}
variable{p:Ub}{es:List SZ}{t:TDA}
def kq[Jx]{x:Kq}{T:String}{r:List V->Hp->VK->Prop}{rd:RDn}(hc:bK X (.type T) r)(L:cy X.K r rd)(hm:X.mg x=v7)(hv:Ui x=be (.type T))(ha:DA X (e::es) t)(hg:autoParam (Gl X x) zA0)(hn:autoParam (x≠"__name__") zA1)(d5:autoParam (zND x) zA1)
  (he:autoParam (zSE X e es) zA0) (c7:autoParam (zPL X pos es) zA0):DE X (.Call (.Name x p) (e::es) [] pos) (dCB rd t):=(jT hc hg hm hv ha hn d5 he c7).anti λs H Q h=>by
 obtain⟨B,F,z,kf,rs,R,h1,h2⟩:=h;have fh:=kf.fh;refine#[B,F,z,kf,rs,_,h1,λds vs F1 H1 g1 hx rx=>?_];exact L ds vs F1 H1 R Q g1.fh hx rx λd w F' H' g=>h2 d w F' H' (g1.trans g)
def rdStr:RDn:=λds R=>match ds with|[.int i]=>i.natAbs<18446744073709551616/\R (.str (toString i))|_=>False
variable{K:Ex}
def zk:cy K (λxs H Q=>∃i,xs=[.int i]/\i.natAbs.log2<1920/\Q (.str (toString i)) H) rdStr:=by
 intro ds vs F H R Q fh h rx q;unfold rdStr at h;split at h
 .obtain⟨v,r,rfl,h1,h2⟩:=reps_cons.mp rx;rw[reps_nil.mp h2,rep_int.mp h1];refine#[_,rfl,?_,q _ _ F H (Grow.refl fh) h.2 (rep_str.mpr rfl)];rename_i i;by_cases h0:i.natAbs=0
  .rw[h0];decide
  .have:=(JG h0).mpr (show i.natAbs<2^64 from h.1);lia
 .exact h.elim
def du[Jx](hm:X.mg "str"=v7)(ha:WDA X [e] t)(hg:autoParam (Gl X "str") zA0)(he:autoParam (zSE X e []) zA0):WDE X (.Call (.Name "str" p) [e] [] pos) (dCB rdStr t):=#[have ha:=ha.out;kq xy zk hm PyProof.Rows.boot_str ha hg Lj Lj he]
def rdInt:RDn:=λds R=>match ds with
 |[.int i]=>R (.int i)
 |[.bl k]=>R (.int (if k then 1 else 0))
 |[.str x]=>∃n,(PySem.intText? x=be n/\x.length<=640)/\R (.int n)
 |_=>False
def sH:bK X (.type "int") (λxs H Q=>((∃i,xs=[.int i]/\Q (.int i) H)\/∃k,xs=[.bl k]/\Q (.int (if k then 1 else 0)) H)\/∃x n,xs=[.str x]/\PySem.intText? x=be n/\x.length<=640/\Q (.int n) H):=by
 intro pins s σ H xs us Q I r h;rcases h with h|⟨x,n,rfl,h1,h2,q⟩
 .exact xx pins s σ H xs us Q I r h
 .obtain⟨u,rfl,t,rfl⟩:=cb r;exact PySem.W.KIN.call_text h1 h2 #[.int n,H,I.tok _,#[_,rfl],q]
def sI:cy K (λxs H Q=>((∃i,xs=[.int i]/\Q (.int i) H)\/∃k,xs=[.bl k]/\Q (.int (if k then 1 else 0)) H)\/∃x n,xs=[.str x]/\PySem.intText? x=be n/\x.length<=640/\Q (.int n) H) rdInt:=by
 intro ds vs F H R Q fh h rx q;unfold rdInt at h;split at h
 .obtain⟨v,r,rfl,h1,h2⟩:=reps_cons.mp rx;rw[reps_nil.mp h2,rep_int.mp h1];exact .inl (.inl #[_,rfl,q _ _ F H (Grow.refl fh) h (rep_int.mpr rfl)])
 .obtain⟨v,r,rfl,h1,h2⟩:=reps_cons.mp rx;rw[reps_nil.mp h2,rep_bl.mp h1];exact .inl (.inr #[_,rfl,q _ _ F H (Grow.refl fh) h (rep_int.mpr rfl)])
 .obtain⟨v,r,rfl,h1,h2⟩:=reps_cons.mp rx;rw[reps_nil.mp h2,rep_str.mp h1];obtain⟨n,⟨e1,e2⟩,h⟩:=h;exact .inr #[_,n,rfl,e1,e2,q _ _ F H (Grow.refl fh) h (rep_int.mpr rfl)]
 .exact h.elim
def fW[Jx](hm:X.mg "int"=v7)(ha:WDA X [e] t)(hg:autoParam (Gl X "int") zA0)(he:autoParam (zSE X e []) zA0):WDE X (.Call (.Name "int" p) [e] [] pos) (dCB rdInt t):=#[have ha:=ha.out;kq sH sI hm PyProof.Rows.boot_int ha hg Lj Lj he]
def rdList:RDn:=λds R=>match ds with|[.lst xs]=>R (.lst xs)|[.tup xs]=>R (.lst xs)|[.rol xs]=>R (.lst xs)|_=>False
def zl:cy K (λxs H Q=>∃p ys,xs=[.ref p]/\(SqL K H p ys\/SqT K H p ys)/\∀l,H l=v7->Q (.ref l) (upd H l (.lst ys))) rdList:=by
 intro ds vs F H R Q fh h rx q;unfold rdList at h;split at h
 .obtain⟨v,r,rfl,h1,h2⟩:=reps_cons.mp rx;rw[reps_nil.mp h2];obtain⟨a,us,rfl,hq,rs⟩:=rep_lst.mp h1;exact#[a,us,rfl,.inl (fh.seq (SqL.of hq)),λl hl=>q _ _ _ _ (Grow.new fh hl _) h (rep_lst.mpr #[l,us,rfl,aA,rs.mono (aO (fh.free hl) _)])]
 .obtain⟨v,r,rfl,h1,h2⟩:=reps_cons.mp rx;rw[reps_nil.mp h2];obtain⟨a,us,rfl,hq,rs⟩:=rep_tup_mp h1;exact#[a,us,rfl,.inr (fh.tup hq),λl hl=>q _ _ _ _ (Grow.new fh hl _) h (rep_lst.mpr #[l,us,rfl,aA,rs.mono (aO (fh.free hl) _)])]
 .obtain⟨v,r,rfl,h1,h2⟩:=reps_cons.mp rx;rw[reps_nil.mp h2];obtain⟨a,us,rfl,hq,rs⟩:=rep_rol.mp h1;exact#[a,us,rfl,.inl (fh.seq hq),λl hl=>q _ _ _ _ (Grow.new fh hl _) h (rep_lst.mpr #[l,us,rfl,aA,rs.mono (aO (fh.free hl) _)])]
 .exact h.elim
def zm[Jx](hm:X.mg "list"=v7)(ha:WDA X [e] t)(hg:autoParam (Gl X "list") zA0)(he:autoParam (zSE X e []) zA0):WDE X (.Call (.Name "list" p) [e] [] pos) (dCB rdList t):=#[have ha:=ha.out;kq rF zl hm PyProof.Rows.boot_list ha hg Lj Lj he]
def rdMax:RDn:=λds R=>match ds with|[.int i,.int j]=>R (.int (if j>i then j else i))|_=>False
def rdMin:RDn:=λds R=>match ds with|[.int i,.int j]=>R (.int (if j<i then j else i))|_=>False
def zn:cy K (λxs H Q=>∃i j,xs=[.int i,.int j]/\Q (.int (if j>i then j else i)) H) rdMax:=by
 intro ds vs F H R Q fh h rx q;unfold rdMax at h;split at h
 .obtain⟨v,r,rfl,h1,h2⟩:=reps_cons.mp rx;obtain⟨v',r',rfl,h3,h4⟩:=reps_cons.mp h2;rw[reps_nil.mp h4,rep_int.mp h1,rep_int.mp h3];exact#[_,_,rfl,q _ _ F H (Grow.refl fh) h (rep_int.mpr rfl)]
 .exact h.elim
def zo:cy K (λxs H Q=>∃i j,xs=[.int i,.int j]/\Q (.int (if j<i then j else i)) H) rdMin:=by
 intro ds vs F H R Q fh h rx q;unfold rdMin at h;split at h
 .obtain⟨v,r,rfl,h1,h2⟩:=reps_cons.mp rx;obtain⟨v',r',rfl,h3,h4⟩:=reps_cons.mp h2;rw[reps_nil.mp h4,rep_int.mp h1,rep_int.mp h3];exact#[_,_,rfl,q _ _ F H (Grow.refl fh) h (rep_int.mpr rfl)]
 .exact h.elim
def fX[Jx](hc:X.calm=true)(hm:X.mg "max"=v7)(ha:WDA X [e,a] t)(hg:autoParam (Gl X "max") zA0)(he:autoParam (zSE X e [a]) zA0)(c7:autoParam (zPL X pos [a]) zA0):WDE X (.Call (.Name "max" p) [e,a] [] pos) (dCB rdMax t):=#[have ha:=ha.out;gQ (xt hc) zn hm PyProof.Rows.boot_max ha hg Lj Lj he c7]
def kr[Jx](hc:X.calm=true)(hm:X.mg "min"=v7)(ha:WDA X [e,a] t)(hg:autoParam (Gl X "min") zA0)(he:autoParam (zSE X e [a]) zA0)(c7:autoParam (zPL X pos [a]) zA0):WDE X (.Call (.Name "min" p) [e,a] [] pos) (dCB rdMin t):=#[have ha:=ha.out;gQ (xu hc) zo hm PyProof.Rows.boot_min ha hg Lj Lj he c7]
def cU:List D->Option (List Kq)
 |[]=>be []
 |.str x::r=>(cU r).map (x::·)
 |_=>v7
def sJ{K:Ex}{F:Hp}:∀{ds:List D} {xs:List Kq} {vs:List V} {us:List KB},cU ds=be xs->Reps K F ds vs->Vals vs us->StrsAre us xs
 |[],xs,vs,us,e,r,q=>by
  cases e;rw[reps_nil.mp r]at q;cases q;exact .nil
 | .str x::ds,xs,vs,us,e,r,q=>by
  obtain⟨v,r',rfl,h1,h2⟩:=reps_cons.mp r;rw[rep_str.mp h1]at q;cases q with
  |cons q1 q2=>
   obtain⟨t,rfl⟩:=q1;cases e2:cU ds with
   |none=>simp[cU,e2]at e
   |some ys=>
    simp[cU,e2]at e;subst e;exact .cons x t (sJ e2 h2 q2)
def zp:V->List V->Hp->VK->Prop:=λx vs H Q=>∃s_ l xs ys,x=.str s_/\vs=[.ref l]/\H l=be (.lst xs)/\(∀us,Vals xs us->StrsAre us ys)/\(ys.map (·.length)).sum+ys.length*s_.length<=16777216/\Q (.str (Txt.join s_ ys)) H
def zq:MtR X "str.join" zp:=by
 intro pins s σ H x vs v us Q I rx rv h;obtain⟨s_,l,xs,ys,rfl,rfl,hl,hs,hz,q⟩:=h;obtain⟨t,rfl⟩:=rx;obtain⟨u,rfl,ru⟩:=cb rv;cases ru;obtain⟨its,r,pl,_⟩:=I.list (SqL.of hl);exact PyProof.Rows.join_list pl.isList (by simpa using hs its r) hz λt' k=>#[.str _,H,I.tok _,#[_,rfl],q]
def zr(s_:Kq)(te:TD):TD:=λz R=>te z λx=>match x with
 |.lst ds=>∃ys,cU ds=be ys/\(ys.map (·.length)).sum+ys.length*s_.length<=1000000/\R (.str (Txt.join s_ ys))
 |_=>False
variable{k:Nat}
def ku[Jx]{s_:Kq}{p1 apos cpos:Ub}(he:WDE X e te)(l_:autoParam (zSE X e []) zA0)
  (b8:autoParam (T9 (.Constant (.str s_) k p1) "join" X.env (T_ (.Constant (.str s_) k p1) X.env)=T_ (.Constant (.str s_) k p1) X.env) zA0)
  (d8:autoParam (zHF X cpos [e]) zA0)
  (c8:autoParam ((apos.endLine==cpos.line)=true) zA0):WDE X (.Call (.Attribute (.Constant (.str s_) k p1) "join" apos) [e] [] cpos) (zr s_ te):=⟨have he:=he.out;(eL PySem.F.plainAttrs_str PySem.F.slot_str_join PySem.F.type_str_join zq qt (bv he pa_nil l_) b8 d8 c8 l_).anti λs H Q q=>by
 obtain⟨B,F,z,kf,rs,R,h1,h2⟩:=q;have fh:=kf.fh;refine#[rfl,?_];refine#[B,F,z,kf,rs,_,h1,λx u F1 H1 g1 hx rx=>?_];split at hx
 .obtain⟨ys,e1,e2,hx⟩:=hx;obtain⟨l,vs,rfl,hq,rr⟩:=rep_lst.mp rx;exact#[s_,l,vs,ys,rfl,rfl,g1.fh _ _ hq,λus q=>sJ e1 rr q,GY e2 Lj,h2 _ _ F1 H1 g1 hx (rep_str.mpr rfl)]
 .exact hx.elim⟩
def dOix(i:Nat)(tb:TD):TD:=λz R=>match z[i]? with
 |some (be (.own ds))=>tb z λy=>match y with|.int k=>∃d,atI ds k=be d/\R d|_=>False
 |_=>False
def ky[Jx](i:Nat){x:Kq}(hb:WDE X b tb)(hN:autoParam (X.N[i]?=be x) zA0)(hv:autoParam (Vis X.env.scope x) zA5)(hd:autoParam (zND x) zA1)
  (gt:autoParam (zNC x) zA1) (hs:autoParam (eK b) zA6):WDE X (.Subscript (.Name x p) b pos) (dOix i tb):=⟨have hb:=hb.out;(pe_ix ix_list (cO hN hv hd gt) hb hs).anti λs H Q q=>by
 obtain⟨B,F,z,kf,rs,R,h1,h2⟩:=q;have fh:=kf.fh;unfold dOix at h1;split at h1
 .rename_i ds ez;obtain⟨a,vs,q1,q2,q3,q4,q5⟩:=rs.own i ds ez;refine#[.ref a,q1,B,F,z,kf,rs,_,h1,λy v F1 H1 g1 hy ry=>?_];split at hy
  .obtain⟨d,e1,hR⟩:=hy;obtain⟨w,e2,h_⟩:=(q5.mono g1.ff).at e1;exact#[a,vs,_,w,rfl,rep_int.mp ry,SqL.of (g1.hh _ _ q2),e2,h2 d w F1 H1 g1 hR h_]
  .exact hy.elim
 .exact h1.elim⟩
def cutD(xs:List D)(lo hi:Option Int):List D:=(xs.drop (HT.sIx xs.length 0 lo)).take (HT.sIx xs.length xs.length hi-HT.sIx xs.length 0 lo)
def Reps.drop{K:Ex}{F:Hp}:∀(n:Nat) {xs:List D} {us:List V},Reps K F xs us->Reps K F (xs.drop n) (us.drop n)
 |0,_,_,r=>r
 |n+1,[],us,r=>by rw[reps_nil.mp r];exact reps_nil.mpr rfl
 |n+1,x::xs,us,r=>by
  obtain⟨u,ur,rfl,_,a2⟩:=reps_cons.mp r;exact Reps.drop n a2
def Reps.take{K:Ex}{F:Hp}:∀(n:Nat) {xs:List D} {us:List V},Reps K F xs us->Reps K F (xs.take n) (us.take n)
 |0,_,_,_=>reps_nil.mpr rfl
 |n+1,[],us,r=>by rw[reps_nil.mp r];exact reps_nil.mpr rfl
 |n+1,x::xs,us,r=>by
  obtain⟨u,ur,rfl,a1,a2⟩:=reps_cons.mp r;exact reps_cons.mpr #[u,_,rfl,a1,Reps.take n a2]
def Reps.cut{F:Hp}{xs:List D}{us:List V}(r:Reps K F xs us)(lo hi:Option Int):Reps K F (cutD xs lo hi) (cutV us lo hi):=by
 unfold cutD cutV;rw[r.length];exact(r.drop _).take _
def zt(ta tb:TD):TD:=λz R=>ta z λx=>tb z λy=>match x,y with|.lst xs,.int i=>R (.lst (cutD xs (be i) v7))|_,_=>False
def zu[Jx]{p2:Ub}(ha:WDE X a ta)(hb:WDE X b tb):WDE X (.Subscript a (.Slice (be b) v7 v7 p2) pos) (zt ta tb):=⟨have ha:=ha.out;have hb:=hb.out;(gL gM ha (jV hb) jU).anti λs H Q q=>by
 obtain⟨B,F,z,kf,rs,R,h1,h2⟩:=q;have fh:=kf.fh;refine#[B,F,z,kf,rs,_,h1,λx u F1 H1 g1 hx rx=>?_];refine#[B,F1,z,kf.grow g1,rs.grow g1,_,hx,λy v F2 H2 g2 hy ry=>?_];split at hy
 .refine#[_,rep_int.mp ry,?_];obtain⟨l,vs,rfl,hq,rr⟩:=rep_lst.mp (rx.mono g2.ff);refine#[l,vs,rfl,SqL.of (g2.fh _ _ hq),λp hp=>?_];exact h2 _ _ _ _ (g1.trans (g2.trans (Grow.new g2.fh hp _))) hy (rep_lst.mpr #[p,_,rfl,aA,(rr.cut _ _).mono (aO (g2.fh.free hp) _)])
 .exact hy.elim⟩
def sK{t:TGs}{n:Nat}(hc:X.calm=true)(h:PGs X es t)(hn:autoParam ((T8 es X.env).length=n) zA0)(k9:autoParam ((T8 es X.env).findIdx? (·.1)=none) zA0):
  PG X (.Tuple es k pos) (λv σ H Q=>∃a xs,v=.ref a/\SqL X.K H a xs/\xs.length=n/\t xs σ H Q):=by
 intro pins s σ H v u Q I r hw;obtain⟨a,xs,e1,hq,hl,hw⟩:=hw;subst e1;cases r;obtain⟨its,rv,pl,hz⟩:=I.list hq;have e2:(T8 es X.env).length=its.toArray.size:=by simp[hn,<-hl,rv.length]
 rw[PyProof.Rows.assign_Tuple];refine KM (Uw ?_);unfold unpack;rw[e2,k9];refine KM (Up (kun_itemsOf (I.ok.hd hc) pl.isList λh' hx=>?_));have I1:Inv X pins σ H {s with heap:=h'}:=I.kept (t':=s.toks) λb o e=>hx b o (GW (Heap.lt_size e)) e;exact h pins _ σ H xs _ Q I1 (by simpa using rv) hw
def zv(is:List Nat)(te:TD):TSD:=λE z=>te z λx=>match x with|.lst ds=>ds.length=is.length/\E.nx (aT is ds z)|_=>False
def zw[Jx]{is:List Nat}(hc:X.calm=true)(he:WDE X e te)(hg:DGs X es is)(hn:autoParam ((T8 es X.env).length=is.length) zA0)(k9:autoParam ((T8 es X.env).findIdx? (·.1)=none) zA0)
  (hs:autoParam (Ux [.Tuple es k p] e pos.line X.env=pure false) zA0) (hw:autoParam (Uy [.Tuple es k p] e X.env=pure none) zA0) (h1:autoParam ((T8 [.Tuple es k p] X.env).map (·.2)=[UG (.Tuple es k p) X.env]) zA0):WDS X (.Assign [.Tuple es k p] e pos) (zv is te):=⟨by
 have he:=he.out;obtain⟨u,hu,kk⟩:=hg;refine(gG he (sK hc hu hn k9) hs hw h1).anti λE s H q=>?_;obtain⟨B,F0,F,z,k,rs,ED,h,e⟩:=q;refine#[B,F,z,k.kf,rs,_,h,λd v F' H' g hd rd=>?_];split at hd
 .obtain⟨p,vs,rfl,hq,rr⟩:=rep_lst.mp rd;exact#[p,vs,rfl,SqL.of (g.fh _ _ hq),by rw[rr.length];exact hd.1,kk _ vs z s B F' H' _ hd.1 rr (rs.grow g) λs' r'=>e.nx _ _ F' H' (k.grow g) hd.2 r']
 .exact hd.elim⟩
end
end My
namespace L2
def kz{env:UP}:∀(names:List (Kq×UL)) (v9:List (Kq×KF)),(∀n,(n,NameKind.free)∈names->∃c,env.cells.lookup n=be c)->
  ∃cl,(forIn (m:=Vz) names v9 λx r=>match x with
     |(name,kind)=>if(kind==NameKind.free)=true then(do let a <-cellOf env name;pure (ForInStep.yield ((name,a)::r)))else pure (ForInStep.yield r))=(pure cl:Vz (List (Kq×KF)))/\
   (∀n c,cl.lookup n=be c->env.cells.lookup n=be c\/v9.lookup n=be c)/\(∀n,(n,NameKind.free)∈names->∃c,cl.lookup n=be c)/\∀n c,v9.lookup n=be c->∃c',cl.lookup n=be c'
 |[],v9,_=>#[v9,rfl,(λ_ _ h=>.inr h),(λ_ h=>by cases h),(λ_ c h=>#[c,h])]
 |(name,kind)::r,v9,h=>by
  by_cases hk:(kind==NameKind.free)=true
  .have ek:kind=.free:=by simpa using hk
   subst ek;obtain⟨c,hc⟩:=h name GU;obtain⟨cl,e,p1,p2,p3⟩:=kz r ((name,c)::v9) λn q=>h n (GR _ q);refine#[cl,?_,λn c' q=>?_,λn q=>?_,λn c' q=>?_]
   .rw[IW];have ec:cellOf env name=pure c:=by unfold cellOf;rw[hc]
    simp only[hk,if_true,ec];exact e
   .rcases p1 n c' q with z|z
    .exact .inl z
    .rw[G4]at z;split at z
     .rename_i q2;have en:n=name:=by simpa using q2
      cases z;exact .inl (en ▸ hc)
     .exact .inr z
   .rcases GP.mp q with z|z
    .cases z;exact p3 _ c (by rw[G4];simp)
    .exact p2 n z
   .by_cases hn:n=name
    .subst hn;exact p3 n c (by rw[G4];simp)
    .exact p3 n c' (by rw[G4,beq_eq_false_iff_ne.mpr hn];exact q)
  .obtain⟨cl,e,p1,p2,p3⟩:=kz r v9 λn q=>h n (GR _ q);refine#[cl,?_,p1,λn q=>?_,p3]
   .rw[IW];simp only[hk];exact e
   .rcases GP.mp q with z|z
    .cases z;exact absurd rfl hk
    .exact p2 n z
def closure_is{env:UP}{scope:Uv}(h:∀n,(n,NameKind.free)∈scope.names->∃c,env.cells.lookup n=be c):
  ∃cl,closureFor scope env=pure cl/\(∀n c,cl.lookup n=be c->env.cells.lookup n=be c)/\∀n,(n,NameKind.free)∈scope.names->∃c,cl.lookup n=be c:=by
 obtain⟨cl,e,p1,p2,_⟩:=kz scope.names [] h;refine#[cl,?_,λn c q=>(p1 n c q).elim id (λz=>nomatch z),p2];unfold closureFor;show(forIn (m:=Vz) scope.names [] _>>=λs=>pure s)=pure cl;rw[e];rfl
def gU{env:UP}:∀{names:List (Kq×UL)} {n:Kq} {k:UL},(∀y∈names,y.2≠.cell)->k=.cell\/k=.free->
  (names.map λ(n,k)=>if(k==NameKind.free&&env.scope.kind== .function&&env.kindOf n==be .cell)then(n,NameKind.cell)else(n,k)).lookup n=be k->(n,NameKind.free)∈names
 |[],_,_,_,_,h=>by simp at h
 |(a,b)::r,n,k,hc,hk,h=>by
  rw[G8]at h;by_cases hb:(b==NameKind.free&&env.scope.kind== .function&&env.kindOf a==be .cell)=true
  .have eb:b=.free:=by
    have:=(Hj _ _ ▸ ((Hj _ _ ▸ hb).1)).1;simpa using this
   simp only[hb,if_true]at h;rw[G4]at h;split at h
   .rename_i q;have en:n=a:=by simpa using q
    subst en eb;exact GU
   .exact GR _ (gU (λy q=>hc y (GR _ q)) hk h)
  .simp only[hb]at h;rw[if_neg Ln,G4]at h;split at h
   .rename_i q;have en:n=a:=by simpa using q
    cases h;subst en;rcases hk with z|z
    .exact absurd z (hc _ GU)
    .rw[z];exact GU
   .exact GR _ (gU (λy q=>hc y (GR _ q)) hk h)
section
variable {prog:T3}{w:T5}{A:T6}{R:Result->Os->Prop}{s:Os}
abbrev sL(j8:List SZ)(env:UP):Vz Bool:=forIn j8 true λc r=>if r=true then do let ok <-isTrue c env (T_ c env);pure (ForInStep.yield ok)else pure (ForInStep.yield r)
def zx{g_ g6 iter:SZ}{j8:List SZ}{scope:Uv}{pos:Ub}{it v9:KB}{env:UP}(I:Nat->Os->Prop)
  (c5:∀n s,I n s->T4 (SL prog w) A (pyNext it) (λr s₁=>match r with
   |none=>R (.ok .next) s₁
   |some v=>T4 (SL prog w) A (U0 g6 it v) (λ_ s₁'=>T4 (SL prog w) A (UG g6 env v) (λ_ s₂=>T4 (SL prog w) A (sL j8 env) (λok s₂'=>if ok=true then T4 (SL prog w) A (T_ g_ env) (λx s₃=>
     T4 (SL prog w) A (call (.builtin "list.append") [v9,x]) (λ_ s₄=>∃m,m<n/\I m s₄) (λ_ _=>False) s₃)
     (λ_ _=>False) s₂' else ∃m,m<n/\I m s₂') (λ_ _=>False) s₂) (λ_ _=>False) s₁') (λ_ _=>False) s₁) (λ_ _=>False) s)
  (n:Nat) (h:I n s):
  U3 (SL prog w) A (.compLoop (.ListComp g_ [#[g6,iter,j8,0]] scope pos) 0 it v9 env) R s:=by
 refine codeAny_loop rfl I (λn s hI=>?_) n h;show T4 _ _ ((compTurn (.ListComp g_ [#[g6,iter,j8,0]] scope pos) 0 it v9 env).onRaise (λx=>do UV x env;theTreesLotGoes x)) _ _ s;refine wpAny_noted ?_;rw[compTurn_list];refine KM (Uw (KM (Ug (c5 n s hI) (λr s₁ h₁=>?_) λ_ _ h'=>h'.elim)));cases r with
 |none=>exact P3 h₁
 |some v=>
  refine KM (Ug h₁ (λ_ s₁' h₁'=>KM (Ug h₁' (λ_ s₂ h₂=>KM (Ug h₂ (λok s₃ h₃=>?_) λ_ _ h'=>h'.elim)) λ_ _ h'=>h'.elim)) λ_ _ h'=>h'.elim);cases ok with
  |false=>exact P3 #[rfl,h₃]
  |true=>
   exact KM (KM (Ug h₃ (λx s₄ h₄=>KM (Ug h₄ (λ_ s₅ h₅=>P3 (P3 #[rfl,h₅])) λ_ _ h'=>h'.elim)) λ_ _ h'=>h'.elim))
end
def ce(X:Cx)(scope:Uv)(cl:List (Kq×KF))(x:Kq)(s₀:Os)(H₀:Hp)(fp:List KF):Cx where
 prog:=X.prog
 w:=X.w
 K:=X.K
 mg:=X.mg
 base:=X.base
 A:=X.A
 N:=X.N.map (λn=>if n=x then("":Kq)else n)++[x]
 s₀:=s₀
 H₀:=H₀
 env:=compEnvC scope cl s₀.heap.objs.size X.env
 outer:=X.stack
 stack:=X.stack
 ex:=fp
 fn:=λ_=>false
 calm:=X.calm
 pn:=[]
 xe:=λ_ _=>False
structure CompScope(X:Cx)(scope:Uv)(x:Str):Prop where
 kind:scope.kind=.function
 nocell:∀y∈scope.names,y.2≠.cell
 names:∀y∈scope.names,y.2=.local->scope.names.lookup y.1=be .local
 own:scope.names.lookup x=be .local
 free:∀n,(n,NameKind.free)∈scope.names->X.env.kindOf n=be .cell
 vis:∀n∈X.N,n≠x->Vis (VU scope X.env) n->(n,NameKind.free)∈scope.names
 empty:¬Vis (VU scope X.env) ("":Kq)
 cells:∀n,(n,NameKind.free)∈scope.names->(VU scope X.env).names.lookup n=be .cell
 nd:(X.N.map (λn=>if n=x then("":Kq)else n)++[x]).Nodup
section
variable {X:Cx}{pins:List (KF×Uj)}{σ:St}{H:Hp}{s:Os}{scope:Uv}{cl:List (Kq×KF)}{x:Kq}{fp:List KF}
def sM(I:Inv X pins σ H s)(S:CompScope X scope x)(c1:∀n c,cl.lookup n=be c->X.env.cells.lookup n=be c)(c2:∀n,(n,NameKind.free)∈scope.names->∃c,cl.lookup n=be c)
  (hf:∀b∈fp,FpOk X pins H b) (hl:∀b∈fp,b<s.heap.objs.size):(ce X scope cl x s H fp).Ok where
 mod:=I.ok.mod
 kind:=S.kind
 glob:=I.ok.glob
 blt:=I.ok.blt
 above:=GO _
 inj:=λy z c h1 h2=>I.ok.inj y z c (c1 y c h1) (c1 z c h2)
 has:=λn hn=>by
  rcases hn with hn|hn
  .exact c2 n (gU S.nocell (.inl rfl) hn)
  .exact c2 n (gU S.nocell (.inr rfl) hn)
 cab:=λ_ _ h=>nomatch h
 hd:=I.ok.hd
 frames:=I.ok.frames
 stk:=.inl rfl
 exf:=λb hb=>#[GW (hl b hb),λy c h=>(hf b hb).2.2.2.2.1 y c (c1 y c h)]
 bs:=I.bs
 bsz:=GY I.ok.bsz I.sz
 noex:=λb o e hb=>by
  have h1:=I.ok.noex b o e;rcases(hf b hb).2.2.2.1 with z|z
  .exact h1 z
  .exact absurd (Ha (Heap.lt_size e) (GY I.ok.bsz z)) (HJ _)
 exfs:=λb hb hs=>by
  rcases GP.mp (I.stkSub b hs)with z|z
  .exact(hf b hb).2.1 z
  .exact(hf b hb).2.2.1 z
 funs:=I.stack
 frf:=I.stkFree
def sN{h':Heap}{t':Nat}(I:Inv X pins σ H s)(S:CompScope X scope x)(c1:∀n c,cl.lookup n=be c->X.env.cells.lookup n=be c)(c2:∀n,(n,NameKind.free)∈scope.names->∃c,cl.lookup n=be c)
  (hf:∀b∈fp,FpOk X pins H b) (hl:∀b∈fp,b<s.heap.objs.size) {m:Kq->Option KB} (hn:h'.Ns s.heap.objs.size m) (k:∀b o,s.heap.get? b=be o->h'.get? b=be o):
  Inv (ce X scope cl x s H fp) [] (σ++[v7]) H {s with heap:=h',toks:=t'}:=by
 refine#[sM I S c1 c2 hf hl,rfl,I.bare,Un.kept k,#[m,hn,λi n v e1 e2 e3=>?_],λn c e=>?_,I.hok.fresh (GO _),λn c e=>I.freeC n c (c1 n c e),λp hp=>absurd (show p∈([]:List (KF×Uj))from hp) Ln,I.hok.kept k,?_]
 .have hi:i<σ.length:=by
   rcases H9 i σ.length with q|q
   .exact q
   .rw[HD q]at e2;cases hz:i-σ.length with
    |zero=>rw[hz]at e2;simp at e2
    |succ z=>rw[hz]at e2;simp at e2
  rw[Hv hi]at e2;have NB:i<X.N.length:=by rw[<-I.len];exact hi
  have LL:(X.N.map (λn=>if n=x then("":Kq)else n)++[x])[i]?=be n:=e1;rw[Hv (by simpa using NB),GX,G5 NB]at LL;simp only[Option.map_some,Option.some.injEq]at LL;by_cases hx:X.N[i]=x
  .rw[if_pos hx]at LL;subst LL;exact absurd e3 S.empty
  .rw[if_neg hx]at LL;subst LL;have k6:=S.vis _ (Hk NB) hx e3;have m5:=S.free _ k6;obtain⟨c,hc⟩:=c2 _ k6;obtain⟨mX,Tc,RE⟩:=I.loc;obtain⟨u,ru,lk⟩:=RE i X.N[i] v (G5 NB) e2 (.inr (.inl m5));refine#[u,ru,.inr #[?_,c,hc,?_]]
   .exact .inl (S.cells _ k6)
   .rcases lk with⟨kl,_⟩|⟨_,c',KU,g9⟩
    .rw[m5]at kl;cases kl
    .have:c=c':=by
      have:=c1 _ c hc;rw[KU]at this;exact(Option.some.inj this).symm
     subst this;obtain⟨o,ho,hd⟩:=g9;exact#[o,k _ _ ho,hd]
 .obtain⟨v,o,ho,hd⟩:=I.cell n c (c1 n c e);exact#[v,o,k _ _ ho,hd]
 .show(σ++[v7]).length=(X.N.map _++[x]).length;rw[G0,G0,GQ,I.len];rfl
end
def fY(wi:TI)(tt:TT)(i6:TE):TE:=λσ H Q=>wi σ H λJ H1=>∀D,H1 D=v7->∃W:Nat->Nat->Hp->Prop,(∃m,W 0 m (upd H1 D (.lst [])))/\∀i m H,W i m H->
 (J.stop i H/\Q (.ref D) H)\/(J.go i H/\∀x H',J.yld i H x H'->tt (σ++[be x]) H' λb H1=>if b=true then i6 (σ++[be x]) H1 λy H''=>∃vs,H'' D=be (.lst vs)/\vs.length<sizeLine/\∃m',m'<m/\W (i+1) m' (upd H'' D (.lst (vs++[y])))else ∃m',m'<m/\W (i+1) m' H1)
def PIf(X:Cx)(j8:List SZ)(t:TT):Prop:=
 ∀(pins:List (KF×Uj)) (s:Os) (σ:St) (H:Hp) (Q:Bool->Hp->Prop),Inv X pins σ H s->t σ H Q->T4 (SL X.prog X.w) X.A (sL j8 X.env) (TP X pins σ Q) X.xe s
def pif_nil{X:Cx}:PIf X [] (λ_ H Q=>Q true H):=λpins s σ H Q I q=>wpAny_tests_nil #[H,I,q]
def PIf.anti{X:Cx}{e:List SZ}{t t':TT}(h:PIf X e t)(a:∀s H Q,t' s H Q->t s H Q):PIf X e t':=λpins s σ H Q I q=>h pins s σ H Q I (a _ _ _ q)
section
variable {X:Cx}
variable{g_ iter:SZ}{j8:List SZ}{x:Kq}{px pos:Ub}{scope:Uv}{tt:TT}{i6:TE}
def sO{pins:List (KF×Uj)}{s2:Os}{σ:St}{H1:Hp}{cl:List (Kq×KF)}{it:KF}{fp:List KF}{tn:Nat->Heap->Prop}{J:It}{Qs:Hp->Prop}{R:Result->Os->Prop}{W:Nat->Nat->Hp->Prop}{m0:Nat}{h₁:Heap}(hc:X.calm=true)(S:CompScope X scope x)
  (hq:∀cl s₀ H₀ fp,PIf (ce X scope cl x s₀ H₀ fp) j8 tt) (he:∀cl s₀ H₀ fp,PE (ce X scope cl x s₀ H₀ fp) g_ i6) (c1:∀n c,cl.lookup n=be c->X.env.cells.lookup n=be c) (c2:∀n,(n,NameKind.free)∈scope.names->∃c,cl.lookup n=be c)
  (I1:Inv X pins σ H1 s2) (T:Turn X.prog X.w X.K (.Name x px) J fp it tn) (st:tn 0 s2.heap) (f1:∀b∈fp,FpOk X pins H1 b) (w0:W 0 m0 (upd H1 s2.heap.objs.size (.lst [])))
  (step:∀i m H,W i m H->(J.stop i H/\Qs H)\/(J.go i H/\∀x H',J.yld i H x H'->tt (σ++[be x]) H' λb H1=>if b=true then i6 (σ++[be x]) H1 λy H''=>∃vs,H'' s2.heap.objs.size=be (.lst vs)/\vs.length<sizeLine/\∃m',m'<m/\W (i+1) m' (upd H'' s2.heap.objs.size (.lst (vs++[y])))else ∃m',m'<m/\W (i+1) m' H1))
  (I4:Inv (ce X scope cl x {s2 with heap:=s2.heap.push {cls:=.type "list",data:=.seq ([]:List KB).toArray},toks:=s2.toks} (upd H1 s2.heap.objs.size (.lst [])) fp) [] (σ++[v7]) (upd H1 s2.heap.objs.size (.lst [])) {s2 with heap:=h₁,toks:=s2.toks+([]:List (Kq×KB)).length}) (t0:tn 0 h₁)
  (Oj:∀H' s4 m,Inv X pins σ H' s4->s4.heap.Ns (s2.heap.push {cls:=.type "list",data:=.seq ([]:List KB).toArray}).objs.size m->H' (s2.heap.push {cls:=.type "list",data:=.seq ([]:List KB).toArray}).objs.size=v7->Qs H'->R (.ok .next) s4):
  U3 (SL X.prog X.w) X.A (.compLoop (.ListComp g_ [#[.Name x px,iter,j8,0]] scope pos) 0 (.ref it) (.ref s2.heap.objs.size) (compEnvC scope cl (s2.heap.push {cls:=.type "list",data:=.seq ([]:List KB).toArray}).objs.size X.env)) R {s2 with heap:=h₁,toks:=s2.toks+([]:List (Kq×KB)).length}:=by
 have f9:∀b∈fp,b<s2.heap.objs.size:=λb hb=>by
  obtain⟨o,ho,_⟩:=T.obj _ _ st b hb;exact Heap.lt_size ho
 have I3:Inv X pins σ (upd H1 s2.heap.objs.size (.lst [])) {s2 with heap:=s2.heap.push {cls:=.type "list",data:=.seq ([]:List KB).toArray},toks:=s2.toks}:=I1.lnew (its:=[]) (ys:=[]) .nil (Hc _);have j7:∀b∈fp,b<(s2.heap.push {cls:=.type "list",data:=.seq ([]:List KB).toArray}).objs.size:=λb hb=>by
  rw[Heap.size_push];exact IY (f9 b hb)
 have J_:∀b∈fp,FpOk X pins (upd H1 s2.heap.objs.size (.lst [])) b:=λb hb=>#[by rw[ar (GW (f9 b hb))];exact(f1 b hb).1,(f1 b hb).2];have NC:=sM (x:=x) (fp:=fp) I3 S c1 c2 J_ j7;generalize hY:ce X scope cl x {s2 with heap:=s2.heap.push {cls:=.type "list",data:=.seq ([]:List KB).toArray},toks:=s2.toks} (upd H1 s2.heap.objs.size (.lst [])) fp=Y at I4 NC;have yP:Y.prog=X.prog:=QF
 have yW:Y.w=X.w:=QF
 have yK:Y.K=X.K:=QF
 have yA:Y.A=X.A:=QF
 have yN:Y.N=X.N.map (λn=>if n=x then("":Kq)else n)++[x]:=QF
 have yE:Y.env=compEnvC scope cl (s2.heap.push {cls:=.type "list",data:=.seq ([]:List KB).toArray}).objs.size X.env:=QF
 have yX:Y.xe=λ_ _=>False:=QF
 have yC:Y.calm=true:=by rw[<-hY];exact hc
 have QC:Y.ex=fp:=QF
 have RF:Y.pn=[]:=QF
 have RG:Y.fs=frs X.stack:=QF
 have RH:Y.H₀=upd H1 s2.heap.objs.size (.lst []):=QF
 have QE:Y.s₀={s2 with heap:=s2.heap.push {cls:=.type "list",data:=.seq ([]:List KB).toArray},toks:=s2.toks}:=QF
 have RI:PE Y g_ i6:=by rw[<-hY];exact he _ _ _ _
 have RJ:PIf Y j8 tt:=by rw[<-hY];exact hq _ _ _ _
 have o7:∀{H':Hp},(∀b∈fp,H' b=v7)->∀b∈fp,FpOk Y [] H' b:=λ{H'} hn b hb=>by
  have gV:b∈Y.ex:=by rw[QC];exact hb
  exact#[hn b hb,(NC.exf b gV).1,NC.exfs b gV,.inl gV,λn c e=>(NC.exf b gV).2 n c e,by rw[RF];simp]
 have MC:Y.env.scope.names.lookup x=be .local:=by rw[yE];exact lookup_relabel_local S.own
 have Ol:Y.N[X.N.length]?=be x:=by rw[yN];simp
 have RK:Y.N.Nodup:=by rw[yN];exact S.nd
 have Om:Y.env.locals=(s2.heap.push {cls:=.type "list",data:=.seq ([]:List KB).toArray}).objs.size:=by rw[yE];rfl
 have d_:∀(o:Option V) (H':Hp) (s':Os),Inv Y [] (σ++[o]) H' s'->Inv X pins σ H' s':=λo H' s' I'=>by
  have bs:=I'.base;rw[RG,QC,RH,QE]at bs;refine I3.call' (ch:=fp) ?_ bs ?_ I'.bare ?_
  .have:=I'.os;rw[QE]at this;exact this
  .have:=I'.hok;rw[yP,yW]at this;exact this
  .exact λb hb=>#[(J_ b hb).2.2.2.1,(J_ b hb).2.1,(J_ b hb).2.2.2.2.1,(J_ b hb).2.2.2.2.2]
 refine zx (λn s'=>∃i o H',Inv Y [] (σ++[o]) H' s'/\tn i s'.heap/\(∀b∈fp,H' b=v7)/\W i n H') ?_ m0 #[0,v7,_,I4,t0,λb hb=>(J_ b hb).1,w0];rintro n s3⟨i,o,H3,I5,t3,f3,w3⟩;rcases step i n H3 w3 with⟨stop,q⟩|⟨go,q⟩
 .have dn:=T.done Y yP yW yK yC i [] s3 _ H3 (λ_ _=>False) I5 (o7 f3) t3 stop;rw[yA]at dn;refine thn dn λr s4 b9=>?_;obtain⟨hr,I6⟩:=b9;subst hr;obtain⟨m,hn,_⟩:=I6.loc;have l9:=I6.free;rw[Om]at hn l9;exact Oj H3 s4 m (d_ o H3 s4 I6) hn l9 q
 .have QG:=T.item Y yP yW yK yC i [] s3 _ H3 (λ_ _=>False) I5 (o7 f3) t3 go;rw[yA]at QG;refine thn QG λr s4 b9=>?_;obtain⟨u,hr,h4⟩:=b9;subst hr;refine thn h4 λ_ s5 b9=>?_;obtain⟨xv,H5,I6,r5,y5,Kr,N5⟩:=b9;have RL:=I6.pinned (o7 N5) (T.obj _ _ Kr);rw[<-yE];refine U7 (eF RL RK Ol (.inl MC) r5 (λs6 I7=>?_) (.inr MC));have On:(σ++[o]).set X.N.length (be xv)=σ++[be xv]:=by
   rw[<-I1.len];simp
  rw[On]at I7;have tv:=RJ _ s6 _ H5 _ I7 (q xv H5 y5);rw[yP,yW,yA,yX]at tv;refine thn tv λb RN b9=>?_;obtain⟨RO,ND,qb⟩:=b9;cases b with
  |false=>
   obtain⟨m',hm,w7⟩:=qb;refine#[m',hm,i+1,be xv,_,ND.unpinned,T.keep _ _ _ Kr λb hb ob e=>(ND.pin (b,ob) (Hb _ (Hb _ (eJ hb e)))).1,λb hb=>?_,w7];obtain⟨ob,e,d⟩:=T.obj _ _ Kr b hb;exact(ND.pin (b,ob) (Hb _ (Hb _ (eJ hb e)))).2.1
  |true=>
  have ev:=RI _ RN _ RO _ ND qb;rw[yP,yW,yA,yX]at ev;refine thn ev λyv s7 b9=>?_;obtain⟨y,H6,I8,ry,vs,RP,b7,m',hm,w7⟩:=b9;have ap:=jX (X:=Y) _ s7 _ H6 (.ref s2.heap.objs.size) [y] (.ref s2.heap.objs.size) [yv] (λ_ H7=>H7=upd H6 s2.heap.objs.size (.lst (vs++[y]))) I8 rfl (.cons ry .nil) #[_,vs,y,rfl,rfl,RP,b7,rfl];rw[yP,yW,yA,yX]at ap;refine thn ap λ_ s8 b9=>?_;obtain⟨_,H7,I9,_,e7⟩:=b9;subst e7;refine#[m',hm,i+1,be xv,_,I9.unpinned,T.keep _ _ _ Kr λb hb ob e=>(I9.pin (b,ob) (Hb _ (Hb _ (eJ hb e)))).1,λb hb=>?_,w7];obtain⟨ob,e,d⟩:=T.obj _ _ Kr b hb;exact(I9.pin (b,ob) (Hb _ (Hb _ (eJ hb e)))).2.1
def zy{wi:TI}(hc:X.calm=true)(S:CompScope X scope x)(hi:PI X (.Name x px) iter wi)
  (hq:∀cl s₀ H₀ fp,PIf (ce X scope cl x s₀ H₀ fp) j8 tt) (he:∀cl s₀ H₀ fp,PE (ce X scope cl x s₀ H₀ fp) g_ i6) (hs:autoParam (∀y,zFS X iter y) zA3):
  PE X (.ListComp g_ [#[.Name x px,iter,j8,0]] scope pos) (fY wi tt i6):=by
 intro pins s σ H Q I h;obtain⟨cl,g9,c1,c2⟩:=closure_is (env:=X.env) (scope:=scope) (λn q=>I.ok.has n (.inl (S.free n q)));rw[eval_ListComp];refine Vl (use:=v7) rfl hs g9 S.kind S.names (thn (hi pins s σ H _ I h) λv s1 h1=>thn h1 λNr s2 h2=>?_);obtain⟨it,fp,tn,J,H1,e,I1,T,st,f1,hr⟩:=h2;subst e;have f9:∀b∈fp,b<s2.heap.objs.size:=λb hb=>by
  obtain⟨o,ho,_⟩:=T.obj _ _ st b hb;exact Heap.lt_size ho
 have hD:H1 s2.heap.objs.size=none:=I1.hok.fresh (GO _);obtain⟨W,⟨m0,w0⟩,step⟩:=hr _ hD;refine Ue (VD S.nocell (by intro y hy;simp at hy) (λh₁ hns₁ hsb₁=>?_) S.kind);have I3:Inv X pins σ (upd H1 s2.heap.objs.size (.lst [])) {s2 with heap:=s2.heap.push {cls:=.type "list",data:=.seq ([]:List KB).toArray},toks:=s2.toks}:=I1.lnew (its:=[]) (ys:=[]) .nil (Hc _);have j7:∀b∈fp,b<(s2.heap.push {cls:=.type "list",data:=.seq ([]:List KB).toArray}).objs.size:=λb hb=>by
  rw[Heap.size_push];exact IY (f9 b hb)
 have J_:∀b∈fp,FpOk X pins (upd H1 s2.heap.objs.size (.lst [])) b:=λb hb=>#[by rw[ar (GW (f9 b hb))];exact(f1 b hb).1,(f1 b hb).2];have kp:∀b o,(s2.heap.push {cls:=.type "list",data:=.seq ([]:List KB).toArray}).get? b=be o->h₁.get? b=be o:=λb o e=>
  (hsb₁.2 b (GW (Heap.lt_size e))).trans (Heap.get?_push_of_some _ e)
 have I4:=sN (x:=x) (fp:=fp) (t':=s2.toks+([]:List (Kq×KB)).length) I3 S c1 c2 J_ j7 hns₁ kp;have Ky:(s2.heap.push {cls:=.type "list",data:=.seq ([]:List KB).toArray}).objs.size≠X.env.locals:=HB I3.lt;have Kz:∀z c,X.env.cells.lookup z=be c->c≠(s2.heap.push {cls:=.type "list",data:=.seq ([]:List KB).toArray}).objs.size:=λz c e=>by
  obtain⟨vv,oo,ho,_⟩:=I3.cell z c e;exact GW (Heap.lt_size ho)
 have Lo:∀p∈X.pn++pins,p.1≠(s2.heap.push {cls:=.type "list",data:=.seq ([]:List KB).toArray}).objs.size:=λp hp=>GW (Heap.lt_size (I3.pin p hp).1);have t8:=sO (pos:=pos) (iter:=iter) (R:=compPost (SL X.prog X.w) X.A X.xe v7 (EP X pins σ Q) (.ref s2.heap.objs.size) (s2.heap.push {cls:=.type "list",data:=.seq ([]:List KB).toArray}).objs.size) hc S hq he c1 c2 I1 T st f1 w0 step I4 (T.keep _ _ _ st (λb hb ob e=>kp b ob (Heap.get?_push_of_some _ e))) λH' s4 m IX hn l9 q=>
  #[m,hn,λh' hsb=>#[.ref s2.heap.objs.size,H',IX.turned (t':=s4.toks) (it:=(s2.heap.push {cls:=.type "list",data:=.seq ([]:List KB).toArray}).objs.size) (λb ob hb e=>(hsb.2 b hb).trans e) l9 Ky (.inr I3.sz) Kz Lo,rfl,q]]
 exact Vx t8 (T.self _ _ _ _ _ (T.keep _ _ _ st (λb hb ob e=>kp b ob (Heap.get?_push_of_some _ e))) t8)
def sP{y:Kq}{py m8:Ub}{wi:TI}{ix:Nat}(hc:X.calm=true)(S:CompScope X scope x)(hi:PI X (.Name x px) iter wi)
  (hq:∀cl s₀ H₀ fp,PIf (ce X scope cl x s₀ H₀ fp) j8 tt) (he:∀cl s₀ H₀ fp,PE (ce X scope cl x s₀ H₀ fp) g_ i6) (hN:X.N.Nodup) (MD:X.N[ix]?=be y) (hy:Loc X.env.scope y) (hf:zFN X y)
  (Kx:Uh (.ListComp g_ [#[.Name x px,iter,j8,0]] scope pos) (be (.Name y py)) m8.line X.env=pure true) (hs:autoParam (∀y,zFS X iter y) zA3):
  PS X (.Assign [.Name y py] (.ListComp g_ [#[.Name x px,iter,j8,0]] scope pos) m8) (tAsg (fY wi tt i6) (fM ix)):=by
 intro pins s σ H DE I h;have h:wi σ H λJ H1=>∀D,H1 D=v7->∃W:Nat->Nat->Hp->Prop,(∃m,W 0 m (upd H1 D (.lst [])))/\∀i m H,W i m H->
  (J.stop i H/\DE.nx (σ.set ix (be (.ref D))) H)\/(J.go i H/\∀x H',J.yld i H x H'->tt (σ++[be x]) H' λb H1=>if b=true then i6 (σ++[be x]) H1 λy H''=>∃vs,H'' D=be (.lst vs)/\vs.length<sizeLine/\∃m',m'<m/\W (i+1) m' (upd H'' D (.lst (vs++[y])))else ∃m',m'<m/\W (i+1) m' H1):=h
 obtain⟨cl,g9,c1,c2⟩:=closure_is (env:=X.env) (scope:=scope) (λn q=>I.ok.has n (.inl (S.free n q)));rw[exec_Assign_Name_used _ _ _ _ Kx];refine KM (Uw (KM ?_));show T4 _ X.A (do let _ <-comprehension (.ListComp g_ [#[.Name x px,iter,j8,0]] scope pos) scope X.env _ (newList []) false (T_ iter X.env) (be (UG (.Name y py) X.env))) _ _ s;refine KM (Ug (Vl (use:=be (UG (.Name y py) X.env)) (Q:=λ_ s'=>SP X pins DE .next s') rfl hs g9 S.kind S.names
  (thn (hi pins s σ H _ I h) λv s1 h1=>thn h1 λNr s2 h2=>?_)) (λ_ s' hq=>P3 (P3 hq)) λ_ _ e=>e)
 obtain⟨it,fp,tn,J,H1,e,I1,T,st,f1,hr⟩:=h2;subst e;have f9:∀b∈fp,b<s2.heap.objs.size:=λb hb=>by
  obtain⟨o,ho,_⟩:=T.obj _ _ st b hb;exact Heap.lt_size ho
 have hD:H1 s2.heap.objs.size=none:=I1.hok.fresh (GO _);obtain⟨W,⟨m0,w0⟩,step⟩:=hr _ hD;refine Ue (VD S.nocell (by intro y hy;simp at hy) (λh₁ hns₁ hsb₁=>?_) S.kind);have I3:Inv X pins σ (upd H1 s2.heap.objs.size (.lst [])) {s2 with heap:=s2.heap.push {cls:=.type "list",data:=.seq ([]:List KB).toArray},toks:=s2.toks}:=I1.lnew (its:=[]) (ys:=[]) .nil (Hc _);have j7:∀b∈fp,b<(s2.heap.push {cls:=.type "list",data:=.seq ([]:List KB).toArray}).objs.size:=λb hb=>by
  rw[Heap.size_push];exact IY (f9 b hb)
 have J_:∀b∈fp,FpOk X pins (upd H1 s2.heap.objs.size (.lst [])) b:=λb hb=>#[by rw[ar (GW (f9 b hb))];exact(f1 b hb).1,(f1 b hb).2];have kp:∀b o,(s2.heap.push {cls:=.type "list",data:=.seq ([]:List KB).toArray}).get? b=be o->h₁.get? b=be o:=λb o e=>
  (hsb₁.2 b (GW (Heap.lt_size e))).trans (Heap.get?_push_of_some _ e)
 have I4:=sN (x:=x) (fp:=fp) (t':=s2.toks+([]:List (Kq×KB)).length) I3 S c1 c2 J_ j7 hns₁ kp;have Ky:(s2.heap.push {cls:=.type "list",data:=.seq ([]:List KB).toArray}).objs.size≠X.env.locals:=HB I3.lt;have Kz:∀z c,X.env.cells.lookup z=be c->c≠(s2.heap.push {cls:=.type "list",data:=.seq ([]:List KB).toArray}).objs.size:=λz c e=>by
  obtain⟨vv,oo,ho,_⟩:=I3.cell z c e;exact GW (Heap.lt_size ho)
 have Lo:∀p∈X.pn++pins,p.1≠(s2.heap.push {cls:=.type "list",data:=.seq ([]:List KB).toArray}).objs.size:=λp hp=>GW (Heap.lt_size (I3.pin p hp).1);have t8:=sO (pos:=pos) (iter:=iter) (R:=compPost (SL X.prog X.w) X.A X.xe (be (UG (.Name y py) X.env)) (λ_ s'=>SP X pins DE .next s') (.ref s2.heap.objs.size) (s2.heap.push {cls:=.type "list",data:=.seq ([]:List KB).toArray}).objs.size) hc S hq he c1 c2 I1 T st f1 w0 step I4 (T.keep _ _ _ st (λb hb ob e=>kp b ob (Heap.get?_push_of_some _ e))) λH' s4 m IX hn l9 q=>by
  show T4 _ X.A (UG (.Name y py) X.env (.ref s2.heap.objs.size)) _ _ s4;refine U7 (qr IX hN MD hy (v:=.ref s2.heap.objs.size) rfl (λs5 I7 ⟨a,hsb,ha⟩=>?_) hf);have Oo:(s2.heap.push {cls:=.type "list",data:=.seq ([]:List KB).toArray}).objs.size≠a:=by
   rcases ha with e|e
   .rw[e];exact Ky
   .exact λz=>Kz y a e z.symm
  exact#[m,hn.sameBut hsb Oo,λh' K0=>#[_,H',I7.turned (t':=s5.toks) (it:=(s2.heap.push {cls:=.type "list",data:=.seq ([]:List KB).toArray}).objs.size) (λb ob hb e=>(K0.2 b hb).trans e) l9 Ky (.inr I3.sz) Kz Lo,q]]
 exact Vx t8 (T.self _ _ _ _ _ (T.keep _ _ _ st (λb hb ob e=>kp b ob (Heap.get?_push_of_some _ e))) t8)
end
end L2
namespace My
def RepS.snoc{K:Ex}{B F H:Hp}{z:SD}{s:L2.St}{d:D}{v:V}(h:RepS K B F H z s)(r:Rep K F d v):RepS K B F H (z++[be d]) (s++[be v]):=by
 have no:=r.noown;have get:∀{j:Nat} {x:D},(z++[be d])[j]?=be (be x)->(j<z.length/\z[j]?=be (be x))\/(j=z.length/\x=d):=λ{j x} e=>by
  rcases H9 j z.length with q|q
  .rw[Hv q]at e;exact .inl #[q,e]
  .rw[HD q]at e;cases hz:j-z.length with
   |zero=>rw[hz]at e;simp at e;exact .inr #[KK,e.symm]
   |succ n=>rw[hz]at e;simp at e
 have lt:∀{j:Nat},j<z.length->(s++[be v])[j]?=s[j]?:=λ{j} q=>Hv (by rw[h.len];exact q);refine#[by rw[G0,G0,h.len];rfl,λj x e nx=>?_,λj ds e=>?_,λj k dj dk a e1 e2 e3 e4=>?_]
 .rcases get e with⟨q,e⟩|⟨q,rfl⟩
  .rw[lt q];exact h.val j x e nx
  .exact#[v,by rw[q,HD (by rw[h.len];exact GO _),h.len];simp,r]
 .rcases get e with⟨q,e⟩|⟨q,e⟩
  .rw[lt q];exact h.own j ds e
  .rw[<-e]at no;cases no
 .rcases get e1 with⟨q,e1⟩|⟨q,e1⟩
  .rcases get e2 with⟨q2,e2⟩|⟨q2,e2⟩
   .rw[lt q]at e3;rw[lt q2]at e4;exact h.apart j k dj dk a e1 e2 e3 e4
   .rw[<-e2]at no;cases no
  .rw[<-e1]at no;cases no
def okB:Bool->Bool->Prop->Prop->Prop
 |_,true,A,_=>A
 |false,false,_,B=>B
 |true,false,_,_=>False
def cmpG(nf:Bool)(tt:TDT)(te:TD)(z:SD)(R:D->Prop)(items:List D):Prop:=items.length<=100000/\∃W:Nat->List D->Prop,W 0 []/\(∀k x ys,items[k]?=be x->(nf=true->ys.length=k)->W k ys->tt (z++[be x]) λb=>okB nf b (te (z++[be x]) λy=>W (k+1) (ys++[y])) (W (k+1) ys))/\∀ys,(nf=true->ys.length=items.length)->W items.length ys->R (.lst ys)
def cmpP(te:TD)(z:SD)(R:D->Prop)(items:List D):Prop:=items.length<=100000/\∃W:Nat->List D->Prop,W 0 []/\(∀k x ys,items[k]?=be x->ys.length=k->W k ys->te (z++[be x]) λy=>W (k+1) (ys++[y]))/\∀ys,ys.length=items.length->W items.length ys->R (.lst ys)
def kA(ti:TDI)(te:TD):TD:=λz R=>ti z (cmpP te z R)
def dT1:TDT:=λ_ R=>R true
abbrev DIf(X:Cx)[Jx](j8:List SZ)(t:TDT):Prop:=PIf X j8 (lT X.K t)
variable{X:Cx}
def kB[Jx]:DIf X [] dT1:=pif_nil.anti λs H Q q=>by
 obtain⟨B,F,z,kf,rs,R,h1,h2⟩:=q;exact h2 true F H (Grow.refl kf.fh) h1
structure ItIs(K:Ex)(J:It)(F1 H1:Hp)(items:List D):Prop where
 go:∀k F' H',Grow F1 H1 F' H'->k<items.length->J.go k H'
 yld:∀k F' H' x H'',Grow F1 H1 F' H'->k<items.length->J.yld k H' x H''->H''=H'/\∃d,items[k]?=be d/\Rep K F' d x
 stop:∀F' H',Grow F1 H1 F' H'->J.stop items.length H'
def ItOk[Jx](K:Ex)(wi:TI)(ti:TDI):Prop:=∀{s:L2.St} {H B F:Hp} {z:SD} {P:List D->Prop} {Q:It->Hp->Prop},Kept B Jx.F0 F H->RepS K B F H z s->ti z P->(∀items J F1 H1,Grow F H F1 H1->P items->ItIs K J F1 H1 items->Q J H1)->wi s H Q
section
variable {X:Cx}
variable{K:Ex}{H:Hp}{s:L2.St}{R:My.D->Prop}{items:List My.D}
def sQ[Jx]{B F F1 H1:Hp}{z:SD}{Q:VK}{nf:Bool}{tt:TDT}{te:TD}{J:It}(kf:Kept B Jx.F0 F H)(g1:Grow F H F1 H1)(rs:RepS K B F H z s)(h2:∀D ys us F' H',H D=v7->F' D=v7->Grow F H F' H'->H' D=be (.lst us)->Reps K F' ys us->R (.lst ys)->Q (.ref D) H')
    (it:ItIs K J F1 H1 items) (hd:cmpG nf tt te z R items):
    ∀D,H1 D=v7->∃W:Nat->Nat->Hp->Prop,(∃m,W 0 m (upd H1 D (.lst [])))/\∀i m H,W i m H->
      (J.stop i H/\Q (.ref D) H)\/(J.go i H/\∀x H',J.yld i H x H'->lT K tt (s++[be x]) H' λb H1=>if b=true then lE K te (s++[be x]) H1 λy H''=>∃vs,H'' D=be (.lst vs)/\vs.length<sizeLine/\∃m',m'<m/\W (i+1) m' (upd H'' D (.lst (vs++[y])))else ∃m',m'<m/\W (i+1) m' H1):=by
  intro D hD;obtain⟨hz,W,w0,c5,out⟩:=hd;have RQ:F1 D=none:=g1.fh.free hD;have hH:H D=none:=g1.hh.free hD;refine⟨λk m H'=>m=items.length-k/\k<=items.length/\∃F' ys us,Grow F1 H1 F' H'/\H' D=be (.lst us)/\F' D=v7/\Reps K F' ys us/\(ys.length<=k/\(nf=true->ys.length=k))/\W k ys,
    #[items.length,Ln,Hc _,F1,[],[],#[Same.refl F1,g1.fh.trans (aO hD _),aO hD _,λb h _=>h],aA,RQ,reps_nil.mpr rfl,#[GO _,λ_=>rfl],w0],?_⟩
  rintro k m H'⟨rfl,hk,F',ys,us,G,hu,hF,ry,hl,w⟩;by_cases f9:k<items.length
  . refine .inr #[it.go k F' H' G f9,λx H'' hy=>?_];obtain⟨e,d,hd,rd⟩:=it.yld k F' H' x H'' G f9 hy;subst e;refine#[B,F',z++[be d],kf.grow (g1.trans G),(rs.grow (g1.trans G)).snoc rd,_,c5 k d ys hd hl.2 w,λb F3 H3 g3 hb=>?_];have Op:H3 D=be (.lst us):=g3.hh D _ hu;have NE:F3 D=none:=g3.out D hF (by rw[hu];exact λq=>nomatch q);cases b with
    |false=>
      cases nf with
      |true=>exact hb.elim
      |false=>exact#[items.length-(k+1),KK,rfl,KK,F3,ys,us,G.trans g3,Op,NE,ry.mono g3.ff,#[KK,λz=>nomatch z],hb]
    |true=>
    refine#[B,F3,z++[be d],(kf.grow (g1.trans G)).grow g3,((rs.grow (g1.trans G)).snoc rd).grow g3,_,(show te _ _ from by cases nf<;>exact hb),λy yv F2 H2 g2 hw rv=>?_];have RR:H2 D=be (.lst us):=g2.hh D _ Op;have KA:F2 D=none:=g2.out D NE (by rw[Op];exact λq=>nomatch q);have Tf:us.length<=k:=by rw[ry.length];exact hl.1
    refine⟨us,RR,by     have:(100000:Nat)<sizeLine:=by decide
                        lia,items.length-(k+1),KK,rfl,KK,F2,ys++[y],us++[yv],?_,aA,KA,((ry.mono g3.ff).mono g2.ff).append (eV rv),#[Ta,λz=>by simp[hl.2 z]],hw⟩
    have GG:=(G.trans g3).trans g2;refine#[GG.ff,λb o e=>?_,λb o e=>?_,GG.out]
    . have ne:b≠D:=λq=>by rw[q,KA]at e;cases e
      rw[ar ne];exact GG.fh b o e
    . have ne:b≠D:=λq=>by rw[q,hD]at e;cases e
      rw[ar ne];exact GG.hh b o e
  . have ek:k=items.length:=by lia
    subst ek;exact .inl #[it.stop F' H' G,h2 D ys us F' H' hH hF (g1.trans G) hu ry (out ys hl.2 w)]
def zz{F F' H':Hp}{D:KF}{us:List V}(GG:Grow F H F' H')(hu:H' D=be (.lst us))(hF:F' D=v7)(hH:H D=v7):Grow F H (upd F' D (.lst us)) H':=by
 refine#[GG.ff.trans (aO hF _),λb o e=>?_,GG.hh,λb h1 h3=>?_]
 .by_cases hb:b=D
  .subst hb;rw[aA]at e;cases e;exact hu
  .rw[ar hb]at e;exact GG.fh b o e
 .have ne:b≠D:=λq=>h3 (q ▸ hH);rw[ar ne];exact GG.out b h1 h3
variable {g_ iter:SZ}{j8:List SZ}{x:Kq}{px pos:Ub}{scope:Uv}{ti te:TD}{tt:TDT}{wi:TI}{KC:TDI}
def sR[Jx]{nf:Bool}{G:SD->(D->Prop)->List D->Prop}(hG:∀z R items,G z R items->cmpG nf tt te z R items)(hI:ItOk K wi KC){Q:VK}(q:lE K (λz R=>KC z (G z R)) s H Q):fY wi (lT K tt) (lE K te) s H Q:=by
 obtain⟨B,F,z,kf,rs,R,h1,h2⟩:=q;exact hI kf rs h1 λitems J F1 H1 g1 hg it=>sQ kf g1 rs (λD ys us F' H' hH hF GG hu ry hR=>h2 (.lst ys) (.ref D) _ H' (zz GG hu hF hH) hR (rep_lst.mpr #[D,us,rfl,aA,ry.mono (aO hF _)])) it (hG _ _ _ hg)
def cmpP.g{z:SD}(h:cmpP te z R items):cmpG true dT1 te z R items:=
 let ⟨hz,W,w0,c5,out⟩:=h
 #[hz,W,w0,λk x ys e l w=>c5 k x ys e (l rfl) w,λys l w=>out ys (l rfl) w]
def itL[Jx]:ItOk K (qF K (lE K ti)) (dItL ti):=λ{s H B F z P Q} kf rs h1 h2=>by
 refine#[B,F,z,kf,rs,_,h1,λd v F1 H1 g1 hd rd=>?_];have key:∀(items:List D) (p:KF) (vs:List V),SqL K F1 p vs->Reps K F1 items vs->P items->∃a,V.ref p=.ref a/\(∃xs,SqL K H1 a xs)/\Q (Itl K a) H1:=λitems p vs hq rr hd=>by
  refine#[p,rfl,#[vs,g1.fh.seq hq],h2 items _ F1 H1 g1 hd #[λk F' H' G hk=>?_,λk F' H' x H'' G hk hy=>?_,λF' H' G=>?_]]
  .have p8:k<vs.length:=by rw[rr.length];exact hk
   exact#[vs,vs[k],G.hh.seq (g1.fh.seq hq),by simp[p8]]
  .obtain⟨e,hy⟩:=hy;obtain⟨d,e2,r2⟩:=rr.get' (hy vs (G.hh.seq (g1.fh.seq hq)));exact#[e,d,e2,r2.mono G.ff]
  .exact#[vs,G.hh.seq (g1.fh.seq hq),by rw[rr.length];exact GO _]
 split at hd
 .obtain⟨p,vs,rfl,hq,rr⟩:=rep_lst.mp rd;exact key _ p vs (SqL.of hq) rr hd
 .obtain⟨p,vs,rfl,hq,rr⟩:=rep_rol.mp rd;exact key _ p vs hq rr hd
 .exact hd.elim
def itR[Jx]:ItOk K (qH (ra (lE K ti) tNil)) (dItR ti):=λ{s H B F z P Q} kf rs h1 h2=>by
 refine#[B,F,z,kf,rs,_,h1,λd v F1 H1 g1 hd rd=>?_];split at hd
 .rename_i n;obtain⟨⟨b1,b2⟩,hd⟩:=hd;have hl:((GS n.toNat).map λk=>D.int ((k:Nat):Int)).length=n.toNat:=by simp
  refine#[n,by rw[rep_int.mp rd],KK,b2,h2 _ _ F1 H1 g1 hd #[λk F' H' G hk=>by rw[hl]at hk;exact hk,λk F' H' x H'' G hk hy=>?_,λF' H' G=>by show n.toNat<=_;rw[hl];exact GO _]];rw[hl]at hk;obtain⟨e,rfl⟩:=hy;exact#[e,.int (k:Int),by simp[hk],rep_int.mpr (by congr 1;lia)]
 .exact hd.elim
def gW[Jx]{p1 p2:Ub}(hc:X.calm=true)(S:CompScope X scope x)(hm:X.mg "range"=v7)(hi:WDE X iter ti)(he:∀cl s₀ H₀ fp,WDE (ce X scope cl x s₀ H₀ fp) g_ te)(hg:autoParam (Gl X "range") zA0)
  (hs:autoParam (∀y,zFS X (.Call (.Name "range" p1) [iter] [] p2) y) zA3) (t9:autoParam (zSE X iter []) zA0) (g7:autoParam (T7 [iter] X.env=[(false,T_ iter X.env)]) zA0):WDE X (.ListComp g_ [#[.Name x px,.Call (.Name "range" p1) [iter] [] p2,[],0]] scope pos) (kA (dItR ti) te):=#[have hi:=hi.out;have he:=λcl s₀ H₀ fp=>(he cl s₀ H₀ fp).out;(zy hc S (jK hg hm (bv hi pa_nil t9) g7) (λ_ _ _ _=>kB) he hs).anti λs H Q q=>sR (λ_ _ _=>cmpP.g) itR q]
def zA[Jx]{E:Ends}{ix:Nat}(hI:ItOk K wi KC)(q:lS K (dSet ix (kA KC te)) E s H):tAsg (fY wi (lT K dT1) (lE K te)) (fM ix) E s H:=by
 obtain⟨B,F0,F,z,k,rs,ED,⟨P,h,j⟩,e⟩:=q;exact sR (λ_ _ _=>cmpP.g) hI #[B,F,z,k.kf,rs,P,h,λd v F' H' g hd rd=>e.nx _ _ F' H' (k.grow g) (j d hd) ((rs.grow g).set rd)]
def sS[Jx](ix:Nat){y:Kq}{py m8:Ub}(hc:X.calm=true)(S:CompScope X scope x)(hN:X.N.Nodup)(hi:WDE X iter ti)(he:∀cl s₀ H₀ fp,WDE (ce X scope cl x s₀ H₀ fp) g_ te)(MD:autoParam (X.N[ix]?=be y) zA0)(hy:autoParam (Loc X.env.scope y) zA4)
  (hf:autoParam (zFN X y) zA2) (Kx:autoParam (Uh (.ListComp g_ [#[.Name x px,iter,[],0]] scope pos) (be (.Name y py)) m8.line X.env=pure true) zA0) (hs:autoParam (∀y,zFS X iter y) zA3):WDS X (.Assign [.Name y py] (.ListComp g_ [#[.Name x px,iter,[],0]] scope pos) m8) (dSet ix (kA (dItL ti) te)):=#[have hi:=hi.out;have he:=λcl s₀ H₀ fp=>(he cl s₀ H₀ fp).out;(sP hc S (jJ hi) (λ_ _ _ _=>kB) he hN MD hy hf Kx hs).anti λE s H q=>zA itL q]
end
def eY(scope fsc:Uv):List (Kq×UL):=scope.names.map λ(n,k)=>if(k==NameKind.free&&fsc.kind== .function&&fsc.names.lookup n==be .cell)then(n,NameKind.cell)else(n,k)
def visB(l:List (Kq×UL))(n:Kq):Bool:=l.lookup n==be .local||l.lookup n==be .cell||l.lookup n==be .free
def cV(scope fsc:Uv)(N:List Kq)(x:Kq):Bool:=
 scope.kind== .function&&scope.names.all (λy=>!(y.2== .cell))&&scope.names.all (λy=>!(y.2== .local)||scope.names.lookup y.1==be .local)&&scope.names.lookup x==be .local &&
 scope.names.all (λy=>!(y.2== .free)||fsc.names.lookup y.1==be .cell)&&N.all (λn=>decide (n=x)||!visB (eY scope fsc) n||scope.names.any (λy=>decide (y=(n,NameKind.free))))&&!visB (eY scope fsc) "" &&
 scope.names.all (λy=>!(y.2== .free)||(eY scope fsc).lookup y.1==be .cell)&&decide (N.map (λn=>if n=x then("":Kq)else n)++[x]).Nodup
def sT{l:List (Kq×UL)}{n:Kq}(h:l.lookup n=be .local\/l.lookup n=be .cell\/l.lookup n=be .free):visB l n=true:=by
 unfold visB;rcases h with h|h|h<;>rw[h]<;>rfl
def compScope{scope:Uv}{x:Kq}(h:cV scope X.env.scope X.N x=true):CompScope X scope x:=by
 unfold cV at h;simp only[Hj]at h;obtain⟨⟨⟨⟨⟨⟨⟨⟨h1,h2⟩,h3⟩,h4⟩,h5⟩,h6⟩,h7⟩,h8⟩,h9⟩:=h;have er:(VU scope X.env).names=eY scope X.env.scope:=rfl;refine#[by simpa using h1,λy hy=>?_,λy hy e=>?_,by simpa using h4,λn hn=>?_,λn hn ne v=>?_,λv=>?_,λn hn=>?_,of_decide_eq_true h9]
 .have:=HF.mp h2 y hy;simpa using this
 .have:=HF.mp h3 y hy;rw[e]at this;simpa using this
 .have:=HF.mp h5 _ hn;show X.env.scope.names.lookup n=be .cell;simpa using this
 .have:=HF.mp h6 n hn;have v':visB (eY scope X.env.scope) n=true:=sT v;rw[v']at this;simp[ne]at this;exact this
 .have v':visB (eY scope X.env.scope) ""=true:=sT v;rw[v']at h7;cases h7
 .have:=HF.mp h8 _ hn;rw[er];simpa using this
def putD(f:Kq)(v:D):List (Kq×D)->List (Kq×D)
 |[]=>[(f,v)]
 |(g,x)::r=>if g=f then(g,v)::r else(g,x)::putD f v r
def RepF.put{K:Ex}{F:Hp}{f:Kq}{d:D}{v:V}(r:Rep K F d v):∀{fs:List (Kq×D)} {ws:List (Kq×V)},RepF K F fs ws->RepF K F (putD f d fs) (putF f v ws)
 |[],ws,h=>by
  rw[repf_nil.mp h];exact repf_cons.mpr #[v,[],rfl,r,repf_nil.mpr rfl]
 |(g,x)::fs,ws,h=>by
  obtain⟨w,Lp,rfl,h1,h2⟩:=repf_cons.mp h;unfold putD putF;by_cases e:g=f
  .rw[if_pos e,if_pos e];exact repf_cons.mpr #[v,Lp,rfl,r,h2]
  .rw[if_neg e,if_neg e];exact repf_cons.mpr #[w,_,rfl,h1,RepF.put r h2]
def RepF.length{K:Ex}{F:Hp}:∀{fs:List (Kq×D)} {ws:List (Kq×V)},RepF K F fs ws->ws.length=fs.length
 |[],ws,h=>by rw[repf_nil.mp h];rfl
 |(g,x)::fs,ws,h=>by
  obtain⟨w,Lp,rfl,h1,h2⟩:=repf_cons.mp h;rw[GV,GV,RepF.length h2]
def ClsA(K:Ex)(x f:Kq):Prop:=∃C,nsIn K Pi x=be (be (.ref C))/\Cls K C/\NoAttr K C f
section
variable {X:Cx}{a b c e:SZ}{ta tb tc te:TD}{pos:Ub}
def dFld(x f:Kq)(te:TD):TD:=λz R=>te z λd=>match d with|.obj y fs=>y=x/\∃d,fs.lookup f=be d/\R d|_=>False
variable{x:Kq}
def eZ[Jx]{f:Kq}(h:ClsA X.K x f)(he:WDE X e te)(hb:autoParam (T9 e f X.env (T_ e X.env)=T_ e X.env) zA0):WDE X (.Attribute e f pos) (dFld x f te):=⟨have he:=he.out;(qY he hb).anti λs H Q q=>by
 obtain⟨C,hn,hc,hf⟩:=h;obtain⟨B,F,z,kf,rs,R,h1,h2⟩:=q;have fh:=kf.fh;refine#[B,F,z,kf,rs,_,h1,λd u F1 H1 g1 hx rx=>?_];split at hx
 .obtain⟨rfl,d,hl,hR⟩:=hx;obtain⟨a,C',dx,vs,rfl,g8,q,r⟩:=rep_obj.mp rx;rw[hn]at g8;cases g8;obtain⟨v,l,rv⟩:=r.look hl;exact#[a,C,dx,vs,v,rfl,g1.fh _ _ q,hc,hf,l,h2 d v F1 H1 g1 hR rv]
 .exact hx.elim⟩
def sU[Jx]{d:D}{v:V}{u:KB}(hm:X.mg x=be u)(r:RelV v u)(rd:∀H,Rep X.K H d v)(hg:autoParam (Gl X x) zA0)(hd:autoParam (zND x) zA1):DE X (.Name x pos) (dC d):=de_c (wz hg hm r hd) rd
def fg[Jx]{i:Int}(h:∃t,X.mg x=be (.int i t))(hg:autoParam (Gl X x) zA0)(hd:autoParam (zND x) zA1):WDE X (.Name x pos) (dC (.int i)):=⟨by
 obtain⟨t,h⟩:=h;exact sU (v:=.int i) h #[t,rfl] (λ_=>rep_int.mpr rfl) hg hd⟩
def fj[Jx]{y:Kq}(h:∃t,X.mg x=be (.str y t))(hg:autoParam (Gl X x) zA0)(hd:autoParam (zND x) zA1):WDE X (.Name x pos) (dC (.str y)):=⟨by
 obtain⟨t,h⟩:=h;exact sU (v:=.str y) h #[t,rfl] (λ_=>rep_str.mpr rfl) hg hd⟩
structure ClsI(K:Ex)(mg:Str->Option KB)(x:Str)(C:KF):Prop where
 ns:nsIn K Pi x=be (be (.ref C))
 mg:mg x=be (.ref C)
 cl:Cls K C
 ha:GT K (.ref C) "__class__"=be (be (.builtin "object.__class__"))
 hn:specialIn K (.builtin "object.__class__") "__get__"=be (be (.builtin "getset_descriptor.__get__"))
 htk:takesIn K (.builtin "object.__class__")=be true
 hm:Hy K C (.type "object")=be true
 self:kitOne K (.ref C) (.ref C)=be true
end
abbrev SiD:=List D->(List (Kq×D)->Prop)->Prop
def lSi(K:Ex)(C:KF)(S:SiD):Sp:=λvs H Q _=>∃a dx us H1 F ds,vs=.ref a::us/\H=upd (upd H1 dx (.own a)) a (.ins C dx [])/\H1 a=v7/\H1 dx=v7/\dx≠a/\Same F H1/\Reps K F ds us/\
 ∃R:List (Kq×D)->Prop,S ds R/\∀fs ws KD F' H',Grow F H1 F' H'->R fs->H' a=be (.ins C KD ws)->F' a=v7->RepF K F' fs ws->Q .non H'
def CalM(P:T3)(w:T5)(K:Ex)(mg:Kq->Option KB)(base:Heap)(n:Nat)(x:Kq)(ps:List Kq)(S:SiD):Prop:=
 ∃C f fd,nsIn K Pi x=be (be (.ref C))/\mg x=be (.ref C)/\Mk K C f/\FnOk P w K mg base (Exc.CX1 P w) n f fd ps (lSi K C S)/\Binds K fd ps []
def zB(x:Kq)(S:SiD)(t:TDA):TD:=λz R=>t z λds=>S ds λfs=>R (.obj x fs)
def kC[Jx]{pos:Ub}{n m:Nat}{ps:List Kq}{S:SiD}{x:Kq}{p:Ub}{e:SZ}{es:List SZ}{t:TDA}(M:CalM X.prog X.w X.K X.mg X.base n x ps S)(hr:Room m X.A)(ha:WDA X (e::es) t)(hg:autoParam (Gl X x) zA0)(hn:autoParam (n+1<=m) zA1)(d5:autoParam (zND x) zA1)
  (he:autoParam (zSE X e es) zA0) (c7:autoParam (zPL X pos es) zA0):WDE X (.Call (.Name x p) (e::es) [] pos) (zB x S t):=⟨by
 have ha:=ha.out;obtain⟨C,f,fd,hns,j_,mk,F,hb⟩:=M;refine(gK mk F (hr.mono hn) hg j_ hb .nil eO ha d5 he c7).anti λs H Q q=>?_;obtain⟨B,F,z,kf,rs,R,h1,h2⟩:=q;have fh:=kf.fh;refine#[B,F,z,kf,rs,_,h1,λds vs F1 H1 g1 hx rx=>?_];intro a dx ha p_ j9;refine#[a,dx,vs,H1,F1,ds,by rw[Hn],rfl,ha,p_,j9,g1.fh,rx,_,hx,λfs ws KD F' H' g hR e8 i8 rf=>#[rfl,?_]];have s1:Same F' (upd F' a (.ins C KD ws)):=aO i8 _;refine h2 (.obj x fs) (.ref a) (upd F' a (.ins C KD ws)) H' #[(g1.ff.trans g.ff).trans s1,λb o q=>?_,g1.hh.trans g.hh,λb q1 q2=>?_] hR (rep_obj.mpr #[a,C,KD,ws,rfl,hns,aA,RepF.mono s1 fs ws rf])
 .by_cases hb:b=a
  .subst hb;rw[aA]at q;cases q;exact e8
  .rw[ar hb]at q;exact g.fh b o q
 .by_cases hb:b=a
  .subst hb;exact absurd (g1.hh.free ha) q2
  .rw[ar hb];exact(g1.trans g).out b q1 q2⟩
abbrev TID:=SD->List (Kq×D)->(List (Kq×D)->Prop)->Prop
def lI(K:Ex)[J:Jx](x:Kq)(t:TID):TS:=λE σ H=>∃C a dx ws F z fs,nsIn K Pi x=be (be (.ref C))/\σ[0]?=be (be (.ref a))/\H a=be (.ins C dx ws)/\J.B a=v7/\F a=v7/\Kept J.B J.F0 F H/\RepS K J.B F H z σ/\RepF K F fs ws/\
 ∃R:List (Kq×D)->Prop,t z fs R/\∀l7 Lp F' H',Kept J.B J.F0 F' H'->R l7->H' a=be (.ins C dx Lp)->F' a=v7->RepF K F' l7 Lp->E.nx σ H'
abbrev DI(X:Cx)[Jx](x:Kq)(st:List SB)(t:TID):Prop:=PSs X st (lI X.K x t)
structure WDI(X:Cx)[Jx](x:Str)(st:List SB)(t:TID):Prop where
 out:DI X x st t
section
variable {X:Cx}{x f:Kq}{e:SZ}{te:TD}{pos b_ p:Ub}{rest:List SB}{tr:TID}
def sV:TID:=λ_ fs R=>R fs
def zC(f:Kq)(te:TD)(tr:TID):TID:=λz fs R=>te z λd=>fs.length<1000/\tr z (putD f d fs) R
def dP[Jx]:WDI X x [] sV:=⟨pss_nil.anti λE s H q=>by
 obtain⟨C,a,dx,ws,F,z,fs,hn,h0,e8,m9,i8,g,rs,rf,R,hR,k⟩:=q;exact k fs ws F H g hR e8 i8 rf⟩
def RepS.other{K:Ex}{B F H:Hp}{z:SD}{σ:L2.St}{a:KF}{o o':HO}(rs:RepS K B F H z σ)(h:H a=be o)(hl:∀vs,o≠.lst vs):RepS K B F (upd H a o') z σ:=
 ⟨rs.len,rs.val,λi ds e=>by
  obtain⟨b,vs,q1,q2,q⟩:=rs.own i ds e;have ne:b≠a:=by
   rintro rfl;rw[h]at q2;cases q2;exact hl vs rfl
  exact#[b,vs,q1,by rw[ar ne];exact q2,q],rs.apart⟩
def bO[J:Jx]{ps:Ub}{sx:Kq}(hA:ClsA X.K x f)(he:WDE X e te)(hr:WDI X x rest tr)(hN:autoParam (X.N[0]?=be sx) zA0)(hv:autoParam (Vis X.env.scope sx) zA5)(hd:autoParam (zND sx) zA1)
  (gt:autoParam (zNC sx) zA1) (hs:autoParam (Uh e (be (.Attribute (.Name sx ps) f b_)) pos.line X.env=pure false) zA0):WDI X x (.Assign [.Attribute (.Name sx ps) f b_] e pos::rest) (zC f te tr):=⟨have he:=he.out;have hr:=hr.out;(eI (qZ (cO (i:=0) hN hv hd gt) he hs) hr).anti λE s H q=>by
 obtain⟨C,a,dx,ws,F,z,fs,hn,h0,e8,m9,i8,g,rs,rf,R,hR,k⟩:=q;obtain⟨C',g8,hc,hf⟩:=hA;rw[hn]at g8;cases g8;refine#[_,F,z,g,rs,_,hR,λd v F2 H2 g2 hx rv=>?_];have k2:=g.grow g2;have QH:=g2.hh a _ e8;have KA:F2 a=none:=g2.out a i8 (by rw[e8];exact λz=>nomatch z);refine#[.ref a,h0,a,C,dx,ws,rfl,QH,hc,hf,by rw[rf.length];exact hx.1,?_];have RS:Same F2 (upd H2 a (.ins C dx (putF f v ws))):=λb o q=>by
  have ne:b≠a:=by rintro rfl;rw[KA]at q;cases q
  rw[ar ne];exact g2.fh b o q
 have Kj:Same J.B (upd H2 a (.ins C dx (putF f v ws))):=λb o q=>by
  have ne:b≠a:=by rintro rfl;rw[m9]at q;cases q
  rw[ar ne];exact k2.bh b o q
 exact#[C,a,dx,putF f v ws,F2,z,putD f d fs,hn,h0,aA,m9,KA,#[Kj,RS,k2.f0,k2.out,k2.eb,k2.jf,k2.jo],(rs.grow g2).other QH (λ_ z=>nomatch z),RepF.put rv (RepF.mono g2.ff fs ws rf),R,hx.2,k]⟩
end
section
variable {P:T3}{w:T5}{K:Ex}{mg:Kq->Option KB}{base:Heap}
def sW{K:Ex}{B F H:Hp}{z:SD}{σ:L2.St}{v:V}(rs:RepS K B F H z σ):RepS K B F H (v7::z) (be v::σ):=
  ⟨by rw[GV,GV,rs.len],λi d e no=>by
    cases i with
    |zero=>cases e
    |succ i=>exact rs.val i d e no,λi ds e=>by
    cases i with
    |zero=>cases e
    |succ i=>exact rs.own i ds e,λi j di dj a e1 e2 e3 e4=>by
    cases i with
    |zero=>cases e1
    |succ i=>
      cases j with
      |zero=>cases e2
      |succ j=>rw[rs.apart i j di dj a e1 e2 e3 e4]⟩
def Cls.okI{x qual:Kq}{st:SB}{f C:KF}{fd:Ua}{N:List Kq}{p0:Kq}{ps:List Kq}{k:Nat}{S:SiD}(T:Fun K "__init__" qual st f fd)(hb:Binds K fd (p0::ps) [])(F:FnScope (p0::N) (p0::ps) (ah st))(len:∀ds R,S ds R->ds.length=ps.length)
  (hns:nsIn K Pi x=be (be (.ref C))) (j_:mg x=be (.ref C)) (mk:Mk K C f)
  (a8:∀(cdv:KB) (A:T6) (outer:List UP) (s:Os) (H:Hp) (E:XK) (J:Jx),Room k (A.deeper (Ud qual (ah st) s.heap.objs.size f cdv))->
   ∃t,DI (cxOf (Exc.CX1 P w) P w K mg base (p0::N) qual (ah st) f cdv A outer s H E).nox x (aJ st) t/\∀ds R,S ds R->t (v7::startD N ds) [] R):CalM P w K mg base (k+1) x (p0::ps) S:=by
 refine#[C,f,fd,hns,j_,mk,Fun.okC T F (λvs H Q E h=>?_) (λcdv A outer s H vs Q E hr h=>?_),hb]
 .obtain⟨a,dx,us,H1,F,ds,rfl,_,_,_,_,_,rs,R,h,_⟩:=h;rw[GV,GV,rs.length,len ds R h]
 .obtain⟨a,dx,us,H1,F1,ds,rfl,rfl,ha,p_,j9,fh,rs,R,h,q⟩:=h
  letI:Jx:=#[H1,F1,λ_ _ _=>False]
  obtain⟨t,ht,hq⟩:=a8 cdv A outer s _ E inferInstance hr;have Fa:F1 a=none:=fh.free ha;have hl:L2.start (p0::N) (.ref a::us)=be (.ref a)::L2.start N us:=by
   unfold L2.start;rw[G8,GV,GV,JI];rfl
  have s1:Same H1 (upd (upd H1 dx (.own a)) a (.ins C dx [])):=(aO p_ _).trans (aO (by rw[ar (Ne.symm j9)];exact ha) _);refine#[_,ht.nox,C,a,dx,[],F1,v7::startD N ds,[],hns,by rw[hl];rfl,aA,ha,Fa,#[s1,fh.trans s1,Same.refl F1,λ_ h _=>h,rfl,Same.refl F1,λ_ h _=>h],?_,repf_nil.mpr rfl,R,hq ds R h,λl7 Lp F' H' g hR e8 i8 rf=>q l7 Lp dx F' H' #[g.f0,g.fh,g.bh,g.out] hR e8 i8 rf];rw[hl];exact sW (dL rs)
end
section
variable {X:Cx}{a b c e:SZ}{ta tb tc te:TD}{pos:Ub}
def zD(t u:TD):TDI:=λz R=>t z λx=>u z λy=>match x,y with|.int i,.int j=>(-(2^62)<=i/\i<2^62/\-(2^62)<=j/\j<2^62)/\R ((GS (j-i).toNat).map λk=>D.int (i+((k:Nat):Int)))|_,_=>False
def zE[Jx](i:Nat){x:Kq}{p p1 p2:Ub}{body:List SB}{QI:TSD}(hp:Um (SL X.prog X.w) X.A X.env X.xe)(hc:X.calm=true)(hN:X.N.Nodup)(hm:X.mg "range"=v7)(ha:WDE X a ta)(gV:WDE X b tb)(hb:WDSs X body QI)(hg:autoParam (Gl X "range") zA0)(hi:autoParam (X.N[i]?=be x) zA0)(hx:autoParam (Loc X.env.scope x) zA4)
  (hf:autoParam (zFN X x) zA2) (hs:autoParam (∀y,zFS X (.Call (.Name "range" p1) [a,b] [] p2) y) zA3) (t9:autoParam (zSE X a [b]) zA0) (Oq:autoParam (zSE X b []) zA0) (g7:autoParam (T7 [a,b] X.env=[(false,T_ a X.env),(false,T_ b X.env)]) zA0) (Ot:autoParam (T7 [b] X.env=[(false,T_ b X.env)]) zA0):WDS X (.For (.Name x p) (.Call (.Name "range" p1) [a,b] [] p2) body [] pos) (dFor i (zD ta tb) QI):=⟨have ha:=ha.out;have gV:=gV.out;have hb:=hb.out;(cP hp hc (wX hg hm (bv ha (bv gV pa_nil Oq) t9) g7 Ot) (dJ hN hi hx hf) hb hs).anti λE s H q=>by
 obtain⟨B,F0,F,z,kp,rs,ED,h,e⟩:=q;refine#[B,F,z,kp.kf,rs,_,h,λd1 v1 F1 H1 g1 h1 r1=>?_];refine#[B,F1,z,kp.kf.grow g1,rs.grow g1,_,h1,λd2 v2 F2 H2 g2 h2 r2=>?_];split at h2
 .rename_i lo i_;obtain⟨bd,W,w0,c5,out⟩:=h2;have hl:((GS (i_-lo).toNat).map λk=>D.int (lo+((k:Nat):Int))).length=(i_-lo).toNat:=by simp
  refine#[lo,i_,by rw[rep_int.mp r1,rep_int.mp r2],bd,jM (lo:=lo) (n:=(i_-lo).toNat) (λk s' H'=>∃F' z',Kept B F0 F' H'/\RepS X.K B F' H' z' s'/\W k z') #[F2,z,(kp.grow g1).grow g2,(rs.grow g1).grow g2,w0] ?_ ?_]
  .rintro k s' H' hk⟨F',z',k',r',w'⟩;exact#[B,F0,F',_,k',r'.set (d:=.int (lo+(k:Int))) (rep_int.mpr rfl),_,c5 k (.int (lo+(k:Int))) z' (by simp[hk]) w',#[λz3 s3 F3 H3 k3 h3 r3=>#[F3,z3,k3,r3,h3],e.rt,e.nx,λz3 s3 F3 H3 k3 h3 r3=>#[F3,z3,k3,r3,h3]]]
  .rintro s' H'⟨F',z',k',r',w'⟩;exact e.nx z' s' F' H' k' (out z' (by rw[hl];exact w')) r'
 .exact h2.elim⟩
def RepS.change[Jx]{K:Ex}{B F0 F H:Hp}{z:SD}{s:L2.St}{i:Nat}{ds Ou:List D}{a:KF}{m_:List V}(rs:RepS K B F H z s)(k:Kept B F0 F H)(ez:z[i]?=be (be (.own ds)))(q1:s[i]?=be (be (.ref a)))(hB:B a=v7)(hF:F a=v7)(r:Reps K F Ou m_):
  Kept B F0 F (upd H a (.lst m_))/\RepS K B F (upd H a (.lst m_)) (z.set i (be (.own Ou))) s:=by
 have Vc:∀{G:Hp},G a=v7->Same G H->Same G (upd H a (.lst m_)):=λ{G} ga gs b o eb=>by
  have ne:b≠a:=λz=>by rw[z,ga]at eb;cases eb
  rw[ar ne];exact gs b o eb
 have r2:=rs.setOwn (i:=i) (a:=a) (vs:=m_) (ds:=Ou) hB hF r (λj dj hj e1 e2=>hj (rs.apart j i dj ds a e1 ez e2 q1));have es:s.set i (be (.ref a))=s:=by
  apply HN;intro n;by_cases hn:i=n
  .subst hn;rw[Ht (G1.mp q1).1,q1]
  .rw[G2 hn]
 rw[es]at r2;exact#[#[Vc hB k.bh,Vc hF k.fh,k.f0,k.out,k.eb,k.jf,k.jo],r2]
def Reps.put{K:Ex}{F:Hp}{d:D}{v:V}(r:Rep K F d v):∀{ds:List D} {vs:List V} (j:Nat),Reps K F ds vs->Reps K F (ds.set j d) (vs.set j v)
 |[],vs,j,h=>by rw[reps_nil.mp h];exact reps_nil.mpr rfl
 |x::ds,vs,0,h=>by
  obtain⟨u,us,rfl,h1,h2⟩:=reps_cons.mp h;exact reps_cons.mpr #[v,us,rfl,r,h2]
 |x::ds,vs,j+1,h=>by
  obtain⟨u,us,rfl,h1,h2⟩:=reps_cons.mp h;exact reps_cons.mpr #[u,_,rfl,h1,Reps.put r j h2]
def sX(i:Nat)(te ti:TD):TSD:=λE z=>match z[i]? with
 |some (be (.own ds))=>te z λd=>ti z λy=>match y with|.int k=>∃j,ixN ds.length k=be j/\E.nx (z.set i (be (.own (ds.set j d))))|_=>False
 |_=>False
def sY[Jx](i:Nat){x:Kq}{p1 p2:Ub}(he:WDE X e te)(hb:WDE X b tb)(hN:autoParam (X.N[i]?=be x) zA0)(hv:autoParam (Vis X.env.scope x) zA5)(hd:autoParam (zND x) zA1)
  (gt:autoParam (zNC x) zA1)
  (ha:∀v,UG (.Subscript (.Name x p1) b p2) X.env v=(do
   let ov <-Uu [v] (T_ (.Name x p1) X.env)
   let iv <-Uu [v,ov] (T_ b X.env)
   UO p2
   Uu [v,ov,iv] (Vt ov iv v)
   VT [v,ov,iv] []):=by intro _;rfl)
  (hs:autoParam (Ux [.Subscript (.Name x p1) b p2] e pos.line X.env=pure false) zA0) (hw:autoParam (Uy [.Subscript (.Name x p1) b p2] e X.env=pure none) zA0)
  (h1:autoParam ((T8 [.Subscript (.Name x p1) b p2] X.env).map (·.2)=[UG (.Subscript (.Name x p1) b p2) X.env]) zA0):WDS X (.Assign [.Subscript (.Name x p1) b p2] e pos) (sX i te tb):=⟨have he:=he.out;have hb:=hb.out;(gG he (wO (cO hN hv hd gt) hb rD ha) hs hw h1).anti λE s H q=>by
 obtain⟨B,F0,F,z,k,rs,ED,h,e⟩:=q;unfold sX at h;split at h
 .rename_i ds ez;refine#[B,F,z,k.kf,rs,_,h,λd v F1 H1 g1 hx rv=>?_];obtain⟨a,vs,q1,q2,q3,q4,q5⟩:=(rs.grow g1).own i ds ez;refine#[.ref a,q1,B,F1,z,k.kf.grow g1,rs.grow g1,_,hx,λy w F2 H2 g2 hy ry=>?_];split at hy
  .obtain⟨j,ej,hn⟩:=hy;have r2:=(rs.grow g1).grow g2;have k2:=(k.grow g1).grow g2;have KA:F2 a=none:=g2.out a q4 (by rw[q2];exact λz=>nomatch z);refine#[a,vs,_,j,rfl,rep_int.mp ry,g2.hh _ _ q2,by rw[q5.length];exact ej,?_];obtain⟨k3,r3⟩:=r2.change k2 ez q1 q3 KA (Reps.put (rv.mono g2.ff) j (q5.mono g2.ff));exact e.nx _ s F2 _ k3 hn r3
  .exact hy.elim
 .exact h.elim⟩
end
end My
namespace My
open Exc
abbrev XD:=Kq->List (Kq×D)->Prop
def ErrD(K:Ex)(F:Hp)(x:Kq)(fs:List (Kq×D))(C:KF)(od:Option KF):Prop:=
 nsIn K Pi x=be (be (.ref C))/\∃vs,RepF K F fs vs/\((od=v7/\vs=[])\/∃b,od=be b/\F b=be (.xd vs))
abbrev SpX:=List D->(D->Prop)->XD->Prop
def lSpX(K:Ex)(S:SpX):Sp:=λvs H Q E=>∃F ds,Same F H/\Reps K F ds vs/\∃(R:D->Prop) (RX:XD),S ds R RX/\(∀d v F' H',Grow F H F' H'->R d->Rep K F' d v->Q v H')/\
 ∀x fs C od F' H',Grow F H F' H'->RX x fs->ErrD K F' x fs C od->E (.ref C) od H'
def Exd(X:Cx)(H:Hp)(s:Os)(e C:KF)(od:Option KF):Prop:=
  H e=v7/\X.s₀.heap.get? e=v7/\(∀p∈X.pn,p.1≠e)/\
  ((∃sl vs,s.heap.get? e=be #[.ref C,od,.fields vs,sl]/\vs[1]?=be .none)\/
    ∃T,ExAt s.heap e C od T .none/\X.s₀.heap.get? T=v7/\H T=v7/\∀p∈X.pn,p.1≠T)
def XOk(X:Cx)[J:Jx]:Prop:=∀(σ:L2.St) (z:SD) (F H:Hp) (s:Os) (e C:KF) (od:Option KF) (x:Kq) (fs:List (Kq×D)),Inv X [] σ H s->Kept J.B J.F0 F H->RepS X.K J.B F H z σ->J.RX z x fs->ErrD X.K F x fs C od->Exd X H s e C od->X.xe (.ref e) s
variable{X:Cx}{pins:List (KF×Uj)}{σ:L2.St}{H:Hp}{s:Os}
def Inv.nopins(I:Inv X pins σ H s):Inv X [] σ H s:=I.pins_of λp hp=>by cases hp
section
variable {X:Cx}{k:Nat}{f:KF}{fd:Ua}{ps:List Kq}{sp:Sp}{E:XK}
def gX{pins:List (KF×Uj)}{σ:L2.St}{H:Hp}{s:Os}{Q:VK}{us:List KB}{vs:List V}(F:FnOk X.prog X.w X.K X.mg X.base (CX1 X.prog X.w) k f fd ps sp)(hr:Room k X.A)(hb:Binds X.K fd ps [])
  (hx:∀e s',CX1 X.prog X.w X.stack H s E e s'->X.xe e s') (I:Inv X pins σ H s) (r:Vals vs us) (h:sp vs H Q E):T4 (SL X.prog X.w) X.A (call (.ref f) us) (EP X pins σ Q) X.xe s:=by
 have hl:us.length=ps.length:=by rw[<-L2.Vals.length r];exact F.len _ _ _ _ h
 have gV:=hb s us I.kIn (by rw[Hn];exact hl);rw[Hn]at gV;refine UF (UC (F.run X.A X.stack s H #[us,[]] us vs Q E hr I.env0 gV r h) λr s' hq=>?_);cases r with
 |error e=>exact hx e s' hq
 |ok fl=>
  cases fl with
  |ret u=>exact I.after hq
  |next=>exact False.elim hq
  |brk=>exact False.elim hq
  |cont=>exact False.elim hq
end
variable{b:KF}
def cI(I:Inv X pins σ H s)(d9:X.ex=[])(q:s.heap.get? b=v7):X.s₀.heap.get? b=none:=by
 cases z:X.s₀.heap.get? b with
 |none=>rfl
 |some o=>
  obtain⟨o',z'⟩:=I.base.there b o z (by rw[d9];simp);rw[q]at z';cases z'
def pn_free(I:Inv X pins σ H s)(q:s.heap.get? b=v7):∀p∈X.pn,p.1≠b:=λp hp z=>by
 have:=(I.pin p (HY _ hp)).1;rw[z,q]at this;cases this
def XOk.out[J:Jx](hx:XOk X)(d9:X.ex=[]){z:SD}{s':Os}{ev:KB}(I:Inv X pins σ H s)
  (h:CX1 X.prog X.w X.stack H s (λCv od H'=>∃x fs C F',Cv=.ref C/\Kept J.B J.F0 F' H'/\RepS X.K J.B F' H' z σ/\J.RX z x fs/\ErrD X.K F' x fs C od) ev s'):X.xe ev s':=by
 obtain⟨e,C,od,T,H',rfl,Kt,hb,un,hok,Ov,ne,nT,He,HT,x,fs,C',F',hC,kk,rr,hR,er⟩:=h;cases hC;have I':Inv X pins σ H' s':=I.call' Kt un hok hb (λb z=>absurd z Ln);exact hx σ z F' H' s' e C od x fs (Inv.nopins I') kk rr hR er #[He,cI I d9 ne,pn_free I ne,.inr #[T,Ov,cI I d9 nT,HT,pn_free I nT]]
abbrev CalX(P:T3)(w:T5)(K:Ex)(mg:Kq->Option KB)(base:Heap)(n:Nat)(x:Kq)(ps:List Kq)(S:SpX):Prop:=Cal P w K mg base n x ps (lSpX K S)
def zF[J:Jx](S:SpX)(t:TDA):TD:=λz R=>t z λds=>S ds R (J.RX z)
variable{ps:List Kq}{x:Kq}
def sZ[J:Jx]{pos:Ub}{n m:Nat}{S:SpX}{p:Ub}{e:SZ}{es:List SZ}{t:TDA}(C:CalX X.prog X.w X.K X.mg X.base n x ps S)(hx:XOk X)(hr:Room m X.A)(ha:WDA X (e::es) t)(d9:autoParam (X.ex=[]) zA0)(hg:autoParam (Gl X x) zA0)(hn:autoParam (n<=m) zA1)(d5:autoParam (zND x) zA1)
  (he:autoParam (zSE X e es) zA0) (c7:autoParam (zPL X pos es) zA0):WDE X (.Call (.Name x p) (e::es) [] pos) (zF S t):=⟨by
 have ha:=ha.out;obtain⟨f,fd,F,hb,hk,hm⟩:=C;intro pins s σ H Q I h;obtain⟨B,Fr,z,kf,rs,R,h1,h2⟩:=h;obtain rfl:B=J.B:=kf.eb;refine Uc (cx I hg hm ?_ d5);refine callWith_K (h₀:=X.base) I.ok.mod.kin hk (thn (ha pos pins s σ H (λvs H1=>lSpX X.K S vs H1 Q (λCv od H'=>∃x fs C F',Cv=.ref C/\Kept J.B J.F0 F' H'/\RepS X.K J.B F' H' z σ/\J.RX z x fs/\ErrD X.K F' x fs C od)) I #[_,Fr,z,kf,rs,_,h1,λds vs F1 H1 g1 hx rx=>?_]) λus s1 ⟨vs,H1,I1,r,q⟩=>#[I1.kIn,?_]) he c7
 .exact#[F1,ds,g1.fh,rx,R,J.RX z,hx,λd v F' H' g=>h2 d v F' H' (g1.trans g),λx fs C od F' H' g hR er=>#[x,fs,C,F',rfl,(kf.grow g1).grow g,(rs.grow g1).grow g,hR,er]]
 .exact gX F (hr.mono hn) hb (λe s' hq=>hx.out d9 I1 hq) I1 r q⟩
section
variable {P:T3}{w:T5}{K:Ex}{mg:Kq->Option KB}{base:Heap}
variable{N:List Kq}
def tf{qual:Kq}{scope:Uv}{f:KF}{cd:KB}{A:T6}{outer:List UP}{s:Os}{H:Hp}{E':XK}{pins:List (KF×Uj)}{σ:L2.St}{H':Hp}{s':Os}{e C T:KF}{od:Option KF}
  (I':Inv (cxOf (CX1 P w) P w K mg base N qual scope f cd A outer s H E') pins σ H' s') (hx:ExAt s'.heap e C od T .none) (ne:s.heap.get? e=v7) (nT:s.heap.get? T=v7) (He:H' e=v7) (HT:H' T=v7) (hE:E' (.ref C) od H'):
  (cxOf (CX1 P w) P w K mg base N qual scope f cd A outer s H E').xe (.ref e) s':=by
 show T4 _ _ (Vv _ _) _ _ _;unfold Vv;refine KM (rP I'.ok.frames I'.stack rfl hx λh2 T2 n9 z9 t7=>flight_none (s:={s' with heap:=h2}) n9 λh3 Mx I_=>?_);have Kw:s'.heap.get? T2=none:=Heap.get?_none_of_le z9;have f1:∀b,s'.heap.get? b=v7->s.heap.get? b=none:=λb q=>cI I' rfl q;have hok:HOk P w H' s'.heap:=I'.hok;have KZ:H' T2=none:=hok.fresh z9;have RT:∀b∈[T,e],s.heap.get? b=none:=λb hb=>by
  rcases GP.mp hb with z|z
  .rw[z];exact nT
  .rw[GN.mp z];exact ne
 have u2:Un (frs outer) [] H H' s.heap h2:=gO (show Un (frs outer) [] H H' s.heap s'.heap from I'.base) t7 RT λb hb=>rQ hb;have u3:Un (frs outer) [] H H' s.heap h3:=gO u2 I_ (λb hb=>by rw[GN.mp hb];exact f1 T2 Kw) λb hb=>by cases hb
 have k2:=fQ hok t7 (λb hb=>I'.stkFree b hb) (λb hb=>by
  rcases GP.mp hb with z|z
  .rw[z];exact HT
  .rw[GN.mp z];exact He)
 have k3:=fQ k2 I_ (λb hb=>by cases hb) (λb hb=>by rw[GN.mp hb];exact KZ);exact#[e,C,od,T2,H',rfl,I'.os,I'.bare,u3,k3,Mx,ne,f1 T2 Kw,He,KZ,hE]
variable{ps:List Kq}
def _root_.L2.Fun.okX{x:Kq}{st:SB}{f:KF}{fd:Ua}{k:Nat}{S:SpX}(T:Fun K x x st f fd)(F:FnScope N ps (ah st))(len:∀ds R RX,S ds R RX->ds.length=ps.length)
  (a8:∀(cdv:KB) (A:T6) (outer:List UP) (s:Os) (H:Hp) (E:XK) (J:Jx),Room k (A.deeper (Ud x (ah st) s.heap.objs.size f cdv))->XOk (cxOf (CX1 P w) P w K mg base N x (ah st) f cdv A outer s H E)->
   ∃t,DSs (cxOf (CX1 P w) P w K mg base N x (ah st) f cdv A outer s H E) (aJ st) t/\∀ds R RX,(∀z,J.RX z=RX)->S ds R RX->t {nx:=λ_=>R .non,rt:=R} (startD N ds)):FnOk P w K mg base (CX1 P w) (k+1) f fd ps (lSpX K S):=by
 refine Fun.okC T F (λvs H Q E h=>?_) (λcdv A outer s H vs Q E hr h=>?_)
 .obtain⟨F,ds,fh,rs,R,RX,h,_⟩:=h;rw[rs.length];exact len ds R RX h
 .obtain⟨F,ds,fh,rs,R,RX,h,q,qx⟩:=h
  letI:Jx:=#[H,F,λ_=>RX]
  have hx:XOk (cxOf (CX1 P w) P w K mg base N x (ah st) f cdv A outer s H E):=by
   intro σ z F' H' s' e C od y fs I kk rr hR er ⟨He,ne,_,hx⟩;have hE:E (.ref C) od H':=qx y fs C od F' H' #[kk.f0,kk.fh,kk.bh,kk.out] hR er;rcases hx with⟨sl,vs,h1,h2⟩|⟨T,h1,h2,h3,_⟩
   .exact rR I h1 h2 He ne hE
   .exact tf I h1 ne h2 He h3 hE
  obtain⟨t,ht,hq⟩:=a8 cdv A outer s H E inferInstance hr hx;refine#[_,ht,H,F,F,startD N ds,#[Same.refl H,fh,Same.refl F,λ_ h _=>h,rfl,Same.refl F,λ_ h _=>h],dL rs,_,hq ds R RX (λ_=>rfl) h,#[λz' s' F' H' k hn _=>q _ _ F' H' #[k.f0,k.fh,k.bh,k.out] hn (rep_non.mpr rfl),λd v F' H' k hd rd=>q d v F' H' #[k.f0,k.fh,k.bh,k.out] hd rd,λ_ _ _ _ _ h _=>h.elim,λ_ _ _ _ _ h _=>h.elim]]
def Tx.okX{x:Kq}{st:SB}{k:Nat}{S:SpX}(T:Tx K mg x st ps)(F:FnScope N ps (ah st))(len:∀ds R RX,S ds R RX->ds.length=ps.length)
  (a8:∀(f:KF) (cdv:KB) (A:T6) (outer:List UP) (s:Os) (H:Hp) (E:XK) (J:Jx),Room k (A.deeper (Ud x (ah st) s.heap.objs.size f cdv))->XOk (cxOf (CX1 P w) P w K mg base N x (ah st) f cdv A outer s H E)->
   ∃t,DSs (cxOf (CX1 P w) P w K mg base N x (ah st) f cdv A outer s H E) (aJ st) t/\∀ds R RX,(∀z,J.RX z=RX)->S ds R RX->t {nx:=λ_=>R .non,rt:=R} (startD N ds)):CalX P w K mg base (k+1) x ps S:=by
 obtain⟨f,fd,T,hb,hm⟩:=T;exact#[f,fd,T.okX F len λcdv A outer s H E J hr hx=>a8 f cdv A outer s H E J hr hx,hb,T.kp,hm]
end
variable{P:T3}{w:T5}{h:Heap}
def ObjOk.there{a:KF}{o:HO}(x:ObjOk P w H h a o):∃u,h.get? a=be u:=by
 cases o with
 |lst xs=>obtain⟨_,_,_,_,e⟩:=x;exact#[_,e]
 |tup xs=>obtain⟨_,_,_,o,e,_⟩:=x;exact#[_,e]
 |dK a9=>obtain⟨_,_,_,_,o,_,_,e,_⟩:=x;exact#[_,e]
 |dT a9=>obtain⟨_,_,_,_,o,_,_,e,_⟩:=x;exact#[_,e]
 |set S n=>obtain⟨o,_,_,_,e,_⟩:=x;exact#[_,e]
 |ins C dx fs=>obtain⟨_,_,_,e,_⟩:=x;exact#[_,e]
 |own y=>exact x
 |xd fs=>obtain⟨_,⟨_,_,_,e,_⟩,_⟩:=x;exact#[_,e]
 |rng lo hi=>obtain⟨_,_,_,e⟩:=x;exact#[_,e]
 |frz ob u=>obtain⟨e,_⟩:=x;exact#[_,e]
 |tbl ps=>exact#[_,(show h.get? a=be _ from x)]
 |met f y=>exact#[_,(show h.get? a=be _ from x)]
 |ext φ=>obtain⟨_,e,_⟩:=x;exact e
def fZ{a:KF}(x:HOk P w H h)(e:h.get? a=v7):H a=none:=by
 cases q:H a with
 |none=>rfl
 |some o=>
  obtain⟨u,hu⟩:=ObjOk.there (x a o q);rw[e]at hu;cases hu
def del(H:Hp)(a:KF):Hp:=λb=>if b=a then v7 else H b
def gc{a:KF}:del H a a=none:=by unfold del;rw[if_pos rfl]
def cn{a:KF}(h:b≠a):del H a b=H b:=by unfold del;rw[if_neg h]
section
variable {X:Cx}{pins:List (KF×Uj)}{σ:L2.St}{H:Hp}{s:Os}{e:KF}
variable{φ:Heap->Prop}
def Inv.drop(I:Inv X pins σ H s)(h:H e=be (.ext φ))(ne:X.s₀.heap.get? e=v7):Inv X pins σ (del H e) s:=by
 have nx:∀b o,H b=be o->(∀φ,o≠.ext φ)->b≠e:=λb o q n z=>by rw[z,h]at q;cases q;exact n φ rfl
 refine#[I.ok,I.os,I.bare,#[I.base.keep,I.base.slot,λb o q n hx=>?_,I.base.there,λb xs q=>?_,λb o u q=>?_,λb ps q=>?_],I.loc,I.cell,?_,λx c q=>?_,λp hp=>?_,λa o q=>?_,I.len]
 .have:b≠e:=λz=>by rw[z,ne]at q;cases q
  rw[cn this];exact I.base.free b o q n hx
 .have:=I.base.tups b xs q;rw[cn (nx b _ this λφ z=>nomatch z)];exact this
 .have:=I.base.frzs b o u q;rw[cn (nx b _ this λφ z=>nomatch z)];exact this
 .obtain⟨m,this⟩:=I.base.tbls b ps q;exact#[m,by rw[cn (nx b _ this λφ z=>nomatch z)];exact this]
 .by_cases z:X.env.locals=e
  .rw[z];exact gc
  .rw[cn z];exact I.free
 .by_cases z:c=e
  .rw[z];exact gc
  .rw[cn z];exact I.freeC x c q
 .obtain⟨h1,h2,h3⟩:=I.pin p hp;refine#[h1,?_,h3];by_cases z:p.1=e
  .rw[z];exact gc
  .rw[cn z];exact h2
 .by_cases z:a=e
  .rw[z,gc]at q;cases q
  .rw[cn z]at q;exact(I.hok a o q).stay (λb u _ r=>r) (λb r=>by rw[cn (nx b _ r λφ z=>nomatch z)];exact r) λb xs r=>by rw[cn (nx b _ r λφ z=>nomatch z)];exact r
def Inv.adopt(I:Inv X pins σ H s)(He:H e=v7)(ok:ObjOk X.prog X.w H s.heap e (.ext φ))(ne:X.s₀.heap.get? e=v7)(hl:e≠X.env.locals)(hc:∀x c,X.env.cells.lookup x=be c->c≠e)(hp:∀p∈X.pn++pins,p.1≠e):Inv X pins σ (upd H e (.ext φ)) s:=by
 refine#[I.ok,I.os,I.bare,#[I.base.keep,I.base.slot,λb o q n hx=>?_,I.base.there,λb xs q=>?_,λb o u q=>?_,λb ps q=>?_],I.loc,I.cell,?_,λx c q=>?_,λp LM=>?_,λa o q=>?_,I.len]
 .have:b≠e:=λz=>by rw[z,ne]at q;cases q
  rw[ar this];exact I.base.free b o q n hx
 .have:=I.base.tups b xs q;rw[ar (bE this He)];exact this
 .have:=I.base.frzs b o u q;rw[ar (bE this He)];exact this
 .obtain⟨m,this⟩:=I.base.tbls b ps q;exact#[m,by rw[ar (bE this He)];exact this]
 .rw[ar (Ne.symm hl)];exact I.free
 .rw[ar (hc x c q)];exact I.freeC x c q
 .obtain⟨h1,h2,h3⟩:=I.pin p LM;refine#[h1,?_,h3];rw[ar (hp p LM)];exact h2
 .by_cases z:a=e
  .rw[z,aA]at q;cases q;rw[z];exact ok
  .rw[ar z]at q;exact(I.hok a o q).stay (λb u _ r=>r) (λb r=>by rw[ar (bE r He)];exact r) λb xs r=>by rw[ar (bE r He)];exact r
end
structure ErrK(K:Ex)(mg:Str->Option KB)(x:Str)(C N:KF)(bm:List KB):Prop where
 ns:nsIn K Pi x=be (be (.ref C))
 mg:mg x=be (.ref C)
 kp:keepIn K (.ref C)=true
 obj:∃nm q bs sn sub ab col dd k0 k1 k2 k3 k5,K.lookup C=be (Uo nm q C N bs bm true sn sub ab col dd k0 k1 k2 k3 k5 "ValueError.__new__")
 tail:tailIn K veLine bm=true
structure ErrN(K:Ex)(N:KF):Prop where
 ok:nsOkIn K N=true
 no:nsIn K N "__init__"=be v7
def kD{K:Ex}:∀{l:List KB},tailIn K veLine l=true->aN l=true
 |[],e=>by simp[tailIn,veLine]at e
 |v::r,e=>by
  unfold tailIn at e;rcases Bool.or_eq_true_iff.mp e with q|q
  .rw[beq_iff_eq.mp q];decide+kernel
  .split at q
   .split at q
    .simp only[Hj,beq_iff_eq]at q;unfold aN;exact kD q.2
    .cases q
   .cases q
variable{K:Ex}{mg:Kq->Option KB}{C N:KF}{bm:List KB}
def ErrK.base(k:ErrK K mg x C N bm):bm.contains (.type "BaseException")=true:=eN Lf (kD k.tail)
section
variable {X:Cx}[J:Jx]{x:Kq}{C N:KF}{bm:List KB}{e:SZ}{es:List SZ}{t:TDA}{p cpos pos:Ub}
def zG(x:Kq)(t:TDA):TSD:=λ_ z=>t z λds=>ds.length<=1000/\J.RX z x []
def zH(h:∃C N bm,ErrK X.K X.mg x C N bm/\ErrN X.K N)(hx:XOk X)(hc:X.calm=true)(ha:WDA X (e::es) t)(d9:autoParam (X.ex=[]) zA0)(hg:autoParam (Gl X x) zA0)(d5:autoParam (zND x) zA1)
  (he:autoParam (zSE X e es) zA0) (c7:autoParam (zPL X cpos es) zA0):WDS X (.Raise (be (.Call (.Name x p) (e::es) [] cpos)) v7 pos) (zG x t):=⟨by
 have ha:=ha.out;obtain⟨C,N,bm,k,kn⟩:=h;intro pins s σ H D I h;obtain⟨B,F0,F,z,kf,rs,ED,h,ee⟩:=h;obtain rfl:B=J.B:=kf.eb;obtain⟨nm,q,bs,sn,sub,ab,col,dd,k0,k1,k2,k3,k5,lk⟩:=k.obj;refine ke (nm:=nm) (q:=q) (C:=C) (N:=N) (bs:=bs) (bm:=bm) (hdct:=true) (sn:=sn) (sub:=sub) (ab:=ab) (col:=col) (dd:=dd) (k0:=k0) (k1:=k1) (k2:=k2) (k3:=k3) (k5:=k5) (newId:="ValueError.__new__") k.base (I.ok.hd hc) ?_;refine Uc (cx I hg k.mg ?_ d5);refine callWith_K (h₀:=X.base) I.ok.mod.kin k.kp (thn (ha cpos pins s σ H (λvs H1=>∃F1,vs.length<=1000/\Grow F H F1 H1/\J.RX z x []) I #[_,F,z,kf.kf,rs,_,h,λds vs F1 H1 g1 hx rx=>#[F1,by rw[rx.length];exact hx.1,g1,hx.2]]) λus s1 hh=>#[hh.elim λ_ h=>h.elim λ_ h=>h.1.kIn,?_]) he c7;obtain⟨vs,H1,I1,r,F1,hl,g1,hR⟩:=hh;have hC:=I1.kIn _ _ lk;obtain⟨hp,gg,dr,tk,os⟩:=s1;refine VJ PySem.F.excBase_ValueError (tail_of_in I1.kIn k.tail) hC (.of_isNs (isNs_of_in I1.kIn kn.ok)) (nsMap_none_of_in I1.kIn kn.ok kn.no) (λh' ea hm=>?_) (by show us.length<=_;rw[<-L2.Vals.length r];exact sz hl);obtain⟨ta,h1,h2,h3⟩:=hm.there;have I2:Inv X pins σ H1 #[h',gg,dr,tk,os]:=I1.kept (t':=tk) hm.keeps;refine#[ea,ta,v7,[].toArray,rfl,hm.keeps _ _ hC,h1,?_];exact hx σ z F1 H1 _ ea C v7 x [] (Inv.nopins I2) (kf.kf.grow g1) (rs.grow g1) hR #[k.ns,[],repf_nil.mpr rfl,.inl #[rfl,rfl]] #[fZ I1.hok hm.new,cI I1 d9 hm.new,pn_free I1 hm.new,.inl #[[].toArray,_,h1,rfl]]⟩
end
def XN(e C:KF)(od:Option KF):HO:=.ext λh=>∃t sl,h.get? e=be #[.ref C,od,.fields [.ref t,.none,.none,.none,.bool false,.none].toArray,sl]
variable{e:KF}{od:Option KF}{sl:Array (Option KB)}
def XN.ok{t:KF}(q:h.get? e=be #[.ref C,od,.fields [.ref t,.none,.none,.none,.bool false,.none].toArray,sl]):ObjOk P w H h e (XN e C od):=
 #[#[t,sl,q],#[_,q],λh1 h2 ⟨t,sl,q⟩ k=>#[t,sl,k _ q]]
def XN.get(x:HOk P w H h)(q:H e=be (XN e C od)):∃t sl,h.get? e=be #[.ref C,od,.fields [.ref t,.none,.none,.none,.bool false,.none].toArray,sl]:=(x e _ q).1
def ErrF(K:Ex)(F:Hp)(fs:List (Kq×D))(od:Option KF):Prop:=∃vs,RepF K F fs vs/\((od=v7/\vs=[])\/∃b,od=be b/\F b=be (.xd vs))
def lEi(K:Ex)(C:KF)(S:SiD):Sp:=λvs H Q _=>∃e us H1 F ds,vs=.ref e::us/\H=upd H1 e (XN e C v7)/\H1 e=v7/\Same F H1/\Reps K F ds us/\
 ∃R:List (Kq×D)->Prop,S ds R/\∀fs od F' H',Grow F H1 F' H'->R fs->H' e=be (XN e C od)->F' e=v7->ErrF K F' fs od->Q .non H'
def CalE(P:T3)(w:T5)(K:Ex)(mg:Kq->Option KB)(base:Heap)(n:Nat)(x:Kq)(ps:List Kq)(S:SiD):Prop:=
 ∃C N bm f fd,ErrK K mg x C N bm/\GT K (.ref C) "__init__"=be (be (.ref f))/\isFn K (.ref f)=true/\FnOk P w K mg base (CX1 P w) n f fd ps (lEi K C S)/\Binds K fd ps []
section
variable {X:Cx}{pins:List (KF×Uj)}{σ:L2.St}{H:Hp}{s:Os}{e:KF}
def Inv.newx{C:KF}{h':Heap}{us:List KB}(I:Inv X pins σ H s)(d9:X.ex=[])(hm:Heap.MadeExcOf s.heap h' e (.ref C) us):Inv X pins σ (upd H e (XN e C v7)) {s with heap:=h'}:=by
 obtain⟨ta,h1,h2,h3⟩:=hm.there;have I2:Inv X pins σ H {s with heap:=h'}:=I.kept (t':=s.toks) hm.keeps;refine Inv.adopt I2 (fZ I.hok hm.new) (XN.ok h1) (cI I d9 hm.new) (λz=>?_) (λx c q z=>?_) λp hp z=>?_
 .obtain⟨m,⟨o,_,_,ho,_⟩,_⟩:=I.loc;rw[<-z,hm.new]at ho;cases ho
 .obtain⟨v,o,ho,_⟩:=I.cell x c q;rw[z,hm.new]at ho;cases ho
 .have:=(I.pin p hp).1;rw[z,hm.new]at this;cases this
end
structure BaseK(K:Ex)(mg:Str->Option KB)(y:Str)(M:KF):Prop where
 mg:mg y=be (.ref M)
 rd:readsIn K M (.type "type")=true
 fc:findCls K (.ref M) (.type "type") "__init__"=be (.val (.builtin "ValueError.__init__"))
 sp:specialIn K (.ref M) "__getattribute__"=be (be (.builtin "type.__getattribute__"))
structure ErrA(K:Ex)(x:Str)(C:KF)(cd:Vq):Prop where
 ns:nsIn K Pi x=be (be (.ref C))
 cl:IZ K C=be cd
 mro:aN cd.mro=true
 hd:cd.hasDict=true
 sa:GT K (.ref C) "__setattr__"=be (be (.builtin "object.__setattr__"))
def ErrK.a(k:ErrK K mg x C N bm)(sa:GT K (.ref C) "__setattr__"=be (be (.builtin "object.__setattr__"))):∃cd,ErrA K x C cd:=by
 obtain⟨nm,q,bs,sn,sub,ab,col,dd,k0,k1,k2,k3,k5,lk⟩:=k.obj;exact⟨_,k.ns,by unfold IZ;rw[lk],by
  show aN (.ref C::bm)=true;unfold aN;exact kD k.tail,rfl,sa⟩
def lX(K:Ex)[J:Jx](x:Kq)(t:TID):TS:=λE σ H=>∃C e od ws F z fs,nsIn K Pi x=be (be (.ref C))/\σ[0]?=be (be (.ref e))/\H e=be (XN e C od)/\J.B e=v7/\F e=v7/\Kept J.B J.F0 F H/\RepS K J.B F H z σ/\RepF K F fs ws/\
 ((od=v7/\ws=[])\/∃b,od=be b/\H b=be (.xd ws)/\J.B b=v7/\F b=v7/\b≠e/\ws≠[])/\
 ∃R:List (Kq×D)->Prop,t z fs R/\∀l7 NF F' H',Kept J.B J.F0 F' H'->R l7->H' e=be (XN e C NF)->F' e=v7->ErrF K F' l7 NF->E.nx σ H'
abbrev DX(X:Cx)[Jx](x:Kq)(st:List SB)(t:TID):Prop:=PSs X st (lX X.K x t)
structure WDX(X:Cx)[Jx](x:Str)(st:List SB)(t:TID):Prop where
 out:DX X x st t
def tm{a:KF}{o:HO}(h:H a=be o):upd H a o=H:=by
 funext b;unfold upd;by_cases q:b=a
 .rw[if_pos q,q,h]
 .rw[if_neg q]
section
variable {X:Cx}[J:Jx]{x f:Kq}{e:SZ}{te:TD}{ta:TDA}{pos b_ p:Ub}{rest:List SB}{tr:TID}
def zI:WDX X x [] sV:=⟨pss_nil.anti λE s H q=>by
 obtain⟨C,a,od,ws,F,z,fs,hn,h0,e8,hB,i8,k,rs,rf,hd,R,hR,kk⟩:=q;rcases hd with⟨rfl,rfl⟩|⟨b,rfl,hb,NG,Lq,ne,_⟩
 .exact kk fs v7 F H k hR e8 i8 #[[],rf,.inl #[rfl,rfl]]
 .have s1:Same F (upd F b (.xd ws)):=aO Lq _;refine kk fs (be b) (upd F b (.xd ws)) H #[k.bh,λc o q=>?_,k.f0.trans s1,λc h1 h2=>?_,k.eb,k.jf,k.jo] hR e8 (by rw[ar (Ne.symm ne)];exact i8) #[ws,RepF.mono s1 fs ws rf,.inr #[b,rfl,aA]]
  .by_cases hc:c=b
   .subst hc;rw[aA]at q;cases q;exact hb
   .rw[ar hc]at q;exact k.fh c o q
  .have:c≠b:=λz=>h2 (z ▸ NG);rw[ar this];exact k.out c h1 h2⟩
def zJ(ta:TDA)(tr:TID):TID:=λz fs R=>ta z λds=>ds.length<=1000/\tr z fs R
def zK{y sx:Kq}{ps py apos cpos:Ub}{es:List SZ}{pl:Vz Bool}(hb:∃M,BaseK X.K X.mg y M)(hA:∃C cd,ErrA X.K x C cd)(ha:WDA X es ta)(hr:WDX X x rest tr)(hg:autoParam (Gl X y) zA0)(hN:autoParam (X.N[0]?=be sx) zA0)(hv:autoParam (Vis X.env.scope sx) zA5)(hd:autoParam (zND sx) zA1)
  (gt:autoParam (zNC sx) zA1) (RU:autoParam (zND y) zA1)
  (he:autoParam (T7 (.Name sx ps::es) X.env=(false,T_ (.Name sx ps) X.env)::T7 es X.env) zA0) (c7:autoParam (zPL X cpos es) zA0)
  (ht:T_ (.Call (.Attribute (.Name y py) "__init__" apos) (.Name sx ps::es) [] cpos) X.env=(do
   let ov <-T_ (.Name y py) X.env
   UO apos.atName
   let (f,first) <-Uu [ov] (U2 ov "__init__" pl)
   VF cpos f first (UD cpos (T7 (.Name sx ps::es) X.env)) (UW cpos (UB [] X.env))):=by rfl)
  (hs:autoParam (Uh (.Call (.Attribute (.Name y py) "__init__" apos) (.Name sx ps::es) [] cpos) v7 pos.line X.env=pure false) zA0):WDX X x (.Expr (.Call (.Attribute (.Name y py) "__init__" apos) (.Name sx ps::es) [] cpos) pos::rest) (zJ ta tr):=⟨by
 have ha:=ha.out;have hr:=hr.out;obtain⟨M,bk⟩:=hb;obtain⟨C,cd,er⟩:=hA;have step:PS X (.Expr (.Call (.Attribute (.Name y py) "__init__" apos) (.Name sx ps::es) [] cpos) pos) (λE σ H=>∃C' e od,nsIn X.K Pi x=be (be (.ref C'))/\σ[0]?=be (be (.ref e))/\
   lA X.K ta σ H (λvs H1=>H1 e=be (XN e C' od)/\vs.length<=1000/\E.nx σ H1)):=by
  intro pins s σ H D I h;obtain⟨C',ea,od,hn,h0,h⟩:=h;rw[er.ns]at hn;cases hn;refine wpAny_Expr_any (methodCall_KW (pl:=pl) (cx I hg bk.mg ?_ RU) ht) I.quiet hs;refine method_cls I.kIn bk.sp (cls_value I.kIn bk.rd bk.fc Lf ?_);have I0:Inv X pins σ H {s with toks:=s.toks+1}:=I.tok _;obtain⟨B,F,z,kf,rs,R,h1,h2⟩:=h;refine PyProof.Rows.callWith_builtin1 (thn (bv (cO (i:=0) hN hv hd gt) ha he cpos pins _ σ H (λvs H1=>∃us,vs=.ref ea::us/\H1 ea=be (XN ea C od)/\us.length<=1000/\D.nx σ H1) I0 #[.ref ea,h0,#[B,F,z,kf,rs,R,h1,λds vs F' H' g hx rx=>#[vs,rfl,h2 ds vs F' H' g hx rx]]]) λus s1 hh=>?_) he c7;obtain⟨vs,H1,I1,r,Tg,ev,t_,hl,Lr⟩:=hh;subst ev;cases r with
  |cons r1 r2=>
   rename_i u0 Th;obtain rfl:u0=Value.ref ea:=r1;obtain⟨t0,sl,j3⟩:=XN.get I1.hok t_;refine yu (K:=X.K) (C:=C) (cd:=cd) I1.kIn j3 rfl rfl er.cl er.mro (by rw[<-L2.Vals.length r2];exact sz hl) λh' g1 g2=>?_;refine#[σ,H1,?_,Lr];have w:=I1.write (x:=ea) (e:=ea) (o:=XN ea C od) (h':=h') (t':=s1.toks) (by rw[t_];exact True.intro) (.inl rfl) (λb u hb q=>g2 b u hb q) #[_,g1] (XN.ok g1);rw[tm t_]at w;exact w
 refine(eI step hr).anti λE s H q=>?_;obtain⟨C',a,od,ws,F,z,fs,hn,h0,e8,hB,i8,k,rs,rf,e_,R,hR,kk⟩:=q;refine#[C',a,od,hn,h0,_,F,z,k,rs,_,hR,λds vs F1 H1 g hx rx=>#[g.hh a _ e8,by rw[rx.length];exact hx.1,?_]];refine#[C',a,od,ws,F1,z,fs,hn,h0,g.hh a _ e8,hB,g.out a i8 (by rw[e8];exact λz=>nomatch z),k.grow g,rs.grow g,RepF.mono g.ff fs ws rf,?_,R,hx.2,kk];rcases e_ with e_|⟨b,h1,h2,h3,h4,h5⟩
 .exact .inl e_
 .exact .inr #[b,h1,g.hh b _ h2,h3,g.out b h4 (by rw[h2];exact λz=>nomatch z),h5]⟩
def zL(f:Kq)(te:TD)(tr:TID):TID:=λz fs R=>fs=[]/\te z λd=>tr z [(f,d)] R
def zM{sx:Kq}{ps:Ub}(hA:∃C cd,ErrA X.K x C cd)(hf:∀C,nsIn X.K Pi x=be (be (.ref C))->GT X.K (.ref C) f=be v7)(he:WDE X e te)(hr:WDX X x rest tr)(hN:autoParam (X.N[0]?=be sx) zA0)(hv:autoParam (Vis X.env.scope sx) zA5)(hd:autoParam (zND sx) zA1)
  (gt:autoParam (zNC sx) zA1) (hs:autoParam (Uh e (be (.Attribute (.Name sx ps) f b_)) pos.line X.env=pure false) zA0):WDX X x (.Assign [.Attribute (.Name sx ps) f b_] e pos::rest) (zL f te tr):=⟨by
 have he:=he.out;have hr:=hr.out;obtain⟨C,cd,er⟩:=hA;have Ls:=hf C er.ns;have step:PS X (.Assign [.Attribute (.Name sx ps) f b_] e pos) (λE σ H=>∃e,σ[0]?=be (be (.ref e))/\
   lE X.K te σ H (λv H1=>H1 e=be (XN e C v7)/\∀b,H1 b=v7->b≠e->E.nx σ (upd (upd H1 b (.xd [(f,v)])) e (XN e C (be b))))):=by
  intro pins s σ H D I h;obtain⟨ea,h0,h⟩:=h;refine UE (thn (he pins s σ H _ I h) λu s1 ⟨y,H1,I1,ry,t_,Lr⟩=>thn (cO (i:=0) hN hv hd gt pins s1 σ H1 (λv H'=>v=.ref ea/\H'=H1) I1 #[.ref ea,h0,rfl,rfl]) λov s2 hh=>?_) hs;obtain⟨v0,H2,I2,r0,e1,e2⟩:=hh;subst e1 e2;obtain rfl:ov=Value.ref ea:=r0;obtain⟨t0,sl,j3⟩:=XN.get I2.hok t_;refine yr (K:=X.K) (C:=C) (cd:=cd) I2.kIn j3 rfl rfl rfl er.cl er.mro er.hd er.sa Ls λh' g1 g2 g3 tk=>?_;have l9:H2 s2.heap.objs.size=none:=I2.hok.fresh (GO _);have j9:s2.heap.objs.size≠ea:=HB (Heap.lt_size j3);have Ow:∀b o,s2.heap.get? b=be o->b≠s2.heap.objs.size:=λb o q=>GW (Heap.lt_size q);have Ox:∀b,H2 b=v7->b≠ea:=λb q z=>by rw[z,t_]at q;cases q
  refine#[σ,_,?_,Lr _ l9 j9];have z_:∀b o,H2 b=be o->(∀φ,o≠.ext φ)->upd (upd H2 s2.heap.objs.size (.xd [(f,y)])) ea (XN ea C (be s2.heap.objs.size)) b=be o:=λb o q n=>by
   have n1:b≠ea:=λz=>by rw[z,t_]at q;cases q;exact n _ rfl
   rw[ar n1,ar (bE q l9)];exact q
  refine I2.un (h':=h') (t':=tk) #[λb o q n _ _=>g3 b o (Ox b n) q,λb o q n _ _=>#[o.slots,g3 b o (Ox b n) q],λb o q n _=>?_,λb o q _=>?_,λb xs q=>z_ b _ q (λφ z=>nomatch z),λb o u q=>z_ b _ q (λφ z=>nomatch z),λb ps q=>#[[].toArray,by rw[z_ b _ q (λφ z=>nomatch z)];simp]] λa o q=>?_
  .rw[ar (Ox b n),ar (Ow b o q)];exact n
  .by_cases hb:b=ea
   .rw[hb];exact#[_,g1]
   .exact#[o,g3 b o hb q]
  .by_cases ha:a=ea
   .subst ha;rw[aA]at q;cases q;exact XN.ok g1
   .rw[ar ha]at q;by_cases hb:a=s2.heap.objs.size
    .subst hb;rw[aA]at q;cases q;refine#[_,g2,λg=>?_];rw[G4];by_cases hg:g=f
     .subst hg;simp;exact ry
     .have:(g==f)=false:=by simpa using hg
      rw[this,if_neg hg];exact True.intro
    .rw[ar hb]at q;refine(I2.hok a o q).stay (λb u gV r=>?_) (λb r=>z_ b _ r (λφ z=>nomatch z)) λb xs r=>z_ b _ r (λφ z=>nomatch z);refine g3 b u (λz=>?_) r;rcases gV with e1|e1
     .exact ha (e1 ▸ z)
     .rw[z,t_]at e1;cases e1
 refine(eI step hr).anti λE s H q=>?_;obtain⟨C',a,od,ws,F,z,fs,hn,h0,e8,hB,i8,k,rs,rf,e_,R,⟨rfl,hR⟩,kk⟩:=q;rw[er.ns]at hn;cases hn;have RV:ws=[]:=repf_nil.mp rf;subst RV;refine#[a,h0,_,F,z,k,rs,_,hR,λd v F1 H1 g hx rv=>?_];have KE:F1 a=none:=g.out a i8 (by rw[e8];exact λz=>nomatch z);have k1:=k.grow g;rcases e_ with⟨rfl,_⟩|⟨b,rfl,h1,h2,h3,h4⟩
 .refine#[g.hh a _ e8,λb hb j9=>?_];have NG:J.B b=none:=k1.bh.free hb;have Lq:F1 b=none:=k1.fh.free hb;have Vc:∀{G:Hp},G a=v7->G b=v7->Same G H1->Same G (upd (upd H1 b (.xd [(f,v)])) a (XN a C (be b))):=λ{G} ga gb gs c o q=>by
   have n1:c≠a:=λz=>by rw[z,ga]at q;cases q
   have n2:c≠b:=λz=>by rw[z,gb]at q;cases q
   rw[ar n1,ar n2];exact gs c o q
  have n4:=rs.grow g;refine#[C,a,be b,[(f,v)],F1,z,[(f,d)],er.ns,h0,aA,hB,KE,#[Vc hB NG k1.bh,Vc KE Lq k1.fh,k1.f0,k1.out,k1.eb,k1.jf,k1.jo],?_,repf_cons.mpr #[v,[],rfl,rv,repf_nil.mpr rfl],.inr #[b,rfl,by rw[ar j9];exact aA,NG,Lq,j9,λz=>nomatch z],R,hx,kk];refine#[n4.len,n4.val,λi ds e'=>?_,n4.apart];obtain⟨c,vs,q1,q2,q⟩:=n4.own i ds e';have n1:c≠a:=λz=>by rw[z,g.hh a _ e8]at q2;cases q2
  have n2:c≠b:=λz=>by rw[z,hb]at q2;cases q2
  exact#[c,vs,q1,by rw[ar n1,ar n2];exact q2,q]
 .exact absurd rfl h4.2⟩
end
section
variable {P:T3}{w:T5}{K:Ex}{mg:Kq->Option KB}{base:Heap}
def Cls.okE{x qual:Kq}{st:SB}{f C N0:KF}{bm:List KB}{fd:Ua}{N:List Kq}{p0:Kq}{ps:List Kq}{k:Nat}{S:SiD}(T:Fun K "__init__" qual st f fd)(hb:Binds K fd (p0::ps) [])(F:FnScope (p0::N) (p0::ps) (ah st))(len:∀ds R,S ds R->ds.length=ps.length)
  (ek:ErrK K mg x C N0 bm) (hi:GT K (.ref C) "__init__"=be (be (.ref f))) (hf:isFn K (.ref f)=true)
  (a8:∀(cdv:KB) (A:T6) (outer:List UP) (s:Os) (H:Hp) (E:XK) (J:Jx),Room k (A.deeper (Ud qual (ah st) s.heap.objs.size f cdv))->
   ∃t,DX (cxOf (CX1 P w) P w K mg base (p0::N) qual (ah st) f cdv A outer s H E).nox x (aJ st) t/\∀ds R,S ds R->t (v7::startD N ds) [] R):CalE P w K mg base (k+1) x (p0::ps) S:=by
 refine#[C,N0,bm,f,fd,ek,hi,hf,Fun.okC T F (λvs H Q E h=>?_) (λcdv A outer s H vs Q E hr h=>?_),hb]
 .obtain⟨a,us,H1,F,ds,rfl,_,_,_,rs,R,h,_⟩:=h;rw[GV,GV,rs.length,len ds R h]
 .obtain⟨a,us,H1,F1,ds,rfl,rfl,ha,fh,rs,R,h,q⟩:=h
  letI:Jx:=#[H1,F1,λ_ _ _=>False]
  obtain⟨t,ht,hq⟩:=a8 cdv A outer s _ E inferInstance hr;have Fa:F1 a=none:=fh.free ha;have hl:L2.start (p0::N) (.ref a::us)=be (.ref a)::L2.start N us:=by
   unfold L2.start;rw[G8,GV,GV,JI];rfl
  have s1:Same H1 (upd H1 a (XN a C v7)):=aO ha _;refine#[_,ht.nox,C,a,v7,[],F1,v7::startD N ds,[],ek.ns,by rw[hl];rfl,aA,ha,Fa,#[s1,fh.trans s1,Same.refl F1,λ_ h _=>h,rfl,Same.refl F1,λ_ h _=>h],?_,repf_nil.mpr rfl,.inl #[rfl,rfl],R,hq ds R h,λl7 NF F' H' g hR e8 i8 er=>q l7 NF F' H' #[g.f0,g.fh,g.bh,g.out] hR e8 i8 er];rw[hl];exact sW (dL rs)
end
section
variable {M:VG}{A:T6}{E:KB->Os->Prop}{h:Heap}{g:Array VH}{d:Drawn}{t:Nat}{os:OsState}
variable {nm q:Kq}{C N:KF}{bs bm:List KB}{hdct:Bool}{sn:List Kq}{sub:List KB}{ab:Bool}{col:Option Bool}{dd:Option KF}{k0 k1 k2 k3 k5:Option KB}{newId:String}
variable {Oy q':Kq}{C' N':KF}{Oz MF:List KB}{MG:Bool}{OA:List Kq}{Lu:List KB}{OB:Bool}{Lv:Option Bool}{MH:Option KF}{OC OD OE OF OG:Option KB}{Lw:String}
def tw{e:KF}{oe:Uj}{b:Bool}{Q:Bool->Os->Prop}(hC:h.get? C=be (Uo nm q C N bs bm hdct sn sub ab col dd k0 k1 k2 k3 k5 newId))(hD:h.get? C'=be (Uo Oy q' C' N' Oz MF MG OA Lu OB Lv MH OC OD OE OF OG Lw))
  (he:h.get? e=be oe) (y9:oe.cls=.ref C) (b8:MF.contains (.type "BaseException")=true) (hb:(Value.ref C::bm).contains (.ref C')=b) (hq:Q b #[h,g,d,t,os]):T4 M A (excMatches (.ref e) (.ref C')) Q E #[h,g,d,t,os]:=by
 have Od:(Value.ref C'::MF).contains (.type "BaseException")=true:=by rw[IV,b8,IF]
 have f:=tc_notTuple;unfold excMatches
 repeat(first|(with_reducible refine Uk he ?_;rw[y9])|with_reducible refine Uk hD ?_|(with_reducible refine UN hD ?_;rw[Od])|(with_reducible refine UN hC ?_;rw[hb])|wp_step)
 cases b with
 |true=>wp_walk;exact hq
 |false=>wp_walk;exact hq
end
abbrev _root_.L2.Cx.held(X:Cx)(e:KF):Cx:={X with A:=X.A.mark (be (.ref e)),calm:=false,xe:=λ_ _=>False}
section
variable {X:Cx}{pins:List (KF×Uj)}{σ:L2.St}{H:Hp}{s:Os}{e:KF}
def Cx.Ok.held(ok:X.Ok):(X.held e).Ok:=
 #[ok.mod,ok.kind,ok.glob,ok.blt,ok.above,ok.inj,ok.has,ok.cab,(λz=>nomatch z),ok.frames,ok.stk,ok.exf,ok.bs,ok.bsz,ok.noex,ok.exfs,ok.funs,ok.frf]
def Inv.held(I:Inv X pins σ H s):Inv (X.held e) pins σ H s:=#[Cx.Ok.held I.ok,I.os,I.bare,I.base,I.loc,I.cell,I.free,I.freeC,I.pin,I.hok,I.len]
def Inv.unheld(ok:X.Ok)(I:Inv (X.held e) pins σ H s):Inv X pins σ H s:=#[ok,I.os,I.bare,I.base,I.loc,I.cell,I.free,I.freeC,I.pin,I.hok,I.len]
def SP.unheld{D:Ends}{f:Flow}{s':Os}(ok:X.Ok)(h:SP (X.held e) pins D f s'):SP X pins D f s':=by
 cases f with
 |next=>obtain⟨σ',H',I,q⟩:=h;exact#[σ',H',Inv.unheld ok I,q]
 |brk=>obtain⟨σ',H',I,q⟩:=h;exact#[σ',H',Inv.unheld ok I,q]
 |cont=>obtain⟨σ',H',I,q⟩:=h;exact#[σ',H',Inv.unheld ok I,q]
 |ret u=>obtain⟨v,σ',H',I,r,q⟩:=h;exact#[v,σ',H',Inv.unheld ok I,r,q]
def gY{M:VG}{A:T6}{E:KB->Os->Prop}{i:Nat}{x:Kq}{pos:Ub}{Q:Unit->Os->Prop}(I:Inv X pins σ H s)(hN:X.N.Nodup)(hi:X.N[i]?=be x)(hk:X.env.scope.names.lookup x=be .local)
  (h:∀s',Inv X pins (σ.set i v7) H s'->Q () s'):T4 M A (do Vj X.env x .none;unbindBehindTheSuite X.env x pos) Q E s:=by
 obtain⟨m,hn,hl⟩:=id I.loc;have y9:(X.env.scope.kind== .class||(X.env.scope.kind== .module&&X.env.locals !=X.env.globals))=false:=by rw[I.ok.kind];rfl
 have hiσ:i<σ.length:=by rw[I.len];exact(G1.mp hi).1
 have cne:=I.cne;refine wpAny_nameGoes_keeps hk hn y9 λh' v g8 hs=>?_;obtain⟨oL,_,_,Qj,_⟩:=id hn;have ge:HOk X.prog X.w H h':=λb ob e=>by
  refine(I.hok b ob e).stay (λc w' hc q=>(hs.2 c ?_).trans q) (λ_ q=>q) λ_ _ q=>q;rintro rfl;rcases hc with rfl|hc
  .rw[I.free]at e;cases e
  .rw[I.free]at hc;cases hc
 refine h _ #[I.ok,I.os,I.bare,#[λb o e n hb hx=>?_,λb o e n hb hx=>?_,I.base.free,λb o e hx=>?_,I.base.tups,I.base.frzs,I.base.tbls],#[_,g8,λj y v' e1 e2 e3=>?_],λy c e=>?_,I.free,I.freeC,λp hp=>?_,ge,by simpa using I.len]
 .exact(hs.2 b (GW (Ha (Heap.lt_size e) I.ok.above))).trans (I.base.keep b o e n hb hx)
 .obtain⟨sl,e1⟩:=I.base.slot b o e n hb hx;exact#[sl,(hs.2 b (GW (Ha (Heap.lt_size e) I.ok.above))).trans e1]
 .obtain⟨o',e1⟩:=I.base.there b o e hx;exact#[o',(hs.2 b (GW (Ha (Heap.lt_size e) I.ok.above))).trans e1]
 .by_cases hj:j=i
  .subst hj;rw[Ht hiσ]at e2;cases e2
  .rw[G2 (Ne.symm hj)]at e2;obtain⟨u',r',q⟩:=hl j y v' e1 e2 e3;refine#[u',r',?_];rcases q with⟨k,e⟩|⟨k,c,e,z⟩
   .refine .inl #[k,?_];have:y≠x:=λe=>hj (jG hN e1 (e ▸ hi));simp[this,e]
   .exact .inr #[k,c,e,z.sameBut hs (cne y c e)]
 .obtain⟨w',z⟩:=I.cell y c e;exact#[w',z.sameBut hs (cne y c e)]
 .obtain⟨e,n,ne,nf,d⟩:=I.pin p hp;exact#[(hs.2 p.1 ne).trans e,n,ne,nf,d]
def Inv.stay{h':Heap}{l7 ex:List KF}(I:Inv X pins σ H s)(st:Stay l7 ex s.heap h')(NA:∀b∈l7,b∈frs X.stack)(hH:∀b∈ex,H b=v7)(h0:∀b∈ex,X.s₀.heap.get? b=v7)(hL:∀b∈ex,b≠X.env.locals)(hc:∀b∈ex,∀x c,X.env.cells.lookup x=be c->c≠b)
  (hp:∀b∈ex,∀p∈X.pn++pins,p.1≠b):Inv X pins σ H {s with heap:=h'}:=by
 have hok:HOk X.prog X.w H h':=fQ I.hok st (λb hb=>I.stkFree b (NA b hb)) hH;have sub:∀b∈l7,b=X.env.locals\/b∈X.fs:=λb hb=>GP.mp (I.stkSub b (NA b hb));have nL:∀b o,X.s₀.heap.get? b=be o->b≠X.env.locals:=λb o q=>GW (Ha (Heap.lt_size q) I.ok.above);have QJ:∀b o,X.s₀.heap.get? b=be o->b∉ex:=λb o q z=>by rw[h0 b z]at q;cases q
 have m4:∀x c v,X.env.cells.lookup x=be c->s.heap.IsCell c v->h'.IsCell c v:=λx c v e ⟨o,ho,hd⟩=>by
  obtain⟨sl,z⟩:=st.slot c o ho (λz=>hc c z x c e rfl);exact#[_,z,hd]
 refine#[I.ok,I.os,I.bare,#[λb o e n hb hx=>?_,λb o e n hb hx=>?_,I.base.free,λb o e hx=>?_,I.base.tups,I.base.frzs,I.base.tbls],?_,λy c e=>?_,I.free,I.freeC,λp LM=>?_,hok,I.len]
 .exact st.keep b o (I.base.keep b o e n hb hx) (QJ b o e) (λz=>(sub b z).elim (nL b o e) hb)
 .obtain⟨sl,e1⟩:=I.base.slot b o e n hb hx;obtain⟨v4,e2⟩:=st.slot b _ e1 (QJ b o e);exact#[v4,e2]
 .obtain⟨o',e1⟩:=I.base.there b o e hx;exact st.there b o' e1
 .obtain⟨m,⟨o,es,ep,ho,r⟩,hl⟩:=I.loc;obtain⟨sl,z⟩:=st.slot _ o ho (λz=>hL _ z rfl);refine#[m,#[_,es,ep,z,r],λj y v' e1 e2 e3=>?_];obtain⟨u',r',q⟩:=hl j y v' e1 e2 e3;refine#[u',r',?_];rcases q with q|⟨k,c,e,z⟩
  .exact .inl q
  .exact .inr #[k,c,e,m4 y c _ e z]
 .obtain⟨w',z⟩:=I.cell y c e;exact#[w',m4 y c _ e z]
 .obtain⟨e,n,ne,nf,d⟩:=I.pin p LM;exact#[st.keep _ _ e (λz=>hp _ z p LM rfl) (λz=>(sub _ z).elim ne nf),n,ne,nf,d]
end
def subE(x c:Kq):Bool:=x==c||c=="MotifError"
structure ErrsK(K:Ex)(mg:Str->Option KB)(es:List Str):Prop where
 cls:∀x∈es,∃C N bm,ErrK K mg x C N bm
 sub:∀x∈es,∀y∈es,∀C C',nsIn K Pi x=be (be (.ref C))->nsIn K Pi y=be (be (.ref C'))->Hy K C (.ref C')=be (subE x y)
def ErrsK.has{es:List Kq}(k:ErrsK K mg es){y:Kq}{C' N':KF}{MF:List KB}(hx:x∈es)(hy:y∈es)(a:ErrK K mg x C N bm)(b:ErrK K mg y C' N' MF):(Value.ref C::bm).contains (.ref C')=subE x y:=by
 have h:=k.sub x hx y hy C C' a.ns b.ns;obtain⟨nm,q,bs,sn,sub,ab,col,dd,k0,k1,k2,k3,k5,lk⟩:=a.obj;unfold Hy IZ at h;rw[lk]at h;simp only[Ik,List.isEmpty_cons,Bool.false_eq_true,if_false,Option.some.injEq]at h;exact h
structure Held(X:Cx)(pins:List (KF×Uj))(H:Hp)(s:Os)(e C:KF)(od:Option KF)(T:KF):Prop where
 ex:ExAt s.heap e C od T .none
 He:H e=v7
 HT:H T=v7
 e0:X.s₀.heap.get? e=v7
 T0:X.s₀.heap.get? T=v7
 eP:∀p∈X.pn++pins,p.1≠e
 TP:∀p∈X.pn++pins,p.1≠T
section
variable {X:Cx}{pins:List (KF×Uj)}{σ:L2.St}{H:Hp}{s:Os}
variable{vs:Array KB}
def gZ{b:KF}{o:Uj}(I:Inv X pins σ H s)(h:s.heap.get? b=be o)(hd:o.data=.fields vs):b≠X.env.locals:=λz=>by
 obtain⟨m,⟨o',es,ep,ho,e_,_⟩,_⟩:=I.loc;rw[<-z,h]at ho;cases ho;rw[hd]at e_;cases e_
def fld_cell{b:KF}{o:Uj}(I:Inv X pins σ H s)(h:s.heap.get? b=be o)(hd:o.data=.fields vs):∀x c,X.env.cells.lookup x=be c->c≠b:=λx c q z=>by
 obtain⟨v,o',ho,e_⟩:=I.cell x c q;rw[z,h]at ho;cases ho;rw[hd]at e_;cases e_
variable{od:Option KF}
def Held.flight{e C T:KF}{h':Heap}(I:Inv X pins σ H s)(k:Held X pins H s e C od T)(hx:ExAt h' e C od T .none)(st:Stay [] [T] s.heap h'):Inv X pins σ H {s with heap:=h'}/\Held X pins H {s with heap:=h'} e C od T:=by
 obtain⟨sl,vs,oT,ts,he,h1,v8,hT,k_,h3⟩:=k.ex;refine#[Inv.stay I st (λb hb=>by cases hb) (λb hb=>?_) (λb hb=>?_) (λb hb=>?_) (λb hb=>?_) (λb hb=>?_),#[hx,k.He,k.HT,k.e0,k.T0,k.eP,k.TP]]<;>rw[GN.mp hb]
 .exact k.HT
 .exact k.T0
 .exact gZ I hT k_
 .exact fld_cell I hT k_
 .exact k.TP
def XO.ok{P:T3}{w:T5}{h:Heap}{e C:KF}{sl:Array (Option KB)}(q:h.get? e=be #[.ref C,od,.fields vs,sl]):ObjOk P w H h e (XO e C od):=
 #[#[vs,sl,q],#[_,q],λh1 h2 ⟨vs,sl,q⟩ k=>#[vs,sl,k _ q]]
end
def RepS.unset{B F:Hp}{z:SD}{s:L2.St}{i:Nat}(h:RepS K B F H z s):RepS K B F H (z.set i v7) (s.set i v7):=by
 have get:∀{j:Nat} {x:D},(z.set i v7)[j]?=be (be x)->j≠i/\z[j]?=be (be x):=λ{j x} e=>by
  by_cases hj:i=j
  .subst hj;rw[HM]at e;simp at e
  .rw[G2 hj]at e;exact#[λz=>hj z.symm,e]
 refine#[by rw[Hx,Hx];exact h.len,λj x e nx=>?_,λj ds e=>?_,λj k dj dk a e1 e2 e3 e4=>?_]
 .obtain⟨hj,e⟩:=get e;rw[G2 (λz=>hj z.symm)];exact h.val j x e nx
 .obtain⟨hj,e⟩:=get e;rw[G2 (λz=>hj z.symm)];exact h.own j ds e
 .obtain⟨hj,e1⟩:=get e1;obtain⟨hk,e2⟩:=get e2;rw[G2 (λz=>hj z.symm)]at e3;rw[G2 (λz=>hk z.symm)]at e4;exact h.apart j k dj dk a e1 e2 e3 e4
abbrev TH:=Kq->List (Kq×D)->TSD
def DH(X:Cx)[J:Jx](hs:List Uz)(th:TH):Prop:=
 ∀(pins:List (KF×Uj)) (s:Os) (σ:L2.St) (H:Hp) (D:Ends) (e C:KF) (od:Option KF) (T:KF) (x:Kq) (fs:List (Kq×My.D)) (B F0 F:Hp) (z:SD) (ED:EndsD),Inv X pins σ H s->Held X pins H s e C od T->Kept B F0 F H->RepS X.K B F H z σ->ErrD X.K F x fs C od->
  th x fs ED z->EndsOk X.K B F0 ED D->T4 (SL X.prog X.w) X.A (Vh (.ref e) X.env hs) (SP X pins D) X.xe s
structure WDH(X:Cx)[Jx](hs:List Uz)(th:TH):Prop where
 out:DH X hs th
section
variable {X:Cx}[J:Jx]{es:List Kq}{c:Kq}{b₀:SB}{t6:List SB}{pos pc:Ub}{rest:List Uz}{t:TSD}{r:TH}
def zN:TH:=λ_ _ _ _=>False
def zO(es:List Kq)(c:Kq)(t:TSD)(r:TH):TH:=λx fs E z=>(x∈es/\c∈es)/\if subE x c=true then t E z else r x fs E z
def dHas(es:List Kq)(c:Kq)(i:Nat)(t:TSD)(r:TH):TH:=λx fs E z=>(x∈es/\c∈es)/\if subE x c=true then t {nx:=λz'=>E.nx (z'.set i v7),rt:=E.rt,bk:=λz'=>E.bk (z'.set i v7),ct:=λz'=>E.ct (z'.set i v7)} (z.set i (be (.exc x fs)))else r x fs E z
def tz:WDH X [] zN:=#[λ_ _ _ _ _ _ _ _ _ _ _ _ _ _ _ _ _ _ _ _ _ h _=>h.elim]
def zP(hE:ErrsK X.K X.mg es)(hs:∀e,WDSs (X.held e) (b₀::t6) t)(hr:WDH X rest r)(hg:autoParam (Gl X c) zA0)(d5:autoParam (zND c) zA1):WDH X (.ExceptHandler (be (.Name c pc)) v7 (b₀::t6) pos::rest) (zO es c t r):=⟨by
 have hs:=λe=>(hs e).out;have hr:=hr.out;intro pins s σ H D e C od T x fs B F0 F z ED I hd k rs er ht ee;obtain⟨⟨MI,MJ⟩,ht⟩:=ht;obtain⟨Cc,Nc,RW,kc⟩:=hE.cls c MJ;obtain⟨KG,Nx,RY,kx⟩:=hE.cls x MI;obtain rfl:KG=C:=by have h1:=kx.ns;rw[er.1]at h1;cases h1;rfl
 have hb:=hE.has MI MJ kx kc;obtain⟨nm,q,bs,sn,sub,ab,col,dd,k0,k1,k2,k3,k5,lk⟩:=kx.obj;obtain⟨Oy,q',Oz,OA,Lu,OB,Lv,MH,OC,OD,OE,OF,OG,OH⟩:=kc.obj;refine VI (VB (cx (X:=X.held e) (Inv.held I) hg kc.mg ?_ d5)) (by intro q;cases q);obtain⟨sl,vs,oT,ts,he,h1,v8,hT,k_,h3⟩:=id hd.ex;refine tw (g:=s.gens) (d:=s.drawn) (t:=s.toks) (os:=s.os) (I.kIn _ _ lk) (I.kIn _ _ OH) he rfl kc.base hb ?_;cases A':subE x c with
 |true=>
  rw[A',if_pos rfl]at ht;refine codeAny_handlers_suite (flight_none hd.ex λh' f7 v5=>?_);obtain⟨I',_⟩:=Held.flight I hd f7 v5;exact Ug (hs e pins _ σ H D (Inv.held I') #[B,F0,F,z,k,rs,ED,ht,ee]) (λf s1 q=>SP.unheld I.ok q) λ_ _ z=>False.elim z
 |false=>
  rw[A',if_neg G3]at ht;exact hr pins s σ H D e KG od T x fs B F0 F z ED I hd k rs er ht ee⟩
def zQ(i:Nat){n:Kq}(hE:ErrsK X.K X.mg es)(hN:X.N.Nodup)(hs:∀e,WDSs (X.held e) (b₀::t6) t)(hr:WDH X rest r)(hg:autoParam (Gl X c) zA0)(hi:autoParam (X.N[i]?=be n) zA0)(hk:autoParam (X.env.scope.names.lookup n=be .local) zA0)(d5:autoParam (zND c) zA1):WDH X (.ExceptHandler (be (.Name c pc)) (be n) (b₀::t6) pos::rest) (dHas es c i t r):=⟨by
 have hs:=λe=>(hs e).out;have hr:=hr.out;intro pins s σ H D e C od T x fs B F0 F z ED I hd k rs er ht ee;obtain⟨⟨MI,MJ⟩,ht⟩:=ht;obtain⟨Cc,Nc,RW,kc⟩:=hE.cls c MJ;obtain⟨KG,Nx,RY,kx⟩:=hE.cls x MI;obtain rfl:KG=C:=by have h1:=kx.ns;rw[er.1]at h1;cases h1;rfl
 have hb:=hE.has MI MJ kx kc;obtain⟨nm,q,bs,sn,sub,ab,col,dd,k0,k1,k2,k3,k5,lk⟩:=kx.obj;obtain⟨Oy,q',Oz,OA,Lu,OB,Lv,MH,OC,OD,OE,OF,OG,OH⟩:=kc.obj;refine VI (VB (cx (X:=X.held e) (Inv.held I) hg kc.mg ?_ d5)) (by intro q;cases q);obtain⟨sl,vs,oT,ts,he,h1,v8,hT,k_,h3⟩:=id hd.ex;refine tw (g:=s.gens) (d:=s.drawn) (t:=s.toks) (os:=s.os) (I.kIn _ _ lk) (I.kIn _ _ OH) he rfl kc.base hb ?_;cases A':subE x c with
 |true=>
  rw[A',if_pos rfl]at ht;refine codeAny_handlers_suite_as (flight_none hd.ex λh' f7 v5=>?_);obtain⟨I',e_⟩:=Held.flight I hd f7 v5;obtain⟨v4,m_,_,_,OI,_⟩:=id f7;have I2:Inv X pins σ (upd H e (XO e KG od)) {s with heap:=h'}:=Inv.adopt I' hd.He (XO.ok OI) hd.e0 (gZ I' OI rfl) (fld_cell I' OI rfl) hd.eP;refine eF (X:=X.held e) (v:=.ref e) (Inv.held I2) hN hi (.inl hk) rfl (λs2 I3=>?_) (.inr hk);have g:=Grow.new k.fh hd.He (XO e KG od);obtain⟨ns,ws,rf,OJ⟩:=er;have RZ:Rep X.K (upd F e (XO e KG od)) (.exc x fs) (.ref e):=rep_exc.mpr #[e,KG,od,ws,rfl,ns,aA,RepF.mono g.ff fs ws rf,OJ.imp id λ⟨b,q1,q2⟩=>#[b,q1,g.ff _ _ q2]];have R1:EndsOk X.K B F0 {nx:=λz'=>ED.nx (z'.set i v7),rt:=ED.rt,bk:=λz'=>ED.bk (z'.set i v7),ct:=λz'=>ED.ct (z'.set i v7)} {nx:=λσ' H'=>D.nx (σ'.set i v7) H',rt:=D.rt,bk:=λσ' H'=>D.bk (σ'.set i v7) H',ct:=λσ' H'=>D.ct (σ'.set i v7) H'}:=
   #[λz' s' F' H' k hz r=>ee.nx _ _ F' H' k hz (RepS.unset r),ee.rt,λz' s' F' H' k hz r=>ee.bk _ _ F' H' k hz (RepS.unset r),λz' s' F' H' k hz r=>ee.ct _ _ F' H' k hz (RepS.unset r)]
  refine Ug (hs e pins s2 _ _ _ I3 #[B,F0,_,_,k.grow g,(rs.grow g).set RZ,_,ht,R1]) (λf s3 q=>?_) λ_ _ z=>False.elim z;have q':=SP.unheld I.ok q;cases f with
  |next=>obtain⟨σ',H',I4,q4⟩:=q';exact gY I4 hN hi hk λs5 I5=>#[_,H',I5,q4]
  |brk=>obtain⟨σ',H',I4,q4⟩:=q';exact gY I4 hN hi hk λs5 I5=>#[_,H',I5,q4]
  |cont=>obtain⟨σ',H',I4,q4⟩:=q';exact gY I4 hN hi hk λs5 I5=>#[_,H',I5,q4]
  |ret u=>obtain⟨v,σ',H',I4,rv,q4⟩:=q';exact gY I4 hN hi hk λs5 I5=>#[v,_,H',I5,rv,q4]
 |false=>
  rw[A',if_neg G3]at ht;exact hr pins s σ H D e KG od T x fs B F0 F z ED I hd k rs er ht ee⟩
end
abbrev _root_.L2.Cx.tried(X:Cx)(pn:List (KF×Uj))(xe:KB->Os->Prop):Cx:={X with pn:=pn,xe:=xe}
section
variable {X:Cx}{pn pins:List (KF×Uj)}{xe:KB->Os->Prop}{σ:L2.St}{H:Hp}{s:Os}
def Cx.Ok.tried(ok:X.Ok):(X.tried pn xe).Ok:=#[ok.mod,ok.kind,ok.glob,ok.blt,ok.above,ok.inj,ok.has,ok.cab,ok.hd,ok.frames,ok.stk,ok.exf,ok.bs,ok.bsz,ok.noex,ok.exfs,ok.funs,ok.frf]
def Inv.tried(I:Inv X pins σ H s):Inv (X.tried (X.pn++pins) xe) [] σ H s:=#[Cx.Ok.tried I.ok,I.os,I.bare,I.base,I.loc,I.cell,I.free,I.freeC,λp hp=>I.pin p (by simpa using hp),I.hok,I.len]
def Inv.untried(ok:X.Ok)(I:Inv (X.tried (X.pn++pins) xe) [] σ H s):Inv X pins σ H s:=#[ok,I.os,I.bare,I.base,I.loc,I.cell,I.free,I.freeC,λp hp=>I.pin p (by simpa using hp),I.hok,I.len]
def SP.untried{D:Ends}{f:Flow}{s':Os}(ok:X.Ok)(h:SP (X.tried (X.pn++pins) xe) [] D f s'):SP X pins D f s':=by
 cases f with
 |next=>obtain⟨σ',H',I,q⟩:=h;exact#[σ',H',Inv.untried ok I,q]
 |brk=>obtain⟨σ',H',I,q⟩:=h;exact#[σ',H',Inv.untried ok I,q]
 |cont=>obtain⟨σ',H',I,q⟩:=h;exact#[σ',H',Inv.untried ok I,q]
 |ret u=>obtain⟨v,σ',H',I,r,q⟩:=h;exact#[v,σ',H',Inv.untried ok I,r,q]
end
def zR{h₀:Uz}{hs:List Uz}{σ':L2.St}{H':Hp}{s':Os}{D:Ends}{xe:KB->Os->Prop}(I2:Inv X pins σ' H' s')
  (hd:Exd (X.tried (X.pn++pins) xe) H' s' e C od) (d9:X.ex=[]) (A_:X.stack=X.env::X.outer) (l9:X.env.frame=be X.env.locals)
  (hh:∀s4 T2,Inv X pins σ' H' s4->Held X pins H' s4 e C od T2->T4 (SL X.prog X.w) X.A (Vh (.ref e) X.env (h₀::hs)) (SP X pins D) X.xe s4):
  T4 (SL X.prog X.w) X.A (UV (.ref e) X.env) (λ_ s₂=>T4 (SL X.prog X.w) X.A (U' (.ref e) v7) (λ_ s₃=>T4 (SL X.prog X.w) X.A (Vh (.ref e) X.env (h₀::hs)) (SP X pins D) X.xe s₃) X.xe s₂) X.xe s':=by
 obtain⟨He,e0,eP,hd⟩:=hd;have stk:s'.heap.FunFrames X.base (X.env::X.outer):=by rw[<-A_];exact I2.stack
 have QK:X.A.frames=be (X.env::X.outer):=by rw[<-A_];exact I2.ok.frames
 have d_:∀(u6:Heap) (T2:KF) (ex:List KF),(∀b∈ex,H' b=v7/\X.s₀.heap.get? b=v7/\(∃o vs,s'.heap.get? b=be o/\o.data=.fields vs)/\∀p∈X.pn++pins,p.1≠b)->ExAt u6 e C od T2 (UX X.env.locals)->s'.heap.objs.size<=T2->Stay (frs (X.env::X.outer)) ex s'.heap u6->
   T4 (SL X.prog X.w) X.A (U' (.ref e) v7) (λ_ s₃=>T4 (SL X.prog X.w) X.A (Vh (.ref e) X.env (h₀::hs)) (SP X pins D) X.xe s₃) X.xe {s' with heap:=u6}:=by
  intro u6 T2 ex B_ n9 z9 t7;have Kw:s'.heap.get? T2=none:=Heap.get?_none_of_le z9;have I3:Inv X pins σ' H' {s' with heap:=u6}:=Inv.stay I2 t7 (λb hb=>by rw[A_];exact hb) (λb hb=>(B_ b hb).1) (λb hb=>(B_ b hb).2.1) (λb hb=>let ⟨_,_,q1,q2⟩:=(B_ b hb).2.2.1;gZ I2 q1 q2) (λb hb=>let ⟨_,_,q1,q2⟩:=(B_ b hb).2.2.1;fld_cell I2 q1 q2) (λb hb=>(B_ b hb).2.2.2);obtain⟨sl,vs,oT,ts,he,g1,v8,hT,k_,g3⟩:=id n9;have KZ:H' T2=none:=fZ I2.hok Kw;have T0:X.s₀.heap.get? T2=none:=cI I2 d9 Kw;have TP:∀p∈X.pn++pins,p.1≠T2:=λp hp z=>by
   have:=(I2.pin p hp).1;rw[z,Kw]at this;cases this
  refine flight_none (s:={s' with heap:=u6}) n9 λh3 Mx I_=>?_;have I4:Inv X pins σ' H' {s' with heap:=h3}:=Inv.stay (s:={s' with heap:=u6}) I3 I_ (λb hb=>by cases hb) (λb hb=>by rw[GN.mp hb];exact KZ) (λb hb=>by rw[GN.mp hb];exact T0) (λb hb=>by rw[GN.mp hb];exact gZ I3 hT k_) (λb hb=>by rw[GN.mp hb];exact fld_cell I3 hT k_) (λb hb=>by rw[GN.mp hb];exact TP);exact hh _ T2 I4 #[Mx,He,KZ,e0,T0,eP,TP]
 rcases hd with⟨sl,vs,he,hv⟩|⟨T,KY,T0,HT,TP⟩
 .refine rO QK stk l9 he hv λu6 T2 n9 z9 t7=>d_ u6 T2 [e] (λb hb=>?_) n9 z9 t7;rw[GN.mp hb];exact#[He,e0,#[_,_,he,rfl],eP]
 .obtain⟨sl,vs,oT,ts,he,g1,v8,hT,k_,g3⟩:=id KY;refine rP QK stk l9 KY λu6 T2 n9 z9 t7=>d_ u6 T2 [T,e] (λb hb=>?_) n9 z9 t7;rcases GP.mp hb with z|z
  .rw[z];exact#[HT,T0,#[_,_,hT,k_],TP]
  .rw[GN.mp z];exact#[He,e0,#[_,_,he,rfl],eP]
def ErrG(K:Ex)(f y:Kq):Prop:=∃C cd,ErrA K y C cd/\GT K (.ref C) "__getattribute__"=be (be (.builtin "BaseException.__getattribute__"))/\GT K (.ref C) "__getattr__"=be v7/\GT K (.ref C) f=be v7
def zS(ys:List Kq)(f:Kq)(te:TD):TD:=λz R=>te z λd=>match d with|.exc y fs=>y∈ys/\∃d,fs.lookup f=be d/\R d|_=>False
def tD[J:Jx]{e:SZ}{te:TD}{pos:Ub}{ys:List Kq}{f:Kq}(hG:∀y∈ys,ErrG X.K f y)(he:WDE X e te)(hb:autoParam (T9 e f X.env (T_ e X.env)=T_ e X.env) zA0):WDE X (.Attribute e f pos) (zS ys f te):=⟨by
 have he:=he.out;intro pins s σ H Q I h;obtain⟨B,F,z,kf,rs,R,h1,h2⟩:=h;refine attr_of hb (thn (he pins s σ H (λv H1=>∃F1 x fs,Grow F H F1 H1/\Rep X.K F1 (.exc x fs) v/\x∈ys/\∃d,fs.lookup f=be d/\R d) I #[B,F,z,kf,rs,_,h1,λd v F1 H1 g1 hx rx=>?_]) λu s1 ⟨v,H1,I1,rv,F1,x,fs,g1,rx,hy,d,hl,hR⟩=>?_)
 .split at hx
  .obtain⟨hy,d,hl,hR⟩:=hx;exact#[F1,_,_,g1,rx,hy,d,hl,hR]
  .exact hx.elim
 .obtain⟨a,C,od,vs,rfl,hn,R3,rf,OJ⟩:=rep_exc.mp rx;obtain rfl:u=Value.ref a:=rv;obtain⟨C',cd,ea,ga,gb,hf⟩:=hG x hy;have g8:=ea.ns;rw[hn]at g8;cases g8;obtain⟨m_,sl,j3⟩:=(I1.hok a _ (g1.fh _ _ R3)).1;obtain⟨w',hw,h_⟩:=rf.look hl;rcases OJ with⟨_,e2⟩|⟨b,rfl,gV⟩
  .rw[e2]at hw;cases hw
  .obtain⟨mA,hns,rel⟩:=(show ObjOk X.prog X.w H1 s1.heap b (.xd vs)from I1.hok b _ (g1.fh _ _ gV));obtain⟨uv,hu,ru⟩:=RelO.some_of (v:=w') (o:=mA f) (by rw[<-hw];exact rel f);obtain⟨R4,ho,look⟩:=qU hns;have OK:hasDictIn X.K C=true:=by unfold hasDictIn;rw[ea.cl];exact ea.hd
   exact yt (K:=X.K) (ox:=#[.ref C,be b,.fields m_,sl]) (od:=R4) I1.kIn #[j3,rfl,rfl,ho] ea.cl ea.mro ga gb (findObj_own OK hf rfl (by rw[look,hu])) (qX ru) λtk=>#[w',H1,I1.tok tk,ru,h2 d w' F1 H1 g1 hR h_]⟩
def zT:tailIn K veLine veLine=true:=by
 unfold tailIn;rfl
def tE{c:KB}{d:Option KF}{es:Array DictEntry}{ep:Nat}(l:K.lookup N=be #[c,d,.dict es ep,sl])(h:es.toList.all (λe=>match e.key with|.str _ _=>true|_=>false)=true):nsOkIn K N=true:=by
 unfold nsOkIn;rw[l];dsimp only;rw[<-Ja];exact h
def zU{M:KF}{c0:KB}{dd:Option KF}{cd:Vq}(l:K.lookup M=be #[c0,dd,.cls cd,sl])(hn:cd.ns=N)(h1:nsOkIn K N=true)(h2:nsIn K N "__init__"=be v7):tailIn K veLine (.ref M::veLine)=true:=by
 unfold tailIn;subst hn;dsimp only;rw[l];dsimp only;rw[h1,h2,zT];simp
def zV(S:SpX):SpD:=λds R=>S ds R λ_ _=>False
def CalX.no{base:Heap}{n:Nat}{S:SpX}(C:CalX P w K mg base n x ps S):CalD P w K mg base n x ps (zV S):=by
 obtain⟨f,fd,F,hb,hk,hm⟩:=C;refine#[f,fd,F.imp λvs H Q E h=>?_,hb,hk,hm];obtain⟨F,ds,fh,rs,R,h,q⟩:=h;exact#[F,ds,fh,rs,R,_,h,q,λ_ _ _ _ _ _ _ z=>z.elim]
end My
namespace My
def repS(x:Kq)(n:Nat):Str:=#[(Hu n x.cps.toList).flatten.toArray]
def tF{α:Type}(l:List α):∀m:Nat,(GS m).filterMap (λk=>l[k]?)=l.take m
 |0=>by simp
 |m+1=>by
  rw[Im,List.filterMap_append,tF l m,JJ];cases h:l[m]?<;>simp[h]
def zW(lo hi:Option Int)(n:Nat):Builtin.Str.strSliceIndices lo hi 1 n=(GS (HT.sIx n n hi-HT.sIx n 0 lo)).map λk=>HT.sIx n 0 lo+k:=by
 have KH:∀(i:Int) (d:Nat),max 0 (min (if i<0 then i+(n:Int)else i) (n:Int))=((HT.sIx n d (be i):Nat):Int):=by
  intro i d;show max 0 (min (if i<0 then i+(n:Int)else i) (n:Int))=(((if i<0 then(i+(n:Int)).toNat else min i.toNat n):Nat):Int);by_cases h:i<0
  .rw[if_pos h,if_pos h];lia
  .rw[if_neg h,if_neg h];lia
 have h1:Builtin.Str.strSliceIndices lo hi 1 n=sliceRange ((HT.sIx n 0 lo:Nat):Int) ((HT.sIx n n hi:Nat):Int) 1:=by
  unfold Builtin.Str.strSliceIndices;simp only[show(1:Int)>0 by decide,if_true];cases lo with
  |none=>cases hi with
   |none=>rfl
   |some j=>rw[<-KH j n];rfl
  |some i=>cases hi with
   |none=>rw[<-KH i 0];rfl
   |some j=>rw[<-KH i 0,<-KH j n]
 rw[h1];unfold sliceRange;simp only[show(1:Int)>0 by decide,if_true];have e3:(if((HT.sIx n 0 lo:Nat):Int)<((HT.sIx n n hi:Nat):Int)then(((HT.sIx n n hi:Nat):Int)-((HT.sIx n 0 lo:Nat):Int)+1-1)/1 else 0).toNat=HT.sIx n n hi-HT.sIx n 0 lo:=by
  split<;>lia
 rw[e3];apply Io;intro k _;lia
def slice_cps(y:Kq)(lo hi:Option Int):Txt.slice y lo hi=#[((y.cps.toList.drop (HT.sIx y.length 0 lo)).take (HT.sIx y.length y.length hi-HT.sIx y.length 0 lo)).toArray]:=by
 have la:HT.sIx y.length 0 lo<=y.length:=HT.sIx_le _ _ (Hc _) lo;have lb:HT.sIx y.length y.length hi<=y.length:=HT.sIx_le _ _ (GO _) hi;unfold Txt.slice;rw[zW];split
 .rename_i h;have hl:HT.sIx y.length y.length hi-HT.sIx y.length 0 lo=y.length:=by simpa using h
  have ha:HT.sIx y.length 0 lo=0\/y.length=0:=KK
  rw[hl];obtain⟨cp⟩:=y;have e:(HP (HT.sIx (Str.mk cp).length 0 lo) cp.toList)=cp.toList:=by
   rcases ha with ha|ha
   .rw[ha];rfl
   .have:cp=[].toArray:=Array.eq_empty_of_size_eq_zero ha;subst this;simp
  show(#[cp]:Kq)=#[((HP (HT.sIx (Str.mk cp).length 0 lo) cp.toList).take cp.size).toArray];rw[e,HQ Ln]
 .congr 2;rw[JA];have:=tF (y.cps.toList.drop (HT.sIx y.length 0 lo)) (HT.sIx y.length y.length hi-HT.sIx y.length 0 lo);rw[<-this];congr 1;funext k;simp
section
variable {X:Cx}[J:Jx]{a b c e:SZ}{ta tb tc te:TD}{pos:Ub}
def GI:RD2:=λx y R=>match x,y with
 |.int i,.int j=>CMul i j/\R (.int (i*j))
 |.str i,.int n=>(-(2^62)<=n/\n<=1000000/\i.length*n.toNat<=1000000)/\R (.str (repS i n.toNat))
 |.lst xs,.int n=>(-(2^62)<=n/\n<=1000000/\xs.length*n.toNat<=1000000)/\R (.lst (Hu n.toNat xs).flatten)
 |_,_=>False
def tG:SlR X (λx lo hi H Q=>∃y,x=.str y/\y.length<=sizeLine/\Q (.str (Txt.slice y lo hi)) H):=by
 intro pins s σ H x v vl vu lo hi sl Q I rx hs pl pu h;obtain⟨y,rfl,hz,q⟩:=h;obtain⟨t,rfl⟩:=rx;have d_:∀t' k,EP X pins σ Q (.str (Txt.slice y lo hi) t') {s with toks:=k}:=λt' k=>#[.str _,H,I.tok k,#[_,rfl],q];have le:=GY (Txt.slice_le y lo hi) hz;refine#["str",_,PySem.F.slot_str_getitem.lookup,VO _ _ _,?_];cases pl with
 |none=>cases pu with
  |none=>exact UA (l:=v7) (u:=v7) (st:=v7) hs rfl (UZ #[le,d_])
  |int j tj=>exact UA (l:=v7) (u:=be (j,tj)) (st:=v7) hs rfl (UZ #[le,d_])
 |int i ti=>cases pu with
  |none=>exact UA (l:=be (i,ti)) (u:=v7) (st:=v7) hs rfl (UZ #[le,d_])
  |int j tj=>exact UA (l:=be (i,ti)) (u:=be (j,tj)) (st:=v7) hs rfl (UZ #[le,d_])
abbrev TDO:=SD->(Option Int->Prop)->Prop
def zX:TDO:=λ_ R=>R v7
def zY(te:TD):TDO:=λz R=>te z λx=>match x with|.int i=>R (be i)|_=>False
def lO(K:Ex)[J:Jx](t:TDO):TO:=λs H Q=>∃B F z,Kept B J.F0 F H/\RepS K B F H z s/\∃R:Option Int->Prop,t z R/\∀o F' H',Grow F H F' H'->R o->Q o H'
abbrev DPO(X:Cx)[Jx](e:Option SZ)(t:TDO):Prop:=PO X e (lO X.K t)
structure WDPO(X:Cx)[Jx](e:Option SZ)(t:TDO):Prop where
 out:DPO X e t
def PO.anti{X:Cx}{e:Option SZ}{t t':TO}(h:PO X e t)(a:∀s H Q,t' s H Q->t s H Q):PO X e t':=λpins s σ H Q I q=>h pins s σ H Q I (a _ _ _ q)
def cq:WDPO X v7 zX:=⟨PO.anti jU λs H Q q=>by
 obtain⟨B,F,z,kf,rs,R,h1,h2⟩:=q;exact h2 v7 F H (Grow.refl kf.fh) h1⟩
def bV(he:WDE X e te):WDPO X (be e) (zY te):=⟨have he:=he.out;PO.anti (jV he) λs H Q q=>by
 obtain⟨B,F,z,kf,rs,R,h1,h2⟩:=q;refine#[B,F,z,kf,rs,_,h1,λx u F1 H1 g1 hx rx=>?_];split at hx
 .exact#[_,rep_int.mp rx,h2 _ F1 H1 g1 hx]
 .exact hx.elim⟩
def rdSl:D->Option Int->Option Int->(D->Prop)->Prop:=λx lo hi R=>match x with
 |.str y=>y.length<=1000000/\R (.str (Txt.slice y lo hi))
 |.lst xs=>R (.lst (cutD xs lo hi))
 |.rol xs=>R (.lst (cutD xs lo hi))
 |.tup xs=>¬(HT.sIx xs.length 0 lo=0/\HT.sIx xs.length xs.length hi=xs.length)/\R (.tup (cutD xs lo hi))
 |_=>False
def dSl(ta:TD)(tl th:TDO):TD:=λz R=>ta z λx=>tl z λlo=>th z λhi=>rdSl x lo hi R
def cf{lo hi:Option SZ}{tl th:TDO}{p2:Ub}(ha:WDE X a ta)(hl:WDPO X lo tl)(hu:WDPO X hi th):WDE X (.Subscript a (.Slice lo hi v7 p2) pos) (dSl ta tl th):=⟨have ha:=ha.out;have hl:=hl.out;have hu:=hu.out;(gL (SlR.or tG (SlR.or gM rq)) ha hl hu).anti λs H Q q=>by
 obtain⟨B,F,z,kf,rs,R,h1,h2⟩:=q;refine#[B,F,z,kf,rs,_,h1,λx u F1 H1 g1 hx rx=>?_];refine#[B,F1,z,kf.grow g1,rs.grow g1,_,hx,λlo F2 H2 g2 hy=>?_];refine#[B,F2,z,(kf.grow g1).grow g2,(rs.grow g1).grow g2,_,hy,λhi F3 H3 g3 hw=>?_];have g:=g1.trans (g2.trans g3);have KI:=(rx.mono g2.ff).mono g3.ff;unfold rdSl at hw;split at hw
 .exact .inl #[_,rep_str.mp KI,GY hw.1 Lj,h2 _ _ F3 H3 g hw.2 (rep_str.mpr rfl)]
 .obtain⟨l,vs,rfl,hq,rr⟩:=rep_lst.mp KI;refine .inr (.inl #[l,vs,rfl,SqL.of (g3.fh _ _ hq),λp hp=>?_]);exact h2 _ _ _ _ (g.trans (Grow.new g3.fh hp _)) hw (rep_lst.mpr #[p,_,rfl,aA,(rr.cut _ _).mono (aO (g3.fh.free hp) _)])
 .obtain⟨l,vs,rfl,hq,rr⟩:=rep_rol.mp KI;refine .inr (.inl #[l,vs,rfl,g3.fh.seq hq,λp hp=>?_]);exact h2 _ _ _ _ (g.trans (Grow.new g3.fh hp _)) hw (rep_lst.mpr #[p,_,rfl,aA,(rr.cut _ _).mono (aO (g3.fh.free hp) _)])
 .obtain⟨l,vs,rfl,hq,rr⟩:=rep_tup_mp KI;refine .inr (.inr #[l,vs,rfl,g3.fh.tup hq,by rw[rr.length];exact hw.1,λp hp=>?_]);exact h2 _ _ _ _ (g.trans (Grow.new g3.fh hp _)) hw.2 (rep_tupS.mpr #[p,_,rfl,aA,(rr.cut _ _).mono (aO (g3.fh.free hp) _)])
 .exact hw.elim⟩
def rdIn(neg:Bool):RD2:=λx y R=>match x,y with
 |.str i,.str j=>R (.bl (if neg then !(!(Builtin.Str.occurrences j i 0 j.length 1).isEmpty)else !(Builtin.Str.occurrences j i 0 j.length 1).isEmpty))
 |x,.lst ys=>(cm x=true/\ys.all cm=true)/\R (.bl (if neg then !(ys.any λy=>eqF y x)else ys.any λy=>eqF y x))
 |x,.rol ys=>(cm x=true/\ys.all cm=true)/\R (.bl (if neg then !(ys.any λy=>eqF y x)else ys.any λy=>eqF y x))
 |x,.tup ys=>(cm x=true/\ys.all cm=true)/\R (.bl (if neg then !(ys.any λy=>eqF y x)else ys.any λy=>eqF y x))
 |_,_=>False
def hU{K:Ex}{H:Hp}{x:D}{u:V}(rx:Rep K H x u)(fx:cm x=true):∀{ys:List D} {vs:List V},Reps K H ys vs->ys.all cm=true->inV u vs=ys.any λy=>eqF y x
 |[],vs,r,_=>by rw[reps_nil.mp r];rfl
 |y::ys,vs,r,f=>by
  obtain⟨v,vr,rfl,r1,r2⟩:=reps_cons.mp r;rw[ID,Hj]at f;have ih:=hU rx fx r2 f.2;unfold inV at ih ⊢;rw[IE,IE,ih,zd r1 rx f.1 fx]
def rInV(K:Ex)(neg:Bool):R2:=λx y H Q=>(∃i j,x=.str i/\y=.str j/\Q (.bl (if neg then !(!(Builtin.Str.occurrences j i 0 j.length 1).isEmpty)else !(Builtin.Str.occurrences j i 0 j.length 1).isEmpty)) H)\/rIn K neg x y H Q
def zZ{K:Ex}{neg:Bool}:bf K (rInV K neg) (rdIn neg):=by
 intro x y u v F H R Q fh h rx ry q;unfold rdIn at h;split at h
 .exact .inl #[_,_,rep_str.mp rx,rep_str.mp ry,q _ _ F H (Grow.refl fh) h (rep_bl.mpr rfl)]
 .obtain⟨⟨f1,f2⟩,h⟩:=h;obtain⟨l,vs,rfl,hq,rr⟩:=rep_lst.mp ry;exact .inr #[l,vs,rfl,.inl (fh.seq (SqL.of hq)),gR rx f1,gS rr f2,q _ _ F H (Grow.refl fh) h (rep_bl.mpr (by rw[hU rx f1 rr f2]))]
 .obtain⟨⟨f1,f2⟩,h⟩:=h;obtain⟨l,vs,rfl,hq,rr⟩:=rep_rol.mp ry;exact .inr #[l,vs,rfl,.inl (fh.seq hq),gR rx f1,gS rr f2,q _ _ F H (Grow.refl fh) h (rep_bl.mpr (by rw[hU rx f1 rr f2]))]
 .obtain⟨⟨f1,f2⟩,h⟩:=h;obtain⟨l,vs,rfl,hq,rr⟩:=rep_tup_mp ry;exact .inr #[l,vs,rfl,.inr (fh.tup hq),gR rx f1,gS rr f2,q _ _ F H (Grow.refl fh) h (rep_bl.mpr (by rw[hU rx f1 rr f2]))]
 .exact h.elim
def Aa:OpR X (Ul .NotIn) (rInV X.K true):=OpR.or yb ya
end
end My
namespace L2
def Its(x:Kq):It:=#[λi _=>i<x.length,λi H v H'=>H'=H/\∃c,x.cps[i]?=be c/\v=.str #[[c].toArray],λi _=>x.length<=i]
def Ab{P:T3}{w:T5}{K:Ex}{tg:SZ}(x:Kq)(t:VX)(it:KF):Turn P w K tg (Its x) [it] it (λi h=>h.IsStrIter it "str_ascii_iterator" x t i) where
 mem:=Ln
 obj:=λi h st b hb=>by
  have e:b=it:=by simpa using hb
  subst e;obtain⟨o,e,c,d⟩:=st;exact#[o,e,λv z=>by rw[d]at z;cases z]
 keep:=λi h h' st k=>by
  obtain⟨o,e,r⟩:=st;exact#[o,k it Ln o e,r]
 item:=by
  intro X hP hw hK hc i pins s σ H E I hf st hg;subst hP hw hK;have hi:i<x.cps.size:=hg;obtain⟨f0,f1,f2,f3,f4,f5⟩:=hf it Ln;refine wpAny_pyNext_ascii_item st (c:=x.cps[i]) (JK hi) λh' v5 sb=>?_;have I1:Inv X pins σ H {s with heap:=h',toks:=s.toks+1}:=I.turned (t':=s.toks+1) (λb o hb e=>(sb.2 b hb).trans e) f0 f1 f3 f4 f5;obtain⟨o,e,c,d⟩:=id v5;exact#[_,rfl,jI (s:={s with heap:=h',toks:=s.toks+1}) e c d Lj #[.str #[[x.cps[i]].toArray],H,I1,#[_,rfl],#[rfl,_,JK hi,rfl],v5,λb hb=>(hf b hb).1]]
 done:=by
  intro X hP hw hK hc i pins s σ H E I hf st hg;subst hP hw hK;have hi:x.cps.size<=i:=hg;obtain⟨f0,f1,f2,f3,f4,f5⟩:=hf it Ln;exact wpAny_pyNext_ascii_end (I.ok.hd hc) st (Array.getElem?_eq_none hi) λh' eb=>#[rfl,I.turned (t':=s.toks) (λb o hb e=>eb b o hb e) f0 f1 f3 f4 f5]
 self:=λA i s Q E st hQ=>wpAny_pyIter_striter_ascii st hQ
def iStr(tl:TE):TI:=λσ H R=>tl σ H λv H1=>∃x,v=.str x/\x.cps.all (·<128)=true/\R (Its x) H1
def tH{X:Cx}{tg l:SZ}{tl:TE}(hl:PE X l tl):PI X tg l (iStr tl):=by
 intro pins s σ H R I h;refine thn (hl pins s σ H _ I h) λv s1 b9=>?_;obtain⟨v1,H1,I1,r1,q1⟩:=b9;obtain⟨x,rfl,ha,q⟩:=q1;obtain⟨t,rfl⟩:=r1;refine wpAny_pyIter_ascii ha ?_;refine#[s1.heap.objs.size,[s1.heap.objs.size],_,_,H1,rfl,I1.kept (t':=s1.toks) λb o e=>Heap.get?_push_of_some _ e,Ab x t _,#[_,Heap.get?_push_size _ rfl,rfl,rfl],λb hb=>?_,q];have e:b=s1.heap.objs.size:=by simpa using hb
 subst e;exact I1.fpOk (GO _) (I1.hok.fresh (GO _))
def Ac{x:Kq}{g:TG}{tb:TS}{D:Ends}{σ:St}{H:Hp}(Pv:Nat->St->Hp->Prop)(h0:Pv 0 σ H)
  (hs:∀i c σ H,x.cps[i]?=be c->Pv i σ H->g (.str #[[c].toArray]) σ H λσ2 H2=>tb {D with nx:=Pv (i+1),ct:=Pv (i+1),bk:=D.nx} σ2 H2) (hd:∀σ H,Pv x.length σ H->D.nx σ H):
  ∃W:Nat->Nat->St->Hp->Prop,(∃m,W 0 m σ H)/\∀i m σ H,W i m σ H->
   ((Its x).stop i H/\D.nx σ H)\/((Its x).go i H/\∃N:St->Hp->Prop,(∀σ' H',N σ' H'->∃m',m'<m/\W (i+1) m' σ' H')/\∀v H',(Its x).yld i H v H'->g v σ H' λσ2 H2=>tb {D with nx:=N,ct:=N,bk:=D.nx} σ2 H2):=by
 refine#[λi m σ H=>m=x.length-i/\i<=x.length/\Pv i σ H,#[x.length,Ln,Hc _,h0],?_];rintro i m σ H ⟨rfl,hi,p⟩;by_cases f9:i<x.length
 .refine .inr #[f9,Pv (i+1),λσ' H' p'=>#[x.length-(i+1),KK,rfl,f9,p'],λv H' y=>?_];obtain⟨e,c,hc,rfl⟩:=y;subst e;exact hs i c σ _ hc p
 .have e:i=x.length:=by lia
  subst e;exact .inl #[GO _,hd σ H p]
end L2
namespace My
section
variable {X:Cx}[J:Jx]{a b c e:SZ}{ta tb tc te:TD}{pos:Ub}
def bP(x:Kq):List D:=x.cps.toList.map λc=>D.str #[[c].toArray]
def dItS(t:TD):TDI:=λz R=>t z λy=>match y with|.str x=>x.cps.all (·<128)=true/\R (bP x)|_=>False
def hV{x:Kq}{k c:Nat}(h:x.cps[k]?=be c):(bP x)[k]?=be (.str #[[c].toArray]):=by
 unfold bP;rw[GX,Array.getElem?_toList,h];rfl
def fk(x:Kq):(bP x).length=x.length:=by unfold bP;rw[GQ];simp[Str.length]
def Ad(i:Nat){x:Kq}{p:Ub}{body:List SB}{tb:TSD}(hp:Um (SL X.prog X.w) X.A X.env X.xe)(hc:X.calm=true)(hN:X.N.Nodup)(he:WDE X e te)(hb:WDSs X body tb)(hi:autoParam (X.N[i]?=be x) zA0)(hx:autoParam (Loc X.env.scope x) zA4)
  (hf:autoParam (zFN X x) zA2) (hs:autoParam (∀y,zFS X e y) zA3):WDS X (.For (.Name x p) e body [] pos) (dFor i (dItS te) tb):=⟨have he:=he.out;have hb:=hb.out;(cP hp hc (tH he) (dJ hN hi hx hf) hb hs).anti λE s H q=>by
 obtain⟨B,F0,F,z,kp,rs,ED,h,e⟩:=q;refine#[B,F,z,kp.kf,rs,_,h,λd v F1 H1 g1 hd rd=>?_];split at hd
 .rename_i y;obtain⟨ha,W,w0,c5,out⟩:=hd;refine#[y,rep_str.mp rd,ha,Ac (λk s' H'=>∃F' z',Kept B F0 F' H'/\RepS X.K B F' H' z' s'/\W k z') #[F1,z,kp.grow g1,rs.grow g1,w0] ?_ ?_]
  .rintro k c s' H' hk⟨F',z',k',r',w'⟩;exact#[B,F0,F',_,k',r'.set (d:=.str #[[c].toArray]) (rep_str.mpr rfl),_,c5 k (.str #[[c].toArray]) z' (hV hk) w',#[λz3 s3 F3 H3 k3 h3 r3=>#[F3,z3,k3,r3,h3],e.rt,e.nx,λz3 s3 F3 H3 k3 h3 r3=>#[F3,z3,k3,r3,h3]]]
  .rintro s' H'⟨F',z',k',r',w'⟩;exact e.nx z' s' F' H' k' (out z' (by rw[fk];exact w')) r'
 .exact hd.elim⟩
variable {g_ iter:SZ}{x:Kq}{px:Ub}{scope:Uv}{ti:TD}
def itS{K:Ex}:ItOk K (iStr (lE K ti)) (dItS ti):=λ{s H B F z P Q} kf rs h1 h2=>by
 refine#[B,F,z,kf,rs,_,h1,λd v F1 H1 g1 hd rd=>?_];split at hd
 .rename_i y;obtain⟨ha,hd⟩:=hd;have hl:=fk y;refine#[y,rep_str.mp rd,ha,h2 _ _ F1 H1 g1 hd #[λk F' H' G hk=>by rw[hl]at hk;exact hk,λk F' H' v H'' G hk hy=>?_,λF' H' G=>by show y.length<=_;rw[hl];exact GO _]];obtain⟨e,c,hc,rfl⟩:=hy;exact#[e,.str #[[c].toArray],hV hc,rep_str.mpr rfl]
 .exact hd.elim
end
section
variable {X:Cx}[J:Jx]{a b c e o:SZ}{es:List SZ}{ta tb tc te to:TD}{t:TDA}{pos:Ub}
abbrev RTx:=Kq->List D->(D->Prop)->Prop
def dTx(r:RTx)(to:TD)(t:TDA):TD:=λz R=>to z λx=>match x with|.str y=>t z λds=>r y ds R|_=>False
def MtS(X:Cx)(id:String)(r:RTx):Prop:=∃rv:V->List V->Hp->VK->Prop,MtR X id rv/\∀(y:Kq) (ds:List D) (vs:List V) (F H:Hp) (R:D->Prop) (Q:VK),Reps X.K F ds vs->r y ds R->(∀d v,(∀G,Rep X.K G d v)->R d->Q v H)->rv (.str y) vs H Q
variable{apos cpos:Ub}
def kE{name:Kq}{id:String}{r:RTx}(slot:Slot "str" name id)(N7:typeOf (.builtin id)=pure (.type "method_descriptor"))(hm:MtS X id r)(ho:DE X o to)(ha:DA X (e::es) t)
  (b8:autoParam (T9 o name X.env (T_ o X.env)=T_ o X.env) zA0)
  (d8:autoParam (zHF X cpos (e::es)) zA0)
  (c8:autoParam ((apos.endLine==cpos.line)=true) zA0) (hs:autoParam (zSE X e es) zA0) (p7:autoParam (zPL X cpos es) zA0):
  DE X (.Call (.Attribute o name apos) (e::es) [] cpos) (dTx r to t):=by
 obtain⟨rv,hm,L⟩:=hm;refine(eL PySem.F.plainAttrs_str slot N7 hm ho ha b8 d8 c8 hs p7).anti λs H Q q=>?_;obtain⟨B,F,z,kf,rs,R,h1,h2⟩:=q;refine#[B,F,z,kf,rs,_,h1,λx u F1 H1 g1 hx rx=>?_];split at hx
 .rename_i y;rw[rep_str.mp rx];refine#[rfl,B,F1,z,kf.grow g1,rs.grow g1,_,hx,λds vs F2 H2 g2 hy ry=>?_];exact L y ds vs F2 H2 R Q ry hy λd v rd hR=>h2 d v F2 H2 (g1.trans g2) hR (rd F2)
 .exact hx.elim
def GJ:RTx:=λy ds R=>match ds with|[.str p]=>R (.bl (Txt.startswith y p))|_=>False
def rEnds:RTx:=λy ds R=>match ds with|[.str p]=>R (.bl (Txt.endswith y p))|_=>False
def ms_ends:MtS X "str.endswith" rEnds:=by
 refine#[λx vs H Q=>∃y p,x=.str y/\vs=[.str p]/\Q (.bl (Txt.endswith y p)) H,?_,?_]
 .intro pins s σ H x vs v us Q I rx rv h;obtain⟨y,p,rfl,rfl,q⟩:=h;obtain⟨t,rfl⟩:=rx;obtain⟨u,rfl,t',rfl⟩:=cb rv;exact SC.endswith #[.bl _,H,I,rfl,q]
 .intro y ds vs F H R Q r h q;unfold rEnds at h;split at h
  .obtain⟨v,vr,rfl,h1,h2⟩:=reps_cons.mp r;rw[reps_nil.mp h2,rep_str.mp h1];exact#[_,_,rfl,rfl,q _ _ (λ_=>rep_bl.mpr rfl) h]
  .exact h.elim
def Ae(ho:WDE X o to)(ha:WDA X [e] t)(b8:autoParam (T9 o "endswith" X.env (T_ o X.env)=T_ o X.env) zA0)
  (d8:autoParam (zHF X cpos [e]) zA0)
  (c8:autoParam ((apos.endLine==cpos.line)=true) zA0) (hs:autoParam (zSE X e []) zA0):WDE X (.Call (.Attribute o "endswith" apos) [e] [] cpos) (dTx rEnds to t):=#[have ho:=ho.out;have ha:=ha.out;kE PySem.F.slot_str_endswith PySem.F.type_str_endswith ms_ends ho ha b8 d8 c8 hs]
def rSIndex:RTx:=λy ds R=>match ds with|[.str p]=>∃i rest,Builtin.Str.occurrences y p 0 y.length 1=i::rest/\R (.int (i:Nat))|_=>False
def Af:MtS X "str.index" rSIndex:=by
 refine#[λx vs H Q=>∃y p i rest,x=.str y/\vs=[.str p]/\Builtin.Str.occurrences y p 0 y.length 1=i::rest/\Q (.int (i:Nat)) H,?_,?_]
 .intro pins s σ H x vs v us Q I rx rv h;obtain⟨y,p,i,rest,rfl,rfl,ho,q⟩:=h;obtain⟨t,rfl⟩:=rx;obtain⟨u,rfl,t',rfl⟩:=cb rv;exact SC.index ho #[.int _,H,I.tok _,#[_,rfl],q]
 .intro y ds vs F H R Q r h q;unfold rSIndex at h;split at h
  .obtain⟨i,rest,ho,h⟩:=h;obtain⟨v,vr,rfl,h1,h2⟩:=reps_cons.mp r;rw[reps_nil.mp h2,rep_str.mp h1];exact#[_,_,i,rest,rfl,rfl,ho,q _ _ (λ_=>rep_int.mpr rfl) h]
  .exact h.elim
def kF(ho:WDE X o to)(ha:WDA X [e] t)(b8:autoParam (T9 o "index" X.env (T_ o X.env)=T_ o X.env) zA0)
  (d8:autoParam (zHF X cpos [e]) zA0)
  (c8:autoParam ((apos.endLine==cpos.line)=true) zA0) (hs:autoParam (zSE X e []) zA0):WDE X (.Call (.Attribute o "index" apos) [e] [] cpos) (dTx rSIndex to t):=#[have ho:=ho.out;have ha:=ha.out;kE PySem.F.slot_str_index PySem.F.type_str_index Af ho ha b8 d8 c8 hs]
def Reps.init{K:Ex}{F:Hp}:∀{ds:List D} {vs:List V},Reps K F ds vs->Reps K F ds.dropLast vs.dropLast
 |[],vs,r=>by rw[reps_nil.mp r];exact reps_nil.mpr rfl
 |[d],vs,r=>by
  obtain⟨v,vr,rfl,_,h2⟩:=reps_cons.mp r;rw[reps_nil.mp h2];exact reps_nil.mpr rfl
 |d::d2::ds,vs,r=>by
  obtain⟨v,vr,rfl,h1,h2⟩:=reps_cons.mp r;obtain⟨v2,Tj,rfl,h3,h4⟩:=reps_cons.mp h2;rw[JL,JL];exact reps_cons.mpr #[v,_,rfl,h1,Reps.init h2]
end
end My
namespace My
open Exc
section
variable {X:Cx}{a b c e:SZ}{ta tb tc te:TD}{pos:Ub}{st:SB}{rest:List SB}{t u:TSD}
def br[Jx]{c:SZ}{l r:List SB}{tc:TDT}(hc:WDT X c tc)(ha:WDSs X l t)(hb:WDSs X r u):WDS X (.If c l r pos) (dIfS tc t u):=#[sF (c:=c) (l:=l) (r:=r) (tc:=tc) (hc:=hc.out) (ha:=ha.out) (hb:=hb.out)]
end
section
variable {P:T3}{w:T5}{K:Ex}{mg:Kq->Option KB}{base:Heap}
variable{x qual:Kq}{st:SB}{f:KF}{fd:Ua}{N ps:List Kq}{k:Nat}
def _root_.L2.Fun.okDW{S:SpD}(T:Fun K x qual st f fd)(F:FnScope N ps (ah st))(len:∀ds R,S ds R->ds.length=ps.length)
  (a8:∀(cdv:KB) (A:T6) (outer:List UP) (s:Os) (H:Hp) (E:XK) (J:Jx),Room k (A.deeper (Ud qual (ah st) s.heap.objs.size f cdv))->
   ∃t,WDSs (cxOf (Exc.CX1 P w) P w K mg base N qual (ah st) f cdv A outer s H E).nox (aJ st) t/\∀ds R,S ds R->t {nx:=λ_=>R .non,rt:=R} (startD N ds)):FnOk P w K mg base (Exc.CX1 P w) (k+1) f fd ps (lSp K S):=
 T.okD F len λcdv A outer s H E J hr=>let ⟨t,h,q⟩:=a8 cdv A outer s H E J hr;#[t,h.out,q]
def Tx.okDW{S:SpD}(T:Tx K mg x st ps)(F:FnScope N ps (ah st))(len:∀ds R,S ds R->ds.length=ps.length)
  (a8:∀(f:KF) (cdv:KB) (A:T6) (outer:List UP) (s:Os) (H:Hp) (E:XK) (J:Jx),Room k (A.deeper (Ud x (ah st) s.heap.objs.size f cdv))->
   ∃t,WDSs (cxOf (Exc.CX1 P w) P w K mg base N x (ah st) f cdv A outer s H E).nox (aJ st) t/\∀ds R,S ds R->t {nx:=λ_=>R .non,rt:=R} (startD N ds)):CalD P w K mg base (k+1) x ps S:=
 Tx.okD T F len λf cdv A outer s H E J hr=>let ⟨t,h,q⟩:=a8 f cdv A outer s H E J hr;#[t,h.out,q]
def Tx.okXW{S:SpX}(T:Tx K mg x st ps)(F:FnScope N ps (ah st))(len:∀ds R RX,S ds R RX->ds.length=ps.length)
  (a8:∀(f:KF) (cdv:KB) (A:T6) (outer:List UP) (s:Os) (H:Hp) (E:XK) (J:Jx),Room k (A.deeper (Ud x (ah st) s.heap.objs.size f cdv))->XOk (cxOf (CX1 P w) P w K mg base N x (ah st) f cdv A outer s H E)->
   ∃t,WDSs (cxOf (CX1 P w) P w K mg base N x (ah st) f cdv A outer s H E) (aJ st) t/\∀ds R RX,(∀z,J.RX z=RX)->S ds R RX->t {nx:=λ_=>R .non,rt:=R} (startD N ds)):CalX P w K mg base (k+1) x ps S:=
 Tx.okX T F len λf cdv A outer s H E J hr hx=>let ⟨t,h,q⟩:=a8 f cdv A outer s H E J hr hx;#[t,h.out,q]
def Cls.okIW{C:KF}{p0:Kq}{S:SiD}(T:Fun K "__init__" qual st f fd)(hb:Binds K fd (p0::ps) [])(F:FnScope (p0::N) (p0::ps) (ah st))(len:∀ds R,S ds R->ds.length=ps.length)
  (hns:nsIn K Pi x=be (be (.ref C))) (j_:mg x=be (.ref C)) (mk:Mk K C f)
  (a8:∀(cdv:KB) (A:T6) (outer:List UP) (s:Os) (H:Hp) (E:XK) (J:Jx),Room k (A.deeper (Ud qual (ah st) s.heap.objs.size f cdv))->
   ∃t,WDI (cxOf (Exc.CX1 P w) P w K mg base (p0::N) qual (ah st) f cdv A outer s H E).nox x (aJ st) t/\∀ds R,S ds R->t (v7::startD N ds) [] R):CalM P w K mg base (k+1) x (p0::ps) S:=
 Cls.okI T hb F len hns j_ mk λcdv A outer s H E J hr=>let ⟨t,h,q⟩:=a8 cdv A outer s H E J hr;#[t,h.out,q]
def Cls.okEW{C N0:KF}{bm:List KB}{p0:Kq}{S:SiD}(T:Fun K "__init__" qual st f fd)(hb:Binds K fd (p0::ps) [])(F:FnScope (p0::N) (p0::ps) (ah st))(len:∀ds R,S ds R->ds.length=ps.length)
  (ek:ErrK K mg x C N0 bm) (hi:GT K (.ref C) "__init__"=be (be (.ref f))) (hf:isFn K (.ref f)=true)
  (a8:∀(cdv:KB) (A:T6) (outer:List UP) (s:Os) (H:Hp) (E:XK) (J:Jx),Room k (A.deeper (Ud qual (ah st) s.heap.objs.size f cdv))->
   ∃t,WDX (cxOf (CX1 P w) P w K mg base (p0::N) qual (ah st) f cdv A outer s H E).nox x (aJ st) t/\∀ds R,S ds R->t (v7::startD N ds) [] R):CalE P w K mg base (k+1) x (p0::ps) S:=
 Cls.okE T hb F len ek hi hf λcdv A outer s H E J hr=>let ⟨t,h,q⟩:=a8 cdv A outer s H E J hr;#[t,h.out,q]
end
inductive MO where
 |ins (x:Str) (fs:List (Str×D))|lst (ds:List D)|dti (a9:List ((Int×Int)×Int))
abbrev MS:=List (KF×MO)
def MRep(K:Ex)(F H:Hp)(a:KF):MO->Prop
 |.ins x fs=>∃C dx ws,nsIn K Pi x=be (be (.ref C))/\H a=be (.ins C dx ws)/\RepF K F fs ws
 |.lst ds=>∃vs,H a=be (.lst vs)/\Reps K F ds vs
 |.dti a9=>H a=be (.dT (dtiV a9))
def au(M:MS):List KF:=M.map (·.1)
def mget:MS->KF->Option MO
 |[],_=>v7
 |(b,o)::r,a=>if b=a then be o else mget r a
def mput:MS->KF->MO->MS
 |[],_,_=>[]
 |(b,p)::r,a,o=>if b=a then(b,o)::r else(b,p)::mput r a o
def mdel:MS->KF->MS
 |[],_=>[]
 |(b,p)::r,a=>if b=a then r else(b,p)::mdel r a
def bA:∀{M:MS} {a:KF} {o:MO},mget M a=be o->(a,o)∈M
 |[],_,_,h=>by cases h
 |(b,p)::r,a,o,h=>by
  unfold mget at h;split at h
  .rename_i e;subst e;cases h;exact GU
  .exact GR _ (bA h)
variable{M:MS}{a:KF}{o:MO}
def bW(h:(a,o)∈M):a∈au M:=Hd.mpr #[_,h,rfl]
def hZ:∀(M:MS) (a:KF) (o:MO),au (mput M a o)=au M
 |[],_,_=>rfl
 |(b,p)::r,a,o=>by
  unfold mput;split
  .rfl
  .show b::au (mput r a o)=b::au r;rw[hZ r a o]
def mem_put:∀{M:MS} {a b:KF} {o q:MO},(au M).Nodup->(b,q)∈mput M a o->(b=a/\q=o/\a∈au M)\/(b≠a/\(b,q)∈M)
 |[],_,_,_,_,_,h=>by cases h
 |(c,p)::r,a,b,o,q,nd,h=>by
  have MK:c∉au r/\(au r).Nodup:=HC.mp nd;unfold mput at h;split at h
  .rename_i e;subst e;rcases GP.mp h with z|z
   .cases z;exact .inl #[rfl,rfl,GU]
   .have:b∈au r:=bW z;exact .inr #[λe=>MK.1 (e ▸ this),GR _ z]
  .rename_i ne;rcases GP.mp h with z|z
   .cases z;exact .inr #[ne,GU]
   .rcases mem_put MK.2 z with⟨e1,e2,e3⟩|⟨e1,e2⟩
    .exact .inl #[e1,e2,GR _ e3]
    .exact .inr #[e1,GR _ e2]
def kG:∀{M:MS} {a b:KF} {q:MO},(au M).Nodup->(b,q)∈mdel M a->b≠a/\(b,q)∈M
 |[],_,_,_,_,h=>by cases h
 |(c,p)::r,a,b,q,nd,h=>by
  have MK:c∉au r/\(au r).Nodup:=HC.mp nd;unfold mdel at h;split at h
  .rename_i e;subst e;exact#[λe=>MK.1 (e ▸ bW h),GR _ h]
  .rename_i ne;rcases GP.mp h with z|z
   .cases z;exact#[ne,GU]
   .obtain⟨e1,e2⟩:=kG MK.2 z;exact#[e1,GR _ e2]
def del_sub:∀{M:MS} {a:KF},(au (mdel M a)).Sublist (au M)
 |[],_=>.slnil
 |(c,p)::r,a=>by
  unfold mdel;split
  .exact List.sublist_cons_self _ _
  .exact List.Sublist.cons_cons _ del_sub
variable{K:Ex}{F H F' H':Hp}
def MRep.mono(ff:Same F F')(hh:∀o,H a=be o->H' a=be o):∀{o:MO},MRep K F H a o->MRep K F' H' a o
 |.ins x fs,⟨C,dx,ws,n,h,r⟩=>#[C,dx,ws,n,hh _ h,RepF.mono ff fs ws r]
 |.lst ds,⟨vs,h,r⟩=>#[vs,hh _ h,Reps.mono ff ds vs r]
 |.dti a9,h=>hh _ h
def MRep.there:∀{o:MO},MRep K F H a o->H a≠v7
 |.ins x fs,⟨C,dx,ws,n,h,r⟩=>by rw[h];exact λz=>nomatch z
 |.lst ds,⟨vs,h,r⟩=>by rw[h];exact λz=>nomatch z
 |.dti a9,h=>by rw[show H a=_ from h];exact λz=>nomatch z
structure RepM(K:Ex)(F H:Hp)(M:MS):Prop where
 nd:(au M).Nodup
 ok:∀a o,(a,o)∈M->MRep K F H a o
 fr:∀a,a∈au M->F a=v7
def RepM.nil:RepM K F H []:=#[JF,(λ_ _ h=>nomatch h),(λ_ h=>nomatch h)]
def RepM.here(r:RepM K F H M)(h:a∈au M):H a≠none:=by
 obtain⟨⟨b,o⟩,h1,rfl⟩:=Hd.mp h;exact(r.ok _ _ h1).there
structure GrowM(M M':MS)(F H F' H':Hp):Prop where
 ff:Same F F'
 fh:Same F' H'
 hh:∀b o,b∉au M->H b=be o->H' b=be o
 out:∀b,b∉au M->F b=v7->H b≠v7->F' b=v7
 ks:∀b,b∈au M'->b∈au M\/H b=v7
def Grow.toM(g:Grow F H F' H'):GrowM M M F H F' H':=#[g.ff,g.fh,λb o _ h=>g.hh b o h,λb _ h1 h2=>g.out b h1 h2,λb h=>.inl h]
def GrowM.refl(h:Same F H):GrowM M M F H F H:=(Grow.refl h).toM
def GrowM.trans{M1 M2:MS}{F1 H1 F2 H2:Hp}(g:GrowM M M1 F H F1 H1)(k:GrowM M1 M2 F1 H1 F2 H2):GrowM M M2 F H F2 H2 where
  ff:=g.ff.trans k.ff
  fh:=k.fh
  hh:=λb o nb h=>k.hh b o (λz=>by rcases g.ks b z with q|q;exact nb q;rw[q]at h;cases h) (g.hh b o nb h)
  out:=λb nb h1 h2=>k.out b (λz=>by rcases g.ks b z with q|q;exact nb q;exact h2 q) (g.out b nb h1 h2) (by
    cases e:H b with
    |none=>exact absurd e h2
    |some o=>rw[g.hh b o nb e];exact λz=>nomatch z)
  ks :=λb h=>by
    rcases k.ks b h with q|q
    . exact g.ks b q
    . by_cases nb:b∈au M
      . exact .inl nb
      . right;cases e:H b with
        |none=>rfl
        |some o=>rw[g.hh b o nb e]at q;cases q
def RepM.grow(r:RepM K F H M)(g:Grow F H F' H'):RepM K F' H' M:=
 #[r.nd,λa o h=>(r.ok a o h).mono g.ff λo e=>g.hh a o e,λa h=>g.out a (r.fr a h) (r.here h)]
variable{ho:HO}
def RepM.put{o':MO}(r:RepM K F H M)(e:mget M a=be o)(h:MRep K F (upd H a ho) a o'):RepM K F (upd H a ho) (mput M a o'):=
 ⟨by rw[hZ];exact r.nd,λb q hb=>by
  rcases mem_put r.nd hb with⟨rfl,rfl,_⟩|⟨ne,hb⟩
  .exact h
  .exact(r.ok b q hb).mono (Same.refl F) λu z=>by rw[ar ne];exact z,λb hb=>r.fr b (by rw[hZ]at hb;exact hb)⟩
def GrowM.put{o':MO}(fh:Same F H)(fa:F a=v7)(e:mget M a=be o):GrowM M (mput M a o') F H F (upd H a ho) where
 ff:=Same.refl F
 fh:=λb u z=>by
  have ne:b≠a:=by rintro rfl;rw[fa]at z;cases z
  rw[ar ne];exact fh b u z
 hh:=λb u nb z=>by
  have ne:b≠a:=by rintro rfl;exact nb (bW (bA e))
  rw[ar ne];exact z
 out:=λb _ h _=>h
 ks:=λb h=>.inl (by rw[hZ]at h;exact h)
def RepM.new{p:KF}(r:RepM K F H M)(fh:Same F H)(hp:H p=v7)(h:MRep K F (upd H p ho) p o):RepM K F (upd H p ho) ((p,o)::M):=by
 have np:p∉au M:=λz=>r.here z hp;refine#[HC.mpr #[np,r.nd],λb q hb=>?_,λb hb=>?_]
 .rcases GP.mp hb with z|z
  .cases z;exact h
  .exact(r.ok b q z).mono (Same.refl F) λu z'=>by rw[ar (λe:b=p=>np (e ▸ bW z))];exact z'
 .rcases GP.mp hb with z|z
  .rw[z];exact fh.free hp
  .exact r.fr b z
def GrowM.new{p:KF}(fh:Same F H)(hp:H p=v7):GrowM M ((p,o)::M) F H F (upd H p ho) where
 ff:=Same.refl F
 fh:=fh.trans (aO hp _)
 hh:=λb u _ z=>aO hp _ b u z
 out:=λb _ h _=>h
 ks:=λb h=>by
  rcases GP.mp h with z|z
  .exact .inr (by rw[z];exact hp)
  .exact .inl z
structure RepZ(K:Ex)(B F H:Hp)(z:SD)(s:L2.St)(M:MS):Prop where
 rs:RepS K B F H z s
 no:∀(i:Nat) ds,z[i]?≠be (be (.own ds))
 rm:RepM K F H M
 mb:∀a,a∈au M->B a=v7
variable{B:Hp}{M':MS}
def Kept.growM[Jx]{F0:Hp}(k:Kept B F0 F H)(mb:∀a,a∈au M->B a=v7)(g:GrowM M M' F H F' H'):Kept B F0 F' H' where
 bh:=λb o e=>g.hh b o (λz=>by rw[mb b z]at e;cases e) (k.bh b o e)
 fh:=g.fh
 f0:=k.f0.trans g.ff
 out:=λb h1 h2=>g.out b (λz=>h2 (mb b z)) (k.out b h1 h2) (by
  cases e:B b with
  |none=>exact absurd e h2
  |some o=>rw[k.bh b o e];exact λz=>nomatch z)
 eb:=k.eb
 jf:=k.jf
 jo:=k.jo
variable{z:SD}{s:L2.St}
def RepS.growM(r:RepS K B F H z s)(no:∀(i:Nat) ds,z[i]?≠be (be (.own ds)))(g:GrowM M M' F H F' H'):RepS K B F' H' z s where
 len:=r.len
 val:=λi d e n=>let ⟨v,q1,q2⟩:=r.val i d e n;#[v,q1,q2.mono g.ff]
 own:=λi ds e=>absurd e (no i ds)
 apart:=r.apart
def RepZ.growM(r:RepZ K B F H z s M)(bh:Same B H)(g:GrowM M M' F H F' H')(rm:RepM K F' H' M'):RepZ K B F' H' z s M':=
 ⟨r.rs.growM r.no g,r.no,rm,λa h=>by
  rcases g.ks a h with q|q
  .exact r.mb a q
  .exact bh.free q⟩
def RepZ.set{i:Nat}{d:D}{v:V}(r:RepZ K B F H z s M)(rd:Rep K F d v):RepZ K B F H (z.set i (be d)) (s.set i (be v)) M:=
 ⟨r.rs.set rd,λj ds e=>by
  by_cases hj:i=j
  .subst hj;rw[HM]at e;simp at e;have:=rd.noown;rw[e.2]at this;cases this
  .rw[G2 hj]at e;exact r.no j ds e,r.rm,r.mb⟩
class Jm extends Jx where
 RM:SD->MS->XD
abbrev TME:=SD->MS->(D->MS->Prop)->Prop
abbrev TMT:=SD->MS->(Bool->MS->Prop)->Prop
abbrev TMA:=SD->MS->(List D->MS->Prop)->Prop
structure EndsM where
 nx:SD->MS->Prop
 rt:D->MS->Prop
 bk:SD->MS->Prop:=λ_ _=>False
 ct:SD->MS->Prop:=λ_ _=>False
abbrev TMS:=EndsM->SD->MS->Prop
def mE(K:Ex)[J:Jm](t:TME):TE:=λs H Q=>∃F z M,Kept J.B J.F0 F H/\RepZ K J.B F H z s M/\∃R:D->MS->Prop,t z M R/\∀d v M' F' H',GrowM M M' F H F' H'->R d M'->Rep K F' d v->RepM K F' H' M'->Q v H'
def mT(K:Ex)[J:Jm](t:TMT):TT:=λs H Q=>∃F z M,Kept J.B J.F0 F H/\RepZ K J.B F H z s M/\∃R:Bool->MS->Prop,t z M R/\∀b M' F' H',GrowM M M' F H F' H'->R b M'->RepM K F' H' M'->Q b H'
def mA(K:Ex)[J:Jm](t:TMA):TA:=λs H Q=>∃F z M,Kept J.B J.F0 F H/\RepZ K J.B F H z s M/\∃R:List D->MS->Prop,t z M R/\∀ds vs M' F' H',GrowM M M' F H F' H'->R ds M'->Reps K F' ds vs->RepM K F' H' M'->Q vs H'
structure EndsOkM[J:Jm](K:Ex)(F0:Hp)(ED:EndsM)(E:Ends):Prop where
 nx:∀z' s' M' F' H',Kept J.B F0 F' H'->ED.nx z' M'->RepZ K J.B F' H' z' s' M'->E.nx s' H'
 rt:∀d v M' F' H',Kept J.B F0 F' H'->ED.rt d M'->Rep K F' d v->RepM K F' H' M'->(∀a,a∈au M'->J.B a=v7)->E.rt v H'
 bk:∀z' s' M' F' H',Kept J.B F0 F' H'->ED.bk z' M'->RepZ K J.B F' H' z' s' M'->E.bk s' H'
 ct:∀z' s' M' F' H',Kept J.B F0 F' H'->ED.ct z' M'->RepZ K J.B F' H' z' s' M'->E.ct s' H'
def mS(K:Ex)[J:Jm](t:TMS):TS:=λE s H=>∃F0 F z M,Kept J.B F0 F H/\RepZ K J.B F H z s M/\∃ED:EndsM,t ED z M/\EndsOkM K F0 ED E
structure ME(X:Cx)[Jm](e:SZ)(t:TME):Prop where
 out:PE X e (mE X.K t)
structure MT(X:Cx)[Jm](e:SZ)(t:TMT):Prop where
 out:PT X e (mT X.K t)
structure MW(X:Cx)[Jm](e:SZ)(t:TMT):Prop where
 out:PW X e (mT X.K t)
structure MA(X:Cx)[Jm](es:List SZ)(t:TMA):Prop where
 out:PA X es (mA X.K t)
structure MSt(X:Cx)[Jm](st:SB)(t:TMS):Prop where
 out:PS X st (mS X.K t)
structure MSs(X:Cx)[Jm](st:List SB)(t:TMS):Prop where
 out:PSs X st (mS X.K t)
section
variable {X:Cx}{a b c e:SZ}{ta tb:TME}{pos:Ub}
def mP(t:TD):TME:=λz M R=>t z λd=>R d M
def mPT(t:TDT):TMT:=λz M R=>t z λd=>R d M
def mPA(t:TDA):TMA:=λz M R=>t z λd=>R d M
def ag[J:Jm]{t:TD}(h:WDE X e t):ME X e (mP t):=⟨PE.anti h.out λs H Q q=>by
 obtain⟨F,z,M,k,r,R,h1,h2⟩:=q;exact#[J.B,F,z,k,r.rs,_,h1,λd v F' H' g hd rd=>h2 d v M F' H' g.toM hd rd (r.rm.grow g)]⟩
def bx[J:Jm]{t:TDT}(h:WDT X e t):MT X e (mPT t):=⟨PT.anti h.out λs H Q q=>by
 obtain⟨F,z,M,k,r,R,h1,h2⟩:=q;exact#[J.B,F,z,k,r.rs,_,h1,λd F' H' g hd=>h2 d M F' H' g.toM hd (r.rm.grow g)]⟩
variable{es:List SZ}
def aB[J:Jm]{t:TDA}(h:WDA X es t):MA X es (mPA t):=⟨PA.anti h.out λs H Q q=>by
 obtain⟨F,z,M,k,r,R,h1,h2⟩:=q;exact#[J.B,F,z,k,r.rs,_,h1,λd v F' H' g hd rd=>h2 d v M F' H' g.toM hd rd (r.rm.grow g)]⟩
def mOp(r:RD2)(ta tb:TME):TME:=λz M R=>ta z M λx M1=>tb z M1 λy M2=>r x y λd=>R d M2
variable{r:R2}{rd:RD2}
def tI[J:Jm]{e:SZ}{ta tb:TME}(L:bf X.K r rd)(h:PE X e (tOp r (mE X.K ta) (mE X.K tb))):ME X e (mOp rd ta tb):=⟨h.anti λs H Q q=>by
 obtain⟨F,z,M,k,rs,R,h1,h2⟩:=q;refine#[F,z,M,k,rs,_,h1,λx u M1 F1 H1 g1 hx rx m1=>?_];refine#[F1,z,M1,k.growM rs.mb g1,rs.growM k.bh g1 m1,_,hx,λy v M2 F2 H2 g2 hy ry m2=>?_];exact L x y u v F2 H2 _ Q g2.fh hy (rx.mono g2.ff) ry λd w F3 H3 g3 hd rd=>h2 d w M2 F3 H3 ((g1.trans g2).trans g3.toM) hd rd (m2.grow g3)⟩
def tJ[J:Jm]{op:Vk}(ho:OpR X (Uq op) r)(L:bf X.K r rd)(ha:ME X a ta)(hb:ME X b tb):ME X (.BinOp a op b pos) (mOp rd ta tb):=tI L (jN ho ha.out hb.out)
def tK[J:Jm](ha:ME X a ta)(hb:ME X b tb)(hs:autoParam (eK b) zA6):ME X (.Subscript a b pos) (mOp rdIx ta tb):=tI sq (pe_ix rC ha.out hb.out hs)
def ia[Jm](ha:ME X a ta)(hb:ME X b tb):ME X (.BinOp a .Add b pos) (mOp rdAdd ta tb):=tJ rV rW ha hb
def dv[Jm](ha:ME X a ta)(hb:ME X b tb):ME X (.BinOp a .Sub b pos) (mOp rdSub ta tb):=tJ qI rX ha hb
def mTst(t:TME):TMT:=λz M R=>t z M λx M1=>match x with|.bl k=>R k M1|_=>False
def fo[J:Jm]{op:VY}(ho:OpR X (Ul op) r)(L:bf X.K r rd)(ha:ME X a ta)(hb:ME X b tb)(hm:Us op b=false):MT X (.Compare a [op] [b] pos) (mTst (mOp rd ta tb)):=⟨(qS ho ha.out hb.out hm).anti λs H Q q=>by
 obtain⟨F,z,M,k,rs,R,h1,h2⟩:=q;refine#[F,z,M,k,rs,_,h1,λx u M1 F1 H1 g1 hx rx m1=>?_];refine#[F1,z,M1,k.growM rs.mb g1,rs.growM k.bh g1 m1,_,hx,λy v M2 F2 H2 g2 hy ry m2=>?_];refine L x y u v F2 H2 _ _ g2.fh hy (rx.mono g2.ff) ry λd w F3 H3 g3 hd rd=>?_;dsimp only at hd;split at hd
 .exact#[_,rep_bl.mp rd,h2 _ M2 F3 H3 ((g1.trans g2).trans g3.toM) hd (m2.grow g3)]
 .exact hd.elim⟩
def tL[Jm](ha:ME X a ta)(hb:ME X b tb):MT X (.Compare a [.Lt] [b] pos) (mTst (mOp rdLt ta tb)):=fo qO se ha hb (nomark _)
def Ag[Jm](ha:ME X a ta)(hb:ME X b tb):MT X (.Compare a [.Gt] [b] pos) (mTst (mOp rdGt ta tb)):=fo qP sf ha hb (nomark _)
def ib[Jm](ha:ME X a ta)(hb:ME X b tb):MT X (.Compare a [.Eq] [b] pos) (mTst (mOp rdEq ta tb)):=fo jO kh ha hb (nomark _)
def kH[Jm](ha:ME X a ta)(hb:ME X b tb):MT X (.Compare a [.NotEq] [b] pos) (mTst (mOp rdNe ta tb)):=fo qN si ha hb (nomark _)
def kI[Jm](ha:ME X a ta)(hb:ME X b tb):MT X (.Compare a [.Is] [b] pos) (mTst (mOp (rdIs id) ta tb)):=fo qQ sk ha hb (nomark _)
def Ah[Jm](ha:ME X a ta)(hb:ME X b tb)(hm:autoParam (Us .NotIn b=false) zA0):MT X (.Compare a [.NotIn] [b] pos) (mTst (mOp (rdIn true) ta tb)):=fo Aa zZ ha hb hm
variable {tA tB:TMT}{rest:List SZ}
def mt_w[Jm](h:MW X a tA):MT X a tA:=#[PW.pt h.out]
def Ai[Jm](ha:MT X a tA):MW X (.BoolOp .And [a] pos) tA:=#[qv ha.out]
def ic[Jm](ha:MT X a tA):MW X (.BoolOp .Or [a] pos) tA:=#[qw ha.out]
def mAnd(tA tB:TMT):TMT:=λz M R=>tA z M λk M1=>if k=true then tB z M1 R else R false M1
def mOr(tA tB:TMT):TMT:=λz M R=>tA z M λk M1=>if k=true then R true M1 else tB z M1 R
def Aj[J:Jm](ha:MT X a tA)(hb:MW X (.BoolOp .And (b::rest) pos) tB):MW X (.BoolOp .And (a::b::rest) pos) (mAnd tA tB):=⟨(qy ha.out hb.out).anti λs H Q q=>by
 obtain⟨F,z,M,k,rs,R,h1,h2⟩:=q;refine#[F,z,M,k,rs,_,h1,λx M1 F1 H1 g1 hx m1=>?_];cases x with
 |true=>exact#[F1,z,M1,k.growM rs.mb g1,rs.growM k.bh g1 m1,R,hx,λy M2 F2 H2 g2 hy m2=>h2 y M2 F2 H2 (g1.trans g2) hy m2]
 |false=>exact h2 _ M1 F1 H1 g1 hx m1⟩
def ie[J:Jm](ha:MT X a tA)(hb:MW X (.BoolOp .Or (b::rest) pos) tB):MW X (.BoolOp .Or (a::b::rest) pos) (mOr tA tB):=⟨(qz ha.out hb.out).anti λs H Q q=>by
 obtain⟨F,z,M,k,rs,R,h1,h2⟩:=q;refine#[F,z,M,k,rs,_,h1,λx M1 F1 H1 g1 hx m1=>?_];cases x with
 |false=>exact#[F1,z,M1,k.growM rs.mb g1,rs.growM k.bh g1 m1,R,hx,λy M2 F2 H2 g2 hy m2=>h2 y M2 F2 H2 (g1.trans g2) hy m2]
 |true=>exact h2 _ M1 F1 H1 g1 hx m1⟩
def mIf(tc:TMT)(ta tb:TME):TME:=λz M R=>tc z M λk M1=>if k=true then ta z M1 R else tb z M1 R
def gf[J:Jm]{tc:TMT}(hc:MT X c tc)(ha:ME X a ta)(hb:ME X b tb):ME X (.IfExp c a b pos) (mIf tc ta tb):=⟨(wG hc.out ha.out hb.out).anti λs H Q q=>by
 obtain⟨F,z,M,k,rs,R,h1,h2⟩:=q;refine#[F,z,M,k,rs,_,h1,λx M1 F1 H1 g1 hx m1=>?_];cases x with
 |true=>exact#[F1,z,M1,k.growM rs.mb g1,rs.growM k.bh g1 m1,R,hx,λd v M2 F2 H2 g2 hy rd m2=>h2 d v M2 F2 H2 (g1.trans g2) hy rd m2]
 |false=>exact#[F1,z,M1,k.growM rs.mb g1,rs.growM k.bh g1 m1,R,hx,λd v M2 F2 H2 g2 hy rd m2=>h2 d v M2 F2 H2 (g1.trans g2) hy rd m2]⟩
def mNil:TMA:=λ_ M R=>R [] M
def Ak(ta:TME)(tr:TMA):TMA:=λz M R=>ta z M λx M1=>tr z M1 λxs M2=>R (x::xs) M2
def aY[J:Jm]:MA X [] mNil:=⟨pa_nil.anti λs H Q q=>by
 obtain⟨F,z,M,k,rs,R,h1,h2⟩:=q;exact h2 [] [] M F H (GrowM.refl k.fh) h1 (reps_nil.mpr rfl) rs.rm⟩
variable{t:TMA}
def aF[J:Jm]{e:SZ}{te:TME}(ha:ME X e te)(hr:MA X es t)(hs:autoParam (zSE X e es) zA0):MA X (e::es) (Ak te t):=⟨(bv ha.out hr.out hs).anti λs H Q q=>by
 obtain⟨F,z,M,k,rs,R,h1,h2⟩:=q;refine#[F,z,M,k,rs,_,h1,λx u M1 F1 H1 g1 hx rx m1=>?_];refine#[F1,z,M1,k.growM rs.mb g1,rs.growM k.bh g1 m1,_,hx,λxs us M2 F2 H2 g2 hy ry m2=>?_];exact h2 _ _ M2 F2 H2 (g1.trans g2) hy (reps_cons.mpr #[_,_,rfl,rx.mono g2.ff,ry]) m2⟩
def mTup(t:TMA):TME:=λz M R=>t z M λxs M1=>xs.length<=1000/\R (.tup xs) M1
def tM[J:Jm]{x1}(h:MA X es t):ME X (.Tuple es x1 pos) (mTup t):=⟨(rb h.out).anti λs H Q q=>by
 obtain⟨F,z,M,k,rs,R,h1,h2⟩:=q;refine#[F,z,M,k,rs,_,h1,λds vs M1 F1 H1 g1 hx rx m1=>?_];have hl:=rx.length;refine#[sz (by rw[hl];exact hx.1),λp hp=>?_];have gn:=Grow.new g1.fh hp (.tup vs);exact h2 _ _ M1 _ _ (g1.trans gn.toM) hx.2 (rep_tupS.mpr #[p,vs,rfl,aA,rx.mono (aO (g1.fh.free hp) _)]) (m1.grow gn)⟩
def mLst(t:TMA):TME:=λz M R=>t z M λxs M1=>xs.length<=1000/\∀p,p∉au M1->R (.ptr p) ((p,.lst xs)::M1)
def kJ[J:Jm](h:MA X es t):ME X (.List es pos) (mLst t):=⟨(jS h.out).anti λs H Q q=>by
 obtain⟨F,z,M,k,rs,R,h1,h2⟩:=q;refine#[F,z,M,k,rs,_,h1,λds vs M1 F1 H1 g1 hx rx m1=>?_];have hl:=rx.length;refine#[sz (by rw[hl];exact hx.1),λp hp=>?_];exact h2 _ _ _ F1 _ (g1.trans (GrowM.new g1.fh hp)) (hx.2 p λz=>m1.here z hp) (rep_ptr.mpr rfl) (m1.new g1.fh hp #[vs,aA,rx])⟩
def mCB(r:RDn)(t:TMA):TME:=λz M R=>t z M λds M1=>r ds λd=>R d M1
variable{x:Kq}{p:Ub}
def Al[J:Jm]{e:SZ}{id:String}{r:List V->Hp->VK->Prop}{rd:RDn}(hc:bK X (.builtin id) r)(L:cy X.K r rd)(hm:X.mg x=v7)(hv:Ui x=be (.builtin id))(ha:MA X (e::es) t)(hg:autoParam (Gl X x) zA0)(hn:autoParam (x≠"__name__") zA1)(d5:autoParam (zND x) zA1)
  (he:autoParam (zSE X e es) zA0) (c7:autoParam (zPL X pos es) zA0):ME X (.Call (.Name x p) (e::es) [] pos) (mCB rd t):=⟨(fP hc hg hm hv ha.out hn d5 he c7).anti λs H Q h=>by
 obtain⟨F,z,M,k,rs,R,h1,h2⟩:=h;refine#[F,z,M,k,rs,_,h1,λds vs M1 F1 H1 g1 hx rx m1=>?_];exact L ds vs F1 H1 _ Q g1.fh hx rx λd w F' H' g hd rd=>h2 d w M1 F' H' (g1.trans g.toM) hd rd (m1.grow g)⟩
def tN[Jm]{e:SZ}(hm:X.mg "len"=v7)(ha:MA X [e] t)(hg:autoParam (Gl X "len") zA0)(he:autoParam (zSE X e []) zA0):ME X (.Call (.Name "len" p) [e] [] pos) (mCB rdLen t):=Al jP ss hm PySem.boot_len ha hg Lj Lj he
def Am[J:Jm]{e:SZ}{T:String}{r:List V->Hp->VK->Prop}{rd:RDn}(hc:bK X (.type T) r)(L:cy X.K r rd)(hm:X.mg x=v7)(hv:Ui x=be (.type T))(ha:MA X (e::es) t)(hg:autoParam (Gl X x) zA0)(hn:autoParam (x≠"__name__") zA1)(d5:autoParam (zND x) zA1)
  (he:autoParam (zSE X e es) zA0) (c7:autoParam (zPL X pos es) zA0):ME X (.Call (.Name x p) (e::es) [] pos) (mCB rd t):=⟨(jT hc hg hm hv ha.out hn d5 he c7).anti λs H Q h=>by
 obtain⟨F,z,M,k,rs,R,h1,h2⟩:=h;refine#[F,z,M,k,rs,_,h1,λds vs M1 F1 H1 g1 hx rx m1=>?_];exact L ds vs F1 H1 _ Q g1.fh hx rx λd w F' H' g hd rd=>h2 d w M1 F' H' (g1.trans g.toM) hd rd (m1.grow g)⟩
def tO[Jm](hm:X.mg "int"=v7)(ha:MA X [e] t)(hg:autoParam (Gl X "int") zA0)(he:autoParam (zSE X e []) zA0):ME X (.Call (.Name "int" p) [e] [] pos) (mCB rdInt t):=Am sH sI hm PyProof.Rows.boot_int ha hg Lj Lj he
def dz(M:MS)(d:D)(x:Kq)(fs:List (Kq×D)):Prop:=match d with|.ptr a=>mget M a=be (.ins x fs)|.obj y gs=>y=x/\gs=fs|_=>False
def mFld(x f:Kq)(te:TME):TME:=λz M R=>te z M λd M1=>∃fs,dz M1 d x fs/\∃d',fs.lookup f=be d'/\R d' M1
def ig{K:Ex}{F H:Hp}{M:MS}{d:D}{v:V}{fs:List (Kq×D)}(fh:Same F H)(rm:RepM K F H M)(rd:Rep K F d v)(h:dz M d x fs):∃a C dx ws,v=.ref a/\nsIn K Pi x=be (be (.ref C))/\H a=be (.ins C dx ws)/\RepF K F fs ws:=by
 unfold dz at h;split at h
 .rename_i a;obtain⟨C,dx,ws,n,h1,h2⟩:=rm.ok _ _ (bA h);exact#[a,C,dx,ws,rep_ptr.mp rd,n,h1,h2]
 .obtain⟨rfl,rfl⟩:=h;obtain⟨a,C,dx,ws,e,n,h1,h2⟩:=rep_obj.mp rd;exact#[a,C,dx,ws,e,n,fh _ _ h1,h2]
 .exact h.elim
def aE[J:Jm]{f:Kq}(hA:ClsA X.K x f)(he:ME X e ta)(hb:autoParam (T9 e f X.env (T_ e X.env)=T_ e X.env) zA0):ME X (.Attribute e f pos) (mFld x f ta):=⟨(qY he.out hb).anti λs H Q q=>by
 obtain⟨C,hn,hc,hf⟩:=hA;obtain⟨F,z,M,k,rs,R,h1,h2⟩:=q;refine#[F,z,M,k,rs,_,h1,λd u M1 F1 H1 g1 hx rx m1=>?_];obtain⟨fs,hi,d',hl,hR⟩:=hx;obtain⟨a,C',dx,ws,rfl,g8,hH,rf⟩:=ig g1.fh m1 rx hi;rw[hn]at g8;cases g8;obtain⟨v,l,rv⟩:=rf.look hl;exact#[a,C,dx,ws,v,rfl,hH,hc,hf,l,h2 d' v M1 F1 H1 g1 hR rv m1]⟩
end
abbrev XDM:=Kq->List (Kq×D)->MS->Prop
abbrev SpM:=List D->MS->(D->MS->Prop)->XDM->Prop
def lSpM(K:Ex)(S:SpM):Sp:=λvs H Q E=>∃F ds M,Same F H/\Reps K F ds vs/\RepM K F H M/\∃(R:D->MS->Prop) (RX:XDM),S ds M R RX/\(∀d v M' F' H',GrowM M M' F H F' H'->R d M'->Rep K F' d v->RepM K F' H' M'->Q v H')/\
 ∀x fs C od M' F' H',GrowM M M' F H F' H'->RX x fs M'->ErrD K F' x fs C od->RepM K F' H' M'->E (.ref C) od H'
abbrev CalMM(P:T3)(w:T5)(K:Ex)(mg:Kq->Option KB)(base:Heap)(n:Nat)(x:Kq)(ps:List Kq)(S:SpM):Prop:=Cal P w K mg base n x ps (lSpM K S)
def ofX(S:SpX):SpM:=λds M R RX=>S ds (λd=>R d M) λx fs=>RX x fs M
def ofD(S:SpD):SpM:=λds M R _=>S ds λd=>R d M
variable{vs:List V}
def An{S:SpX}{Q:VK}{E:XK}(h:lSpM K (ofX S) vs H Q E):lSpX K S vs H Q E:=by
 obtain⟨F,ds,M,fh,rs,rm,R,RX,hS,q,qx⟩:=h;exact#[F,ds,fh,rs,_,_,hS,λd v F' H' g hd rd=>q d v M F' H' g.toM hd rd (rm.grow g),λx fs C od F' H' g hR er=>qx x fs C od M F' H' g.toM hR er (rm.grow g)]
def Ao{S:SpD}{Q:VK}{E:XK}(h:lSpM K (ofD S) vs H Q E):lSp K S vs H Q E:=by
 obtain⟨F,ds,M,fh,rs,rm,R,RX,hS,q,qx⟩:=h;exact#[F,ds,fh,rs,_,hS,λd v F' H' g hd rd=>q d v M F' H' g.toM hd rd (rm.grow g)]
section
variable {P:T3}{w:T5}{K:Ex}{mg:Kq->Option KB}{base:Heap}{n:Nat}{x:Kq}{ps:List Kq}
def CalX.toM{S:SpX}(C:CalX P w K mg base n x ps S):CalMM P w K mg base n x ps (ofX S):=by
 obtain⟨f,fd,F,hb,hk,hm⟩:=C;exact#[f,fd,F.imp λvs H Q E h=>An h,hb,hk,hm]
def CalD.toM{S:SpD}(C:CalD P w K mg base n x ps S):CalMM P w K mg base n x ps (ofD S):=by
 obtain⟨f,fd,F,hb,hk,hm⟩:=C;exact#[f,fd,F.imp λvs H Q E h=>Ao h,hb,hk,hm]
def CalMth(P:T3)(w:T5)(K:Ex)(mg:Kq->Option KB)(base:Heap)(n:Nat)(x m:Kq)(ps:List Kq)(sp:Sp):Prop:=
 ∃C f fd,nsIn K Pi x=be (be (.ref C))/\Cls K C/\Meth K C m f/\FnOk P w K mg base (CX1 P w) n f fd ps sp/\Binds K fd ps []
variable{sp:Sp}
def Cal.mono{n':Nat}(h:Cal P w K mg base n x ps sp)(hn:n<=n'):Cal P w K mg base n' x ps sp:=by
 obtain⟨f,fd,F,h⟩:=h;exact#[f,fd,F.mono hn,h]
def Cal.imp{KW:Sp}(h:Cal P w K mg base n x ps sp)(i:∀vs H Q E,KW vs H Q E->sp vs H Q E):Cal P w K mg base n x ps KW:=by
 obtain⟨f,fd,F,h⟩:=h;exact#[f,fd,F.imp i,h]
def CalMth.imp{m:Kq}{KW:Sp}(h:CalMth P w K mg base n x m ps sp)(i:∀vs H Q E,KW vs H Q E->sp vs H Q E):CalMth P w K mg base n x m ps KW:=by
 obtain⟨C,f,fd,h1,h2,h3,h4,h5⟩:=h;exact#[C,f,fd,h1,h2,h3,h4.imp i,h5]
end
def XOkM(X:Cx)[J:Jm]:Prop:=∀(σ:L2.St) (z:SD) (M:MS) (F H:Hp) (s:Os) (e C:KF) (od:Option KF) (x:Kq) (fs:List (Kq×D)),Inv X [] σ H s->Kept J.B J.F0 F H->RepZ X.K J.B F H z σ M->J.RM z M x fs->ErrD X.K F x fs C od->Exd X H s e C od->X.xe (.ref e) s
def EX(X:Cx)[J:Jm](z:SD)(σ:L2.St):XK:=λCv od H'=>∃x fs C M' F',Cv=.ref C/\Kept J.B J.F0 F' H'/\RepZ X.K J.B F' H' z σ M'/\J.RM z M' x fs/\ErrD X.K F' x fs C od
def XOkM.out{X:Cx}[J:Jm](hx:XOkM X)(d9:X.ex=[]){pins:List (KF×Uj)}{σ:L2.St}{s s':Os}{ev:KB}(I:Inv X pins σ H s)
  (h:CX1 X.prog X.w X.stack H s (EX X z σ) ev s'):X.xe ev s':=by
 obtain⟨e,C,od,T,H',rfl,Kt,hb,un,hok,Ov,ne,nT,He,HT,x,fs,C',M',F',hC,kk,rr,hR,er⟩:=h;cases hC;have I':Inv X pins σ H' s':=I.call' Kt un hok hb (λb z=>absurd z Ln);exact hx σ z M' F' H' s' e C od x fs (Inv.nopins I') kk rr hR er #[He,cI I d9 ne,pn_free I ne,.inr #[T,Ov,cI I d9 nT,HT,pn_free I nT]]
section
variable {X:Cx}[J:Jm]{a b c e o:SZ}{ta tb te:TME}{pos p apos cpos:Ub}{n m:Nat}{ps:List Kq}{S:SpM}{x:Kq}{es:List SZ}{t:TMA}
def Ap(S:SpM)(t:TMA):TME:=λz M R=>t z M λds M1=>S ds M1 R λx fs M'=>J.RM z M' x fs
variable{ds:List My.D}{vs:List V}
def ii{σ:L2.St}{z:SD}{M M1:MS}{F H F1 H1:Hp}{Q:VK}{R:D->MS->Prop}(k:Kept J.B J.F0 F H)(rs:RepZ X.K J.B F H z σ M)(g1:GrowM M M1 F H F1 H1)(m1:RepM X.K F1 H1 M1)(rx:Reps X.K F1 ds vs)
  (hS:S ds M1 R λx fs M'=>J.RM z M' x fs) (h2:∀d v M' F' H',GrowM M M' F H F' H'->R d M'->Rep X.K F' d v->RepM X.K F' H' M'->Q v H'):lSpM X.K S vs H1 Q (EX X z σ):=
 #[F1,ds,M1,g1.fh,rx,m1,R,_,hS,λd v M' F' H' g hd rd m'=>h2 d v M' F' H' (g1.trans g) hd rd m',λy fs C od M' F' H' g hR er m'=>#[y,fs,C,M',F',rfl,(k.growM rs.mb g1).growM (rs.growM k.bh g1 m1).mb g,(rs.growM k.bh g1 m1).growM (k.growM rs.mb g1).bh g m',hR,er]]
def aM(C:CalMM X.prog X.w X.K X.mg X.base n x ps S)(hx:XOkM X)(hr:Room m X.A)(ha:MA X (e::es) t)(d9:autoParam (X.ex=[]) zA0)(hg:autoParam (Gl X x) zA0)(hn:autoParam (n<=m) zA1)(d5:autoParam (zND x) zA1)
  (he:autoParam (zSE X e es) zA0) (c7:autoParam (zPL X pos es) zA0):
  ME X (.Call (.Name x p) (e::es) [] pos) (Ap S t):=by
 obtain⟨f,fd,F,hb,hk,hm⟩:=C;refine#[λpins s σ H Q I h=>?_];obtain⟨Fr,z,M,k,rs,R,h1,h2⟩:=h;refine Uc (cx I hg hm ?_ d5);refine callWith_K (h₀:=X.base) I.ok.mod.kin hk (thn (ha.out pos pins s σ H (λvs H1=>lSpM X.K S vs H1 Q (EX X z σ)) I #[Fr,z,M,k,rs,_,h1,λds vs M1 F1 H1 g1 hx rx m1=>ii k rs g1 m1 rx hx h2]) λus s1 hh=>#[hh.elim λ_ h=>h.elim λ_ h=>h.1.kIn,?_]) he c7;obtain⟨vs,H1,I1,r,q⟩:=hh;exact gX F (hr.mono hn) hb (λe s' hq=>hx.out d9 I1 hq) I1 r q
def tP(cs:List Kq)(m:Kq)(S:Kq->SpM)(to:TME)(t:TMA):TME:=λz M R=>to z M λd M1=>∃x,x∈cs/\∃fs,dz M1 d x fs/\fs.lookup m=v7/\t z M1 λds M2=>S x (d::ds) M2 R λx fs M'=>J.RM z M' x fs
variable{cs:List Kq}{pl:Vz Bool}
def aS{nm:Kq}{S:Kq->SpM}(C:∀x,x∈cs->CalMth X.prog X.w X.K X.mg X.base n x nm ps (lSpM X.K (S x)))(hx:XOkM X)(hr:Room m X.A)(ho:ME X o te)(ha:MA X (e::es) t)(d9:autoParam (X.ex=[]) zA0)(hn:autoParam (n<=m) zA1)
  (k9:autoParam (zSE X e es) zA0) (c7:autoParam (zPL X pos es) zA0)
  (ht:T_ (.Call (.Attribute o nm apos) (e::es) [] pos) X.env=(do
   let ov <-T_ o X.env
   UO apos.atName
   let (f,first) <-Uu [ov] (U2 ov nm pl)
   VF pos f first (UD pos (T7 (e::es) X.env)) (UW pos (UB [] X.env))):=by rfl):
  ME X (.Call (.Attribute o nm apos) (e::es) [] pos) (tP cs nm S te t):=by
 refine#[λpins s σ H Q I h=>?_];obtain⟨Fr,z,M,k,rs,R,h1,h2⟩:=h;refine methodCall_KW (pl:=pl) (thn (ho.out pins s σ H (λv H1=>∃d M1 F1,GrowM M M1 Fr H F1 H1/\Rep X.K F1 d v/\RepM X.K F1 H1 M1/\∃x,x∈cs/\∃fs,dz M1 d x fs/\fs.lookup nm=v7/\t z M1 λds M2=>S x (d::ds) M2 R λx fs M'=>J.RM z M' x fs) I #[Fr,z,M,k,rs,_,h1,λd v M1 F1 H1 g1 hd rd m1=>#[d,M1,F1,g1,rd,m1,hd]]) λu s1 hh=>?_) ht;obtain⟨v,H1,I1,rv,d,M1,F1,g1,rd,m1,x,OL,fs,hi,hl,hq⟩:=hh;obtain⟨C',f,fd,hns,g9,K1,F,hb⟩:=C x OL;obtain⟨a,C2,dx,ws,rfl,n5,hH,rf⟩:=ig g1.fh m1 rd hi;rw[hns]at n5;cases n5;obtain rfl:u=Value.ref a:=rv;refine jR I1 hH g9 K1 (rf.none hl) ?_;refine callWith_K (first:=[.ref a]) (h₀:=X.base) I.ok.mod.kin K1.kp (thn (ha.out pos pins s1 σ H1 (λvs H2=>lSpM X.K (S x) (.ref a::vs) H2 Q (EX X z σ)) I1 #[F1,z,M1,k.growM rs.mb g1,rs.growM k.bh g1 m1,_,hq,λds vs M2 F2 H2 g2 hx rx m2=>ii k rs (g1.trans g2) m2 (reps_cons.mpr #[_,_,rfl,rd.mono g2.ff,rx]) hx h2]) λus s2 hh=>#[hh.elim λ_ h=>h.elim λ_ h=>h.1.kIn,?_]) k9 c7;obtain⟨vs,H2,I2,r,q2⟩:=hh;exact gX (us:=.ref a::us) (vs:=.ref a::vs) F (hr.mono hn) hb (λe s' hq=>hx.out d9 I2 hq) I2 (.cons rfl r) q2
def cr{nm:Kq}{S:Kq->SpM}(C:∀x,x∈cs->CalMth X.prog X.w X.K X.mg X.base n x nm ps (lSpM X.K (S x)))(hx:XOkM X)(hr:Room m X.A)(ho:ME X o te)(d9:autoParam (X.ex=[]) zA0)(hn:autoParam (n<=m) zA1)
  (ht:T_ (.Call (.Attribute o nm apos) [] [] pos) X.env=(do
   let ov <-T_ o X.env
   UO apos.atName
   let (f,first) <-Uu [ov] (U2 ov nm pl)
   VF pos f first (UD pos (T7 [] X.env)) (UW pos (UB [] X.env))):=by rfl):
  ME X (.Call (.Attribute o nm apos) [] [] pos) (tP cs nm S te mNil):=by
 refine#[λpins s σ H Q I h=>?_];obtain⟨Fr,z,M,k,rs,R,h1,h2⟩:=h;refine methodCall_KW (pl:=pl) (thn (ho.out pins s σ H (λv H1=>∃d M1 F1,GrowM M M1 Fr H F1 H1/\Rep X.K F1 d v/\RepM X.K F1 H1 M1/\∃x,x∈cs/\∃fs,dz M1 d x fs/\fs.lookup nm=v7/\S x [d] M1 R λx fs M'=>J.RM z M' x fs) I #[Fr,z,M,k,rs,_,h1,λd v M1 F1 H1 g1 hd rd m1=>#[d,M1,F1,g1,rd,m1,hd]]) λu s1 hh=>?_) ht;obtain⟨v,H1,I1,rv,d,M1,F1,g1,rd,m1,x,OL,fs,hi,hl,hq⟩:=hh;obtain⟨C',f,fd,hns,g9,K1,F,hb⟩:=C x OL;obtain⟨a,C2,dx,ws,rfl,n5,hH,rf⟩:=ig g1.fh m1 rd hi;rw[hns]at n5;cases n5;obtain rfl:u=Value.ref a:=rv;refine jR I1 hH g9 K1 (rf.none hl) ?_;refine callWith_K0 (first:=[.ref a]) I1.kIn K1.kp (gX (E:=EX X z σ) (us:=[.ref a]) (vs:=[.ref a]) F (hr.mono hn) hb (λe s' hq=>hx.out d9 I1 hq) I1 (.cons rfl .nil) ?_);exact ii k rs g1 m1 (eV rd) hq h2
def make_of{C:KF}{S:SiD}{x:Kq}{σ:L2.St}{z:SD}{M M1:MS}{F H F1 H1:Hp}{a dx:KF}{Q:VK}{E:XK}{T:List (Kq×D)->Prop}(g1:GrowM M M1 F H F1 H1)(m1:RepM X.K F1 H1 M1)(rx:Reps X.K F1 ds vs)(hS:S ds T)
  (ha:H1 a=v7) (p_:H1 dx=v7) (j9:dx≠a) (q:∀fs ws dx F' H',Grow F1 H1 F' H'->T fs->H' a=be (.ins C dx ws)->F' a=v7->RepF X.K F' fs ws->Q (.ref a) H'):
  lSi X.K C S (.ref a::(vs++[])) (upd (upd H1 dx (.own a)) a (.ins C dx [])) (λv H2=>v=.non/\Q (.ref a) H2) E:=
 #[a,dx,vs,H1,F1,ds,by rw[Hn],rfl,ha,p_,j9,g1.fh,rx,_,hS,λfs ws KD F' H' g hR e8 i8 rf=>#[rfl,q fs ws KD F' H' g hR e8 i8 rf]]
def Aq(x:Kq)(S:SiD)(t:TMA):TME:=λz M R=>t z M λds M1=>S ds λfs=>R (.obj x fs) M1
def ij{S:SiD}(M:CalM X.prog X.w X.K X.mg X.base n x ps S)(hr:Room m X.A)(ha:MA X (e::es) t)(hg:autoParam (Gl X x) zA0)(hn:autoParam (n+1<=m) zA1)(d5:autoParam (zND x) zA1)
  (he:autoParam (zSE X e es) zA0) (c7:autoParam (zPL X pos es) zA0):
  ME X (.Call (.Name x p) (e::es) [] pos) (Aq x S t):=by
 obtain⟨C,f,fd,hns,j_,mk,F,hb⟩:=M;refine#[(gK mk F (hr.mono hn) hg j_ hb .nil eO ha.out d5 he c7).anti λs H Q q=>?_];obtain⟨F,z,M,k,rs,R,h1,h2⟩:=q;refine#[F,z,M,k,rs,_,h1,λds vs M1 F1 H1 g1 hx rx m1=>?_];intro a dx ha p_ j9;refine make_of (σ:=s) (z:=z) (x:=x) g1 m1 rx hx ha p_ j9 λfs ws dx F' H' g hR e8 i8 rf=>?_;have s1:Same F' (upd F' a (.ins C dx ws)):=aO i8 _;have g2:Grow F1 H1 (upd F' a (.ins C dx ws)) H':=⟨g.ff.trans s1,λb o q=>by
  by_cases hb:b=a
  .subst hb;rw[aA]at q;cases q;exact e8
  .rw[ar hb]at q;exact g.fh b o q,g.hh,λb q1 q2=>by
  by_cases hb:b=a
  .subst hb;exact absurd ha q2
  .rw[ar hb];exact g.out b q1 q2⟩
 exact h2 (.obj x fs) (.ref a) M1 (upd F' a (.ins C dx ws)) H' (g1.trans g2.toM) hR (rep_obj.mpr #[a,C,dx,ws,rfl,hns,aA,RepF.mono s1 fs ws rf]) (m1.grow g2)
def Ar(x:Kq)(S:SiD)(t:TMA):TME:=λz M R=>t z M λds M1=>S ds λfs=>∀a,a∉au M1->R (.ptr a) ((a,.ins x fs)::M1)
def As{S:SiD}(M:CalM X.prog X.w X.K X.mg X.base n x ps S)(hr:Room m X.A)(ha:MA X (e::es) t)(hg:autoParam (Gl X x) zA0)(hn:autoParam (n+1<=m) zA1)(d5:autoParam (zND x) zA1)
  (he:autoParam (zSE X e es) zA0) (c7:autoParam (zPL X pos es) zA0):
  ME X (.Call (.Name x p) (e::es) [] pos) (Ar x S t):=by
 obtain⟨C,f,fd,hns,j_,mk,F,hb⟩:=M;refine#[(gK mk F (hr.mono hn) hg j_ hb .nil eO ha.out d5 he c7).anti λs H Q q=>?_];obtain⟨F,z,M,k,rs,R,h1,h2⟩:=q;refine#[F,z,M,k,rs,_,h1,λds vs M1 F1 H1 g1 hx rx m1=>?_];intro a dx ha p_ j9;refine make_of (σ:=s) (z:=z) (x:=x) g1 m1 rx hx ha p_ j9 λfs ws dx F' H' g hR e8 i8 rf=>?_;have na:a∉au M1:=λz=>m1.here z ha;have m2:=m1.grow g;refine h2 (.ptr a) (.ref a) _ F' H' (g1.trans #[g.ff,g.fh,λb o _ q=>g.hh b o q,λb _ q1 q2=>g.out b q1 q2,λb q=>?_]) (hR a na) (rep_ptr.mpr rfl) #[HC.mpr #[na,m2.nd],λb o q=>?_,λb q=>?_]
 .rcases GP.mp q with q|q
  .exact .inr (by rw[q];exact ha)
  .exact .inl q
 .rcases GP.mp q with q|q
  .cases q;exact#[C,dx,ws,hns,e8,rf]
  .exact m2.ok b o q
 .rcases GP.mp q with q|q
  .rw[q];exact i8
  .exact m2.fr b q
end
section
variable {X:Cx}{x:Kq}{e:SZ}{es:List SZ}{t:TA}{p cpos pos:Ub}{n m:Nat}{ps:List Kq}{S:SiD}
def ik(X:Cx)(σ:L2.St)(F1 H1:Hp)(x:Kq)(fs:List (Kq×D)):Prop:=∀F' H' s' e C od,Inv X [] σ H' s'->Grow F1 H1 F' H'->ErrD X.K F' x fs C od->Exd X H' s' e C od->X.xe (.ref e) s'
def Au(M:CalE X.prog X.w X.K X.mg X.base n x ps S)(hr:Room m X.A)(hc:X.calm=true)(ha:PA X (e::es) t)(d9:autoParam (X.ex=[]) zA0)(hg:autoParam (Gl X x) zA0)(hn:autoParam (n+1<=m) zA1)(d5:autoParam (zND x) zA1)
  (he:autoParam (zSE X e es) zA0) (c7:autoParam (zPL X cpos es) zA0):
  PS X (.Raise (be (.Call (.Name x p) (e::es) [] cpos)) v7 pos) (λ_ σ H=>t σ H λvs H1=>vs.length<=1000/\∃F1 ds,Same F1 H1/\Reps X.K F1 ds vs/\∃T:List (Kq×D)->Prop,S ds T/\∀fs,T fs->ik X σ F1 H1 x fs):=by
 obtain⟨C,N,bm,f,fd,k,hi,Mf,Fn,hb⟩:=M;intro pins s σ H D I h;obtain⟨nm,q,bs,sn,sub,ab,col,dd,k0,k1,k2,k3,k5,lk⟩:=k.obj;refine ke (nm:=nm) (q:=q) (C:=C) (N:=N) (bs:=bs) (bm:=bm) (hdct:=true) (sn:=sn) (sub:=sub) (ab:=ab) (col:=col) (dd:=dd) (k0:=k0) (k1:=k1) (k2:=k2) (k3:=k3) (k5:=k5) (newId:="ValueError.__new__") k.base (I.ok.hd hc) ?_;refine Uc (cx I hg k.mg ?_ d5);refine callWith_K (h₀:=X.base) I.ok.mod.kin k.kp (thn (ha cpos pins s σ H _ I h) λus s1 hh=>#[hh.elim λ_ h=>h.elim λ_ h=>h.1.kIn,?_]) he c7;obtain⟨vs,H1,I1,r,hl,F1,ds,OM,rx,T,hS,hT⟩:=hh;have hC:=I1.kIn _ _ lk;have R5:us.length<=sizeLine:=by rw[<-L2.Vals.length r];exact sz hl
 refine yx (g:=s1.gens) (d:=s1.drawn) (t:=s1.toks) (os:=s1.os) (rest:=us) I1.kIn (tail_of_in I1.kIn k.tail) hC hi (beq_iff_eq.mp Mf) (λh' ea hm=>?_) R5;have I2:=Inv.newx I1 d9 hm;have r2:Vals (V.ref ea::vs) (Value.ref ea::us):=.cons rfl r;have He:H1 ea=none:=fZ I1.hok hm.new;have z6:lEi X.K C S (V.ref ea::vs) (upd H1 ea (XN ea C v7)) (λv H'=>v=.non/\∃fs od F',Grow F1 H1 F' H'/\ik X σ F1 H1 x fs/\H' ea=be (XN ea C od)/\F' ea=v7/\ErrF X.K F' fs od) (λ_ _ _=>False):=
  #[ea,vs,H1,F1,ds,rfl,rfl,He,OM,rx,_,hS,λfs od F' H' g hR h1 h2 h3=>#[rfl,fs,od,F',g,hT fs hR,h1,h2,h3]]
 have b7:(Value.ref ea::us).length=ps.length:=by rw[<-L2.Vals.length r2];exact Fn.len _ _ _ _ z6
 have gV:=hb {s1 with heap:=h'} (Value.ref ea::us) I2.kIn (by rw[Hn];exact b7);rw[Hn]at gV;refine UF (UC (Fn.run _ X.stack _ _ #[Value.ref ea::us,[]] (Value.ref ea::us) _ _ _ ((hr.mono hn).make C us []) (I2.env0.make C us []) gV r2 z6) λrr s' hq=>?_);cases rr with
 |error e'=>exact(eO (X:=X) pins σ _ _ e' s' I2 hq:X.xe e' s')
 |ok fl=>
  cases fl with
  |next=>exact False.elim hq
  |brk=>exact False.elim hq
  |cont=>exact False.elim hq
  |ret u=>
   obtain⟨v,H',I3,rv,rfl,fs,od,F',g,hR,t_,R6,er⟩:=I2.after hq;obtain rfl:u=Value.none:=rv;refine#[rfl,?_];have e0:X.s₀.heap.get? ea=none:=cI I1 d9 hm.new;have I4:=Inv.drop I3 t_ e0;obtain⟨ta,sl,j3⟩:=XN.get I3.hok t_;have g4:Grow F1 H1 F' (del H' ea):=⟨g.ff,λb o q=>by
    have:b≠ea:=λz=>by rw[z,R6]at q;cases q
    rw[cn this];exact g.fh b o q,λb o q=>by
    have:b≠ea:=λz=>by rw[z,He]at q;cases q
    rw[cn this];exact g.hh b o q,g.out⟩
   refine#[ea,ta,od,sl,rfl,I3.kIn _ _ lk,j3,?_];exact hR F' (del H' ea) s' ea C od (Inv.nopins I4) g4 #[k.ns,er] #[gc,e0,pn_free I1 hm.new,.inl #[sl,_,j3,rfl]]
def Av(h:∃C N bm,ErrK X.K X.mg x C N bm/\ErrN X.K N)(hc:X.calm=true)(ha:PA X (e::es) t)(d9:autoParam (X.ex=[]) zA0)(hg:autoParam (Gl X x) zA0)(d5:autoParam (zND x) zA1)
  (he:autoParam (zSE X e es) zA0) (c7:autoParam (zPL X cpos es) zA0):
  PS X (.Raise (be (.Call (.Name x p) (e::es) [] cpos)) v7 pos) (λ_ σ H=>t σ H λvs H1=>vs.length<=1000/\∃F1,Same F1 H1/\ik X σ F1 H1 x []):=by
 obtain⟨C,N,bm,k,kn⟩:=h;intro pins s σ H D I h;obtain⟨nm,q,bs,sn,sub,ab,col,dd,k0,k1,k2,k3,k5,lk⟩:=k.obj;refine ke (nm:=nm) (q:=q) (C:=C) (N:=N) (bs:=bs) (bm:=bm) (hdct:=true) (sn:=sn) (sub:=sub) (ab:=ab) (col:=col) (dd:=dd) (k0:=k0) (k1:=k1) (k2:=k2) (k3:=k3) (k5:=k5) (newId:="ValueError.__new__") k.base (I.ok.hd hc) ?_;refine Uc (cx I hg k.mg ?_ d5);refine callWith_K (h₀:=X.base) I.ok.mod.kin k.kp (thn (ha cpos pins s σ H _ I h) λus s1 hh=>#[hh.elim λ_ h=>h.elim λ_ h=>h.1.kIn,?_]) he c7;obtain⟨vs,H1,I1,r,hl,F1,OM,hR⟩:=hh;have hC:=I1.kIn _ _ lk;obtain⟨hp,gg,dr,tk,os⟩:=s1;refine VJ PySem.F.excBase_ValueError (tail_of_in I1.kIn k.tail) hC (.of_isNs (isNs_of_in I1.kIn kn.ok)) (nsMap_none_of_in I1.kIn kn.ok kn.no) (λh' ea hm=>?_) (by show us.length<=_;rw[<-L2.Vals.length r];exact sz hl);obtain⟨ta,h1,h2,h3⟩:=hm.there;have I2:Inv X pins σ H1 #[h',gg,dr,tk,os]:=I1.kept (t':=tk) hm.keeps;refine#[ea,ta,v7,[].toArray,rfl,hm.keeps _ _ hC,h1,?_];exact hR F1 H1 _ ea C v7 (Inv.nopins I2) (Grow.refl OM) #[k.ns,[],repf_nil.mpr rfl,.inl #[rfl,rfl]] #[fZ I1.hok hm.new,cI I1 d9 hm.new,pn_free I1 hm.new,.inl #[[].toArray,_,h1,rfl]]
end
section
variable {X:Cx}[J:Jm]{x:Kq}{e:SZ}{es:List SZ}{t:TMA}{p cpos pos:Ub}{n m:Nat}{ps:List Kq}{S:SiD}
def Aw(x:Kq)(S:SiD)(t:TMA):TMS:=λ_ z M=>t z M λds M1=>ds.length<=1000/\S ds λfs=>J.RM z M1 x fs
def tQ{σ:L2.St}{z:SD}{M M1:MS}{F H F1 H1:Hp}{fs:List (Kq×D)}(hx:XOkM X)(k:Kept J.B J.F0 F H)(rs:RepZ X.K J.B F H z σ M)(g1:GrowM M M1 F H F1 H1)(m1:RepM X.K F1 H1 M1)(hR:J.RM z M1 x fs):ik X σ F1 H1 x fs:=λF' H' s' e C od I g er ex=>
 hx σ z M1 F' H' s' e C od x fs I ((k.growM rs.mb g1).grow g) ((rs.growM k.bh g1 m1).growM (k.growM rs.mb g1).bh g.toM (m1.grow g)) hR er ex
def Ax(M:CalE X.prog X.w X.K X.mg X.base n x ps S)(hr:Room m X.A)(hx:XOkM X)(hc:X.calm=true)(ha:MA X (e::es) t)(d9:autoParam (X.ex=[]) zA0)(hg:autoParam (Gl X x) zA0)(hn:autoParam (n+1<=m) zA1)(d5:autoParam (zND x) zA1)
  (he:autoParam (zSE X e es) zA0) (c7:autoParam (zPL X cpos es) zA0):
  MSt X (.Raise (be (.Call (.Name x p) (e::es) [] cpos)) v7 pos) (Aw x S t):=⟨(Au M hr hc ha.out d9 hg hn d5 he c7).anti λE s H q=>by
 obtain⟨F0,F,z,M,k,rs,ED,h,ee⟩:=q;exact#[F,z,M,k.kf,rs,_,h,λds vs M1 F1 H1 g1 f7 rx m1=>#[by rw[rx.length];exact f7.1,F1,ds,g1.fh,rx,_,f7.2,λfs hR=>tQ hx k.kf rs g1 m1 hR]]⟩
def Ay(x:Kq)(t:TMA):TMS:=λ_ z M=>t z M λds M1=>ds.length<=1000/\J.RM z M1 x []
def Az(h:∃C N bm,ErrK X.K X.mg x C N bm/\ErrN X.K N)(hx:XOkM X)(hc:X.calm=true)(ha:MA X (e::es) t)(d9:autoParam (X.ex=[]) zA0)(hg:autoParam (Gl X x) zA0)(d5:autoParam (zND x) zA1)
  (he:autoParam (zSE X e es) zA0) (c7:autoParam (zPL X cpos es) zA0):
  MSt X (.Raise (be (.Call (.Name x p) (e::es) [] cpos)) v7 pos) (Ay x t):=⟨(Av h hc ha.out d9 hg d5 he c7).anti λE s H q=>by
 obtain⟨F0,F,z,M,k,rs,ED,h,ee⟩:=q;exact#[F,z,M,k.kf,rs,_,h,λds vs M1 F1 H1 g1 f7 rx m1=>#[by rw[rx.length];exact f7.1,F1,g1.fh,tQ hx k.kf rs g1 m1 f7.2]]⟩
end
section
variable {X:Cx}[J:Jm]{a b c e:SZ}{ta tb tc te:TME}{pos:Ub}{st:SB}{rest:List SB}{t u:TMS}
def AA:TMS:=λE z M=>E.nx z M
def mSeq(t u:TMS):TMS:=λE z M=>t {E with nx:=u E} z M
def aZ:MSs X [] AA:=⟨pss_nil.anti λE s H q=>by
 obtain⟨F0,F,z,M,k,rs,ED,h,e⟩:=q;exact e.nx z s M F H k h rs⟩
def aq(h1:MSt X st t)(h2:MSs X rest u):MSs X (st::rest) (mSeq t u):=⟨(eI h1.out h2.out).anti λE s H q=>by
 obtain⟨F0,F,z,M,k,rs,ED,h,e⟩:=q;exact#[F0,F,z,M,k,rs,{ED with nx:=u ED},h,#[λz' s' M' F' H' k' hz r'=>#[F0,F',z',M',k',r',ED,hz,e],e.rt,e.bk,e.ct]]⟩
def av(h1:MSt X st t):MSs X [st] t:=#[qB h1.out]
def mRet(te:TME):TMS:=λE z M=>te z M E.rt
def aG(he:ME X e te):MSt X (.Return (be e) pos) (mRet te):=⟨(qC he.out).anti λE s H q=>by
 obtain⟨F0,F,z,M,k,rs,ED,h,e⟩:=q;exact#[F,z,M,k.kf,rs,_,h,λd v M' F' H' g hd rd m'=>e.rt d v M' F' H' (k.growM rs.mb g) hd rd m' (rs.growM k.bh g m').mb]⟩
def AB(te:TME):TMS:=λE z M=>te z M λ_ M1=>E.nx z M1
def bX(he:ME X e te)(hs:autoParam (Uh e v7 pos.line X.env=pure false) zA0):MSt X (.Expr e pos) (AB te):=⟨(jH he.out hs).anti λE s H q=>by
 obtain⟨F0,F,z,M,k,rs,ED,h,e⟩:=q;exact#[F,z,M,k.kf,rs,_,h,λd v M' F' H' g hd rd m'=>e.nx z s M' F' H' (k.growM rs.mb g) hd (rs.growM k.bh g m')]⟩
def mIfS(c:TMT)(t u:TMS):TMS:=λE z M=>c z M λb M1=>if b=true then t E z M1 else u E z M1
variable{l r:List SB}
def bj{c:SZ}{tc:TMT}(hc:MT X c tc)(ha:MSs X l t)(hb:MSs X r u):MSt X (.If c l r pos) (mIfS tc t u):=⟨(qD hc.out ha.out hb.out).anti λE s H q=>by
 obtain⟨F0,F,z,M,k,rs,ED,h,e⟩:=q;refine#[F,z,M,k.kf,rs,_,h,λb M1 F1 H1 g hk m1=>?_];cases b with
 |true=>exact#[F0,F1,z,M1,k.growM rs.mb g,rs.growM k.bh g m1,ED,hk,e]
 |false=>exact#[F0,F1,z,M1,k.growM rs.mb g,rs.growM k.bh g m1,ED,hk,e]⟩
def mIfJ(c:TMT)(t u:TMS):TMS:=λE z M=>∃J:SD->MS->Prop,(c z M λb M1=>if b=true then t {E with nx:=J} z M1 else u {E with nx:=J} z M1)/\∀z' M',J z' M'->E.nx z' M'
def fq{c:SZ}{tc:TMT}(hc:MT X c tc)(ha:MSs X l t)(hb:MSs X r u):MSt X (.If c l r pos) (mIfJ tc t u):=⟨(bj hc ha hb).out.anti λE s H q=>by
 obtain⟨F0,F,z,M,k,rs,ED,⟨J,h,j⟩,e⟩:=q;exact#[F0,F,z,M,k,rs,{ED with nx:=J},h,#[λz' s' M' F' H' k' hz r'=>e.nx z' s' M' F' H' k' (j z' M' hz) r',e.rt,e.bk,e.ct]]⟩
def mSet(i:Nat)(te:TME):TMS:=λE z M=>∃P:D->MS->Prop,te z M P/\∀d M',P d M'->E.nx (z.set i (be d)) M'
def aH(i:Nat){x:Kq}{b_:Ub}(hN:X.N.Nodup)(he:ME X e te)(hi:autoParam (X.N[i]?=be x) zA0)(hx:autoParam (Loc X.env.scope x) zA4)(hs:autoParam (Uh e (be (.Name x b_)) pos.line X.env=pure false) zA0)
  (hf:autoParam (zFN X x) zA2):MSt X (.Assign [.Name x b_] e pos) (mSet i te):=⟨(gH hN hi hx he.out hs hf).anti λE s H q=>by
 obtain⟨F0,F,z,M,k,rs,ED,⟨P,h,j⟩,e⟩:=q;exact#[F,z,M,k.kf,rs,P,h,λd v M' F' H' g hd rd m'=>e.nx _ _ M' F' H' (k.growM rs.mb g) (j d M' hd) ((rs.growM k.bh g m').set rd)]⟩
def AC(x f:Kq)(to te:TME):TMS:=λE z M=>te z M λd M1=>to z M1 λo M2=>match o with|.ptr a=>∃fs,mget M2 a=be (.ins x fs)/\fs.length<1000/\E.nx z (mput M2 a (.ins x (putD f d fs)))|_=>False
def bY{x f:Kq}{o:SZ}{to:TME}{b_:Ub}(hA:ClsA X.K x f)(ho:ME X o to)(he:ME X e te)(hs:autoParam (Uh e (be (.Attribute o f b_)) pos.line X.env=pure false) zA0):
  MSt X (.Assign [.Attribute o f b_] e pos) (AC x f to te):=⟨(qZ ho.out he.out hs).anti λE s H q=>by
 obtain⟨C,hn,hc,hf⟩:=hA;obtain⟨F0,F,z,M,k,rs,ED,h,ee⟩:=q;refine#[F,z,M,k.kf,rs,_,h,λd v M1 F1 H1 g1 hx rd m1=>?_];have k1:=k.growM rs.mb g1;have n4:=rs.growM k.bh g1 m1;refine#[F1,z,M1,k1.kf,n4,_,hx,λo' v' M2 F2 H2 g2 hy ro m2=>?_];have k2:=k1.growM n4.mb g2;have LO:=n4.growM k1.bh g2 m2;split at hy
 .rename_i a;obtain⟨fs,hm,hl,Lr⟩:=hy;obtain⟨C',dx,ws,g8,hH,rf⟩:=m2.ok _ _ (bA hm);rw[hn]at g8;cases g8;have fa:=m2.fr a (bW (bA hm));refine#[a,C,dx,ws,rep_ptr.mp ro,hH,hc,hf,by rw[rf.length];exact hl,?_];have m3:RepM X.K F2 (upd H2 a (.ins C dx (putF f v ws))) (mput M2 a (.ins x (putD f d fs))):=m2.put hm #[C,dx,_,hn,aA,RepF.put (rd.mono g2.ff) rf];have g3:GrowM M2 (mput M2 a (.ins x (putD f d fs))) F2 H2 F2 (upd H2 a (.ins C dx (putF f v ws))):=GrowM.put k2.fh fa hm;exact ee.nx z s _ F2 _ (k2.growM LO.mb g3) Lr (LO.growM k2.bh g3 m3)
 .exact hy.elim⟩
def AD(c:TMT)(tb:TMS):TMS:=λE z M=>∃W:Nat->SD->MS->Prop,(∃m,W m z M)/\∀m z M,W m z M->
 c z M λb M1=>if b=true then tb {E with nx:=λz' M'=>∃m',m'<m/\W m' z' M',ct:=λz' M'=>∃m',m'<m/\W m' z' M',bk:=E.nx} z M1 else E.nx z M1
def AE{c:SZ}{body:List SB}{tc:TMT}{tb:TMS}(hp:Um (SL X.prog X.w) X.A X.env X.xe)(hc:MT X c tc)(hb:MSs X body tb):MSt X (.While c body [] pos) (AD tc tb):=⟨(qE hp hc.out hb.out).anti λE s H q=>by
 obtain⟨F0,F,z,M,k,rs,ED,⟨W,⟨m0,w0⟩,c5⟩,e⟩:=q;refine#[λm s' H'=>∃F' z' M',Kept J.B F0 F' H'/\RepZ X.K J.B F' H' z' s' M'/\W m z' M',#[m0,F,z,M,k,rs,w0],?_];rintro m s1 H1⟨F1,z1,M1,k1,r1,w1⟩;refine#[F1,z1,M1,k1.kf,r1,_,c5 m z1 M1 w1,λb M2 F2 H2 g2 hk m2=>?_];cases b with
 |true=>
  refine#[λs3 H3=>∃F3 z3 M3,Kept J.B F0 F3 H3/\RepZ X.K J.B F3 H3 z3 s3 M3/\∃m',m'<m/\W m' z3 M3,λs3 H3 ⟨F3,z3,M3,k3,r3,m',l,w3⟩=>#[m',l,F3,z3,M3,k3,r3,w3],?_];exact#[F0,F2,z1,M2,k1.growM r1.mb g2,r1.growM k1.bh g2 m2,_,hk,#[λz3 s3 M3 F3 H3 k3 h3 r3=>#[F3,z3,M3,k3,r3,h3],e.rt,e.nx,λz3 s3 M3 F3 H3 k3 h3 r3=>#[F3,z3,M3,k3,r3,h3]]]
 |false=>exact e.nx z1 s1 M2 F2 H2 (k1.growM r1.mb g2) hk (r1.growM k1.bh g2 m2)⟩
end
section
variable {X:Cx}[J:Jm]{a b c e o:SZ}{ta tb tc te to:TME}{pos:Ub}{st:SB}{rest:List SB}{t u:TMS}
abbrev TMI:=SD->MS->(List D->MS->Prop)->Prop
def mItR(t:TME):TMI:=λz M R=>t z M λx M1=>match x with|.int n=>(0<=n/\n<2^62)/\R ((GS n.toNat).map λk=>D.int ((k:Nat):Int)) M1|_=>False
def mFor(i:Nat)(ti:TMI)(tb:TMS):TMS:=λE z M=>ti z M λds M1=>∃W:Nat->SD->MS->Prop,W 0 z M1/\(∀k x z M,ds[k]?=be x->W k z M->tb {E with nx:=W (k+1),ct:=W (k+1),bk:=E.nx} (z.set i (be x)) M)/\∀z M,W ds.length z M->E.nx z M
def AF(i:Nat){x:Kq}{p p1 p2:Ub}{body:List SB}{tb:TMS}(hp:Um (SL X.prog X.w) X.A X.env X.xe)(hc:X.calm=true)(hN:X.N.Nodup)(hm:X.mg "range"=v7)(he:ME X e te)(hb:MSs X body tb)(hg:autoParam (Gl X "range") zA0)(hi:autoParam (X.N[i]?=be x) zA0)(hx:autoParam (Loc X.env.scope x) zA4)
  (hf:autoParam (zFN X x) zA2) (hs:autoParam (∀y,zFS X (.Call (.Name "range" p1) [e] [] p2) y) zA3) (t9:autoParam (zSE X e []) zA0) (g7:autoParam (T7 [e] X.env=[(false,T_ e X.env)]) zA0):
  MSt X (.For (.Name x p) (.Call (.Name "range" p1) [e] [] p2) body [] pos) (mFor i (mItR te) tb):=⟨(cP hp hc (jK hg hm (bv he.out pa_nil t9) g7) (dJ hN hi hx hf) hb.out hs).anti λE s H q=>by
 obtain⟨F0,F,z,M,kp,rs,ED,h,e⟩:=q;refine#[F,z,M,kp.kf,rs,_,h,λd v M1 F1 H1 g1 hd rd m1=>?_];split at hd
 .rename_i n;obtain⟨⟨b1,b2⟩,W,w0,c5,out⟩:=hd;have hl:((GS n.toNat).map λk=>D.int ((k:Nat):Int)).length=n.toNat:=by simp
  refine#[n,by rw[rep_int.mp rd],KK,b2,jM (lo:=0) (n:=n.toNat) (λk s' H'=>∃F' z' M',Kept J.B F0 F' H'/\RepZ X.K J.B F' H' z' s' M'/\W k z' M') #[F1,z,M1,kp.growM rs.mb g1,rs.growM kp.bh g1 m1,w0] ?_ ?_]
  .rintro k s' H' hk⟨F',z',M',k',r',w'⟩;have e1:(0:Int)+(k:Int)=(k:Int):=by lia
   exact#[F0,F',_,M',k',r'.set (d:=.int (k:Int)) (rep_int.mpr (by rw[e1])),_,c5 k (.int (k:Int)) z' M' (by simp[hk]) w',#[λz3 s3 M3 F3 H3 k3 h3 r3=>#[F3,z3,M3,k3,r3,h3],e.rt,e.nx,λz3 s3 M3 F3 H3 k3 h3 r3=>#[F3,z3,M3,k3,r3,h3]]]
  .rintro s' H'⟨F',z',M',k',r',w'⟩;exact e.nx z' s' M' F' H' k' (out z' M' (by rw[hl];exact w')) r'
 .exact hd.elim⟩
def AG(te:TME):TME:=λz M R=>te z M λd M1=>match d with|.ptr a=>∃ds,mget M1 a=be (.lst ds)/\R (.int ds.length) M1|_=>False
def tR{p:Ub}(hm:X.mg "len"=v7)(ha:ME X e te)(hg:autoParam (Gl X "len") zA0)(he:autoParam (zSE X e []) zA0):ME X (.Call (.Name "len" p) [e] [] pos) (AG te):=⟨(fP jP hg hm PySem.boot_len (bv ha.out pa_nil he) Lj Lj he).anti λs H Q h=>by
 obtain⟨F,z,M,k,rs,R,h1,h2⟩:=h;refine#[F,z,M,k,rs,_,h1,λd v M1 F1 H1 g1 hx rx m1=>?_];split at hx
 .rename_i a;obtain⟨ds,hm,hR⟩:=hx;obtain⟨vs,hH,rr⟩:=m1.ok _ _ (bA hm);exact#[.ref a,vs.length,by rw[rep_ptr.mp rx],.inl #[vs,SqL.of hH,rfl],h2 _ _ M1 F1 H1 g1 hR (rep_int.mpr (by rw[rr.length])) m1]
 .exact hx.elim⟩
def mIxP(ta tb:TME):TME:=λz M R=>ta z M λx M1=>tb z M1 λy M2=>match x,y with|.ptr a,.int i=>∃ds,mget M2 a=be (.lst ds)/\∃d,atI ds i=be d/\R d M2|_,_=>False
def AH(ha:ME X a ta)(hb:ME X b tb)(hs:autoParam (eK b) zA6):ME X (.Subscript a b pos) (mIxP ta tb):=⟨(pe_ix ix_list ha.out hb.out hs).anti λs H Q h=>by
 obtain⟨F,z,M,k,rs,R,h1,h2⟩:=h;refine#[F,z,M,k,rs,_,h1,λx u M1 F1 H1 g1 hx rx m1=>?_];refine#[F1,z,M1,k.growM rs.mb g1,rs.growM k.bh g1 m1,_,hx,λy v M2 F2 H2 g2 hy ry m2=>?_];split at hy
 .rename_i p i;obtain⟨ds,hm,d,hd,hR⟩:=hy;obtain⟨vs,hH,rr⟩:=m2.ok _ _ (bA hm);obtain⟨w,e2,h_⟩:=rr.at hd;exact#[p,vs,_,w,rep_ptr.mp rx,rep_int.mp ry,SqL.of hH,e2,h2 d w M2 F2 H2 (g1.trans g2) hR h_ m2]
 .exact hy.elim⟩
def AI(to te:TME):TME:=λz M R=>to z M λo M1=>match o with|.ptr a=>(∃ds,mget M1 a=be (.lst ds))/\te z M1 λd M2=>∃ds,mget M2 a=be (.lst ds)/\ds.length<=100000/\R .non (mput M2 a (.lst (ds++[d])))|_=>False
def AJ{apos cpos:Ub}(ho:ME X o to)(he:ME X e te)(l_:autoParam (zSE X e []) zA0)
  (b8:autoParam (T9 o "append" X.env (T_ o X.env)=T_ o X.env) zA0)
  (d8:autoParam (zHF X cpos [e]) zA0)
  (c8:autoParam ((apos.endLine==cpos.line)=true) zA0):
  ME X (.Call (.Attribute o "append" apos) [e] [] cpos) (AI to te):=⟨(eL PySem.F.plainAttrs_list PySem.F.slot_list_append PySem.F.type_list_append jX ho.out (bv he.out pa_nil l_) b8 d8 c8 l_).anti λs H Q h=>by
 obtain⟨F,z,M,k,rs,R,h1,h2⟩:=h;refine#[F,z,M,k,rs,_,h1,λx u M1 F1 H1 g1 hx rx m1=>?_];split at hx
 .rename_i a;obtain⟨⟨Tk,ON⟩,hx⟩:=hx;obtain⟨R7,R8,Tl⟩:=m1.ok _ _ (bA ON);rw[rep_ptr.mp rx];refine#[.inl #[rfl,R7,SqL.of R8],?_];refine#[F1,z,M1,k.growM rs.mb g1,rs.growM k.bh g1 m1,_,hx,λd v M2 F2 H2 g2 hd rd m2=>?_];obtain⟨ds,hm,hl,hR⟩:=hd;obtain⟨vs,hH,rr⟩:=m2.ok _ _ (bA hm);have hz:vs.length<sizeLine:=by
   rw[rr.length];have h2:(100000:Nat)<sizeLine:=Lj
   lia
  refine#[a,vs,v,rfl,rfl,hH,hz,?_];exact h2 _ _ _ F2 _ (g1.trans (g2.trans (GrowM.put g2.fh (m2.fr a (bW (bA hm))) hm))) hR (rep_non.mpr rfl) (m2.put hm #[_,aA,rr.append (eV rd)])
 .exact hx.elim⟩
def frzD:MO->D|.ins x fs=>.obj x fs|.lst ds=>.lst ds|.dti a9=>.dti a9
def mFrz(i:Nat)(t:TMS):TMS:=λE z M=>match z[i]? with|some (be (.ptr a))=>∃o,mget M a=be o/\t E (z.set i (be (frzD o))) (mdel M a)|_=>False
def tS(i:Nat){Mz:List SB}(h:MSs X Mz t):MSs X Mz (mFrz i t):=⟨PSs.anti h.out λE s H q=>by
 obtain⟨F0,F,z,M,k,rs,ED,h,e⟩:=q;unfold mFrz at h;split at h
 .rename_i a ez;obtain⟨o,hm,h⟩:=h;have mem:=bA hm;have fa:=rs.rm.fr a (bW mem);have ba:=rs.mb a (bW mem);obtain⟨v,hv,rv⟩:=rs.rs.val i _ ez rfl;have R9:=rep_ptr.mp rv;subst R9;have hok:=rs.rm.ok a o mem;obtain⟨ho,e8,OO⟩:∃ho,H a=be ho/\∀F',Same F F'->F' a=be ho->Rep X.K F' (frzD o) (.ref a):=by
   cases o with
   |ins x fs=>obtain⟨C,dx,ws,n,h1,h2⟩:=hok;exact#[_,h1,λF' s' hF=>rep_obj.mpr #[a,C,dx,ws,rfl,n,hF,RepF.mono s' fs ws h2]]
   |lst ds=>obtain⟨vs,h1,h2⟩:=hok;exact#[_,h1,λF' s' hF=>rep_lst.mpr #[a,vs,rfl,hF,h2.mono s']]
   |dti a9=>exact#[_,hok,λF' s' hF=>rep_dti.mpr #[a,rfl,hF]]
  have s1:Same F (upd F a ho):=aO fa _;have hs:s.set i (be (.ref a))=s:=by
   apply HN;intro n;by_cases hn:i=n
   .subst hn;rw[Ht (G1.mp hv).1,hv]
   .rw[G2 hn]
  have k1:Kept J.B F0 (upd F a ho) H:=⟨k.bh,λb u q=>by
   by_cases hb:b=a
   .subst hb;rw[aA]at q;cases q;exact e8
   .rw[ar hb]at q;exact k.fh b u q,k.f0.trans s1,λb h1 h2=>by
   by_cases hb:b=a
   .subst hb;exact absurd ba h2
   .rw[ar hb];exact k.out b h1 h2,k.eb,k.jf,k.jo⟩
  have r0:RepS X.K J.B (upd F a ho) H z s:=#[rs.rs.len,λi d e n=>let ⟨v,q1,q2⟩:=rs.rs.val i d e n;#[v,q1,q2.mono s1],λi ds e=>absurd e (rs.no i ds),rs.rs.apart];have R_:RepM X.K (upd F a ho) H (mdel M a):=⟨rs.rm.nd.sublist del_sub,λb q hb=>by
   obtain⟨ne,hb⟩:=kG rs.rm.nd hb;exact(rs.rm.ok b q hb).mono s1 λ_ z=>z,λb hb=>by
   obtain⟨⟨b',q⟩,gV,rfl⟩:=Hd.mp hb;obtain⟨ne,QL⟩:=kG rs.rm.nd gV;rw[ar ne];exact rs.rm.fr _ (bW QL)⟩
  have z0:RepZ X.K J.B (upd F a ho) H z s (mdel M a):=#[r0,rs.no,R_,λb hb=>rs.mb b (del_sub.subset hb)];have z1:=z0.set (i:=i) (OO _ s1 aA);rw[hs]at z1;exact#[F0,_,_,_,k1,z1,ED,h,e]
 .exact h.elim⟩
end
def kK{N:List Kq}{ds:List D}(rs:Reps K F ds vs):∀(i:Nat) d,(startD N ds)[i]?≠be (be (.own d)):=by
 intro i d e;unfold startD at e;by_cases hi:i<ds.length
 .rw[Hv (by simpa using hi),GX]at e;cases q:ds[i]? with
  |none=>rw[q]at e;cases e
  |some x=>
   rw[q]at e;cases e;obtain⟨v,_,q2⟩:=rs.get q;exact rep_own q2
 .rw[HD (by simpa using hi),IR]at e;split at e
  .cases e
  .cases e
def growM_nil(g:GrowM [] M' F H F' H'):Grow F H F' H':=#[g.ff,g.fh,λb o h=>g.hh b o (λz=>nomatch z) h,λb h1 h2=>g.out b (λz=>nomatch z) h1 h2]
section
variable {P:T3}{w:T5}{K:Ex}{mg:Kq->Option KB}{base:Heap}
variable{x:Kq}{ps:List Kq}{S:SpM}
def CalMM.toX{n:Nat}{S0:SpX}(C:CalMM P w K mg base n x ps S)(h:∀ds R RX,S0 ds R RX->S ds [] (λd _=>R d) λx fs _=>RX x fs):CalX P w K mg base n x ps S0:=by
 obtain⟨f,fd,F,hb,hk,hm⟩:=C;refine#[f,fd,F.imp λvs H Q E q=>?_,hb,hk,hm];obtain⟨F,ds,fh,rs,R,RX,hS,q1,q2⟩:=q;exact#[F,ds,[],fh,rs,RepM.nil,_,_,h ds R RX hS,λd v M' F' H' g hd rd _=>q1 d v F' H' (growM_nil g) hd rd,λy fs C od M' F' H' g hR er _=>q2 y fs C od F' H' (growM_nil g) hR er]
open Classical in
def Fun.okM{x qual:Kq}{st:SB}{f:KF}{fd:Ua}{N ps:List Kq}{k:Nat}{S:SpM}{dV:KB}(T:FunG K dV x qual st f fd)(F:FnScope N ps (ah st))(len:∀ds M R RX,S ds M R RX->ds.length=ps.length)
  (a8:∀(cdv:KB) (A:T6) (outer:List UP) (s:Os) (H:Hp) (E:XK) (J:Jm),Room k (A.deeper (Ud qual (ah st) s.heap.objs.size f cdv))->XOkM (cxOf (CX1 P w) P w K mg base N qual (ah st) f cdv A outer s H E)->
   ∃t,MSs (cxOf (CX1 P w) P w K mg base N qual (ah st) f cdv A outer s H E) (aJ st) t/\∀ds M R RX,(∀z,J.RM z=λM' x fs=>RX x fs M')->S ds M R RX->t {nx:=λ_ M'=>R .non M',rt:=R} (startD N ds) M):FnOk P w K mg base (CX1 P w) (k+1) f fd ps (lSpM K S):=by
 refine Fun.okC T F (λvs H Q E h=>?_) (λcdv A outer s H vs Q E hr h=>?_)
 .obtain⟨F,ds,M,fh,rs,rm,R,RX,h,_⟩:=h;rw[rs.length];exact len ds M R RX h
 .obtain⟨F,ds,M,fh,rs,rm,R,RX,h,q,qx⟩:=h
  let B:Hp:=λb=>if b∈au M then v7 else H b
  have QM:∀{b:KF},b∈au M->B b=none:=λ{b} h=>if_pos h;have NH:∀{b:KF},b∉au M->B b=H b:=λ{b} h=>if_neg h
  letI:Jm:={B:=B,F0:=F,RX:=λ_ _ _=>False,RM:=λ_ M' x fs=>RX x fs M'}
  have gr:∀{M':MS} {F' H':Hp},Kept B F F' H'->(∀a,a∈au M'->B a=v7)->GrowM M M' F H F' H':=λ{M' F' H'} k mb=>⟨k.f0,k.fh,λb o nb e=>k.bh b o (by rw[NH nb];exact e),λb nb h1 h2=>k.out b h1 (by rw[NH nb];exact h2),λb hb=>by
   by_cases nb:b∈au M
   .exact .inl nb
   .right;rw[<-NH nb];exact mb b hb⟩
  have hx:XOkM (cxOf (CX1 P w) P w K mg base N qual (ah st) f cdv A outer s H E):=by
   intro σ z M' F' H' s' e C od y fs I kk rr hR er ⟨He,ne,_,hx⟩;have hE:E (.ref C) od H':=qx y fs C od M' F' H' (gr kk rr.mb) hR er rr.rm;rcases hx with⟨sl,vs,h1,h2⟩|⟨T,h1,h2,h3,_⟩
   .exact rR I h1 h2 He ne hE
   .exact tf I h1 ne h2 He h3 hE
  obtain⟨t,ht,hq⟩:=a8 cdv A outer s H E inferInstance hr hx;have k0:Kept B F F H:=⟨λb o e=>by
   by_cases nb:b∈au M
   .rw[QM nb]at e;cases e
   .rw[NH nb]at e;exact e,fh,Same.refl F,λ_ h _=>h,rfl,Same.refl F,λ_ h _=>h⟩
  have r0:RepZ K B F H (startD N ds) (L2.start N vs) M:=#[dL rs,kK rs,rm,λa h=>QM h];exact#[_,ht.out,F,F,startD N ds,M,k0,r0,_,hq ds M R RX (λ_=>rfl) h,#[λz' s' M' F' H' k hn r=>q _ _ M' F' H' (gr k r.mb) hn (rep_non.mpr rfl) r.rm,λd v M' F' H' k hd rd OP mb=>q d v M' F' H' (gr k mb) hd rd OP,λ_ _ _ _ _ _ h _=>h.elim,λ_ _ _ _ _ _ h _=>h.elim]]
variable{N:List Kq}
def Tx.okM{st:SB}{k:Nat}(T:Tx K mg x st ps)(F:FnScope N ps (ah st))(len:∀ds M R RX,S ds M R RX->ds.length=ps.length)
  (a8:∀(f:KF) (cdv:KB) (A:T6) (outer:List UP) (s:Os) (H:Hp) (E:XK) (J:Jm),Room k (A.deeper (Ud x (ah st) s.heap.objs.size f cdv))->XOkM (cxOf (CX1 P w) P w K mg base N x (ah st) f cdv A outer s H E)->
   ∃t,MSs (cxOf (CX1 P w) P w K mg base N x (ah st) f cdv A outer s H E) (aJ st) t/\∀ds M R RX,(∀z,J.RM z=λM' x fs=>RX x fs M')->S ds M R RX->t {nx:=λ_ M'=>R .non M',rt:=R} (startD N ds) M):CalMM P w K mg base (k+1) x ps S:=by
 obtain⟨f,fd,T,hb,hm⟩:=T;exact#[f,fd,Fun.okM T F len λcdv A outer s H E J hr hx=>a8 f cdv A outer s H E J hr hx,hb,T.kp,hm]
def Txm(K:Ex)(x m:Kq)(qual:Kq)(st:SB)(ps:List Kq):Prop:=
 ∃C f fd,nsIn K Pi x=be (be (.ref C))/\Cls K C/\Meth K C m f/\Fun K m qual st f fd/\Binds K fd ps []
def Txm.okM{m qual:Kq}{st:SB}{k:Nat}(T:Txm K x m qual st ps)(F:FnScope N ps (ah st))(len:∀ds M R RX,S ds M R RX->ds.length=ps.length)
  (a8:∀(f:KF) (cdv:KB) (A:T6) (outer:List UP) (s:Os) (H:Hp) (E:XK) (J:Jm),Room k (A.deeper (Ud qual (ah st) s.heap.objs.size f cdv))->XOkM (cxOf (CX1 P w) P w K mg base N qual (ah st) f cdv A outer s H E)->
   ∃t,MSs (cxOf (CX1 P w) P w K mg base N qual (ah st) f cdv A outer s H E) (aJ st) t/\∀ds M R RX,(∀z,J.RM z=λM' x fs=>RX x fs M')->S ds M R RX->t {nx:=λ_ M'=>R .non M',rt:=R} (startD N ds) M):CalMth P w K mg base (k+1) x m ps (lSpM K S):=by
 obtain⟨C,f,fd,h1,h2,h3,T,hb⟩:=T;exact#[C,f,fd,h1,h2,h3,Fun.okM T F len λcdv A outer s H E J hr hx=>a8 f cdv A outer s H E J hr hx,hb]
end
end My
namespace L2
section
variable {X:Cx}{pins:List (KF×Uj)}{σ:St}{H:Hp}{s:Os}{h':Heap}
def Inv.turned2{t':Nat}{e it:KF}(I:Inv X pins σ H s)(k:∀b o,b≠e->b≠it->s.heap.get? b=be o->h'.get? b=be o)(he:FpOk X pins H e)(hi:FpOk X pins H it):Inv X pins σ H {s with heap:=h',toks:=t'}:=by
 obtain⟨e0,e1,e2,e3,e4,e5⟩:=he;obtain⟨i0,i1,i2,i3,i4,i5⟩:=hi;have Ld:∀b u,H b=be u->b≠e/\b≠it:=λb u q=>#[(λz=>by rw[z,e0]at q;cases q),(λz=>by rw[z,i0]at q;cases q)];have nc:∀{b:KF},b∉[e,it]->b≠e/\b≠it:=λ{b} h=>#[λz=>h (by simp[z]),λz=>h (by simp[z])];refine I.step (g':=s.gens) (d':=s.drawn) (ch:=[e,it]) (λb hb=>?_) (λb o _ _ hc q _=>k b o (nc hc).1 (nc hc).2 q) (λb o _ _ hc q _=>#[o.slots,k b o (nc hc).1 (nc hc).2 q]) (λ_ _ _ _ n=>n)
  (λb o hc q=>#[o,k b o (nc hc).1 (nc hc).2 q]) (λ_ _ q=>q) (λ_ _ _ q=>q) (λb ps q=>#[[].toArray,by rw[q];simp]) (λm hm=>?_) (λb u q=>?_) I.bare
 .rcases GP.mp hb with z|z
  .rw[z];exact#[e3,e1,e4,e5]
  .rw[GN.mp z];exact#[i3,i1,i4,i5]
 .obtain⟨o,es,ep,ho,r⟩:=hm;exact#[o,es,ep,k _ o (Ne.symm e1) (Ne.symm i1) ho,r]
 .refine(I.hok b u q).stay (λc v hc q'=>k c v ?_ ?_ q') (λ_ q=>q) λ_ _ q=>q
  .rcases hc with z|z
   .rw[z];exact(Ld b u q).1
   .exact(Ld c _ z).1
  .rcases hc with z|z
   .rw[z];exact(Ld b u q).2
   .exact(Ld c _ z).2
end
def Itel(K:Ex)(a:KF):It:=
 #[λi H=>∃xs x,SqL K H a xs/\xs[i]?=be x,λi H x H'=>∃T v,H T=v7/\x=.ref T/\H'=upd H T (.tup [.int i,v])/\∀xs,SqL K H a xs->xs[i]?=be v,λi H=>∃xs,SqL K H a xs/\xs.length<=i]
def Ites(x:Kq):It:=#[λi _=>i<x.length,λi H v H'=>∃T c,H T=v7/\v=.ref T/\H'=upd H T (.tup [.int i,.str #[[c].toArray]])/\x.cps[i]?=be c,λi _=>i=x.length]
variable{P:T3}{w:T5}
def AK{H:Hp}{h:Heap}{T:KF}{i:Int}{t:VX}{v:V}{u:KB}(r:RelV v u)(q:h.get? T=be {cls:=.type "tuple",data:=.seq [.int i t,u].toArray}):ObjOk P w H h T (.tup [.int i,v]):=
 #[by show 2<=sizeLine;decide,[.int i t,u],.cons #[t,rfl] (.cons r .nil),#[_,q,rfl,_,rfl]]
def tT{X:Cx}{pins:List (KF×Uj)}{σ:St}{H:Hp}{s:Os}{h':Heap}{t':Nat}{e it:KF}{i:Int}{t:VX}{v:V}{u:KB}(I:Inv X pins σ H s)(he:FpOk X pins H e)(hi:FpOk X pins H it)(le:e<s.heap.objs.size)(li:it<s.heap.objs.size)(r:RelV v u)
  (hT:h'.get? s.heap.objs.size=be {cls:=.type "tuple",data:=.seq [.int i t,u].toArray}) (hk:∀b o,b≠e->b≠it->s.heap.get? b=be o->h'.get? b=be o):Inv X pins σ (upd H s.heap.objs.size (.tup [.int i,v])) {s with heap:=h',toks:=t'}:=by
 have I1:Inv X pins σ (upd H s.heap.objs.size (.tup [.int i,v])) {s with heap:=s.heap.push {cls:=.type "tuple",data:=.seq [.int i t,u].toArray},toks:=t'}:=
  I.laid (λb o q=>Heap.get?_push_of_some _ q) (GO _) (AK r (Heap.get?_push_size _ rfl))
 have fp:∀{b:KF},FpOk X pins H b->b<s.heap.objs.size->FpOk X pins (upd H s.heap.objs.size (.tup [.int i,v])) b:=λ{b} h l=>#[by rw[ar (GW l)];exact h.1,h.2];refine I1.turned2 (h':=h') (t':=t') (λb o h1 h2 q=>?_) (fp he le) (fp hi li);rcases Heap.get?_push_cases (show(s.heap.push {cls:=.type "tuple",data:=.seq [.int i t,u].toArray}).get? b=be o from q)with⟨rfl,rfl⟩|q2
 .exact hT
 .exact hk b o h1 h2 q2
variable{u8:List SZ}
def AL{K:Ex}{x1:Nat}{tp:Ub}(a e it:KF)(LP:e≠it):Turn P w K (.Tuple u8 x1 tp) (Itel K a) [e,it] e (λi h=>(∃d7,IsEnum h e it i d7)/\h.IsListIter it a i) where
 mem:=Ln
 obj:=λi h st b hb=>by
  obtain⟨⟨d7,he⟩,hit⟩:=st;rcases GP.mp hb with z|z
  .rw[z];exact#[_,he,λv z=>by cases z]
  .rw[GN.mp z];obtain⟨o,ho,c,d⟩:=hit;exact#[o,ho,λv z=>by rw[d]at z;cases z]
 keep:=λi h h' st k=>#[let ⟨d7,he⟩:=st.1;#[d7,k e Ln _ he],st.2.at λo q=>k it Ln o q]
 item:=by
  intro X hP hw hK hc i pins s σ H E I hf st hg;subst hP hw hK;obtain⟨xs,x,hq,hx⟩:=hg;obtain⟨its,rv,p,hz⟩:=I.list hq;obtain⟨u,hu,ru⟩:=rv.get hx;obtain⟨⟨d7,he⟩,hit⟩:=st;have fe:=hf e Ln;have fi:=hf it Ln;have le:e<s.heap.objs.size:=Heap.lt_size he;have li:it<s.heap.objs.size:=by obtain⟨o,ho,_⟩:=hit;exact Heap.lt_size ho
  refine wpAny_pyNext_enum_item he hit p.isList (x:=u) (by simpa using hu) LP λh' G_ Lx hT j7 hk=>?_;refine#[_,rfl,Vg G_ λh2 OQ l8=>?_];have q8:Heap.SameBut e h' h2:=l8;have nT:s.heap.objs.size≠e:=HB le;have I1:Inv X pins σ (upd H s.heap.objs.size (.tup [.int i,x])) {s with heap:=h2,toks:=s.toks+1}:=tT I fe fi le li ru ((q8.2 _ nT).trans hT) λb o h1 h3 q=>(q8.2 b h1).trans (hk b o h1 h3 q);refine#[.ref s.heap.objs.size,_,I1,rfl,#[_,x,I.hok.fresh (GO _),rfl,rfl,λys hy=>by rw[I.list_inj hy hq];exact hx],#[#[u,by simpa using OQ],Lx.at λo q=>(q8.2 it (Ne.symm LP)).trans q],λb hb=>?_];rcases GP.mp hb with z|z
  .rw[z,ar (GW le)];exact fe.1
  .rw[GN.mp z,ar (GW li)];exact fi.1
 done:=by
  intro X hP hw hK hc i pins s σ H E I hf st hg;subst hP hw hK;obtain⟨xs,hq,hx⟩:=hg;obtain⟨its,rv,p,hz⟩:=I.list hq;obtain⟨⟨d7,he⟩,hit⟩:=st;have hl:=rv.length;obtain⟨f0,f1,f2,f3,f4,f5⟩:=hf it Ln;exact wpAny_pyNext_enum_end (I.ok.hd hc) he hit p.isList Ta λh' eb=>#[rfl,I.turned (t':=s.toks) (λb o hb q=>eb b o hb q) f0 f1 f3 f4 f5]
 self:=λ_ _ _ _ _ st h=>let ⟨⟨d7,he⟩,_⟩:=st;UR he h
def AM{K:Ex}{x1:Nat}{tp:Ub}(x:Kq)(t:VX)(e it:KF)(LP:e≠it):Turn P w K (.Tuple u8 x1 tp) (Ites x) [e,it] e (λi h=>(∃d7,IsEnum h e it i d7)/\h.IsStrIter it "str_ascii_iterator" x t i) where
 mem:=Ln
 obj:=λi h st b hb=>by
  obtain⟨⟨d7,he⟩,hit⟩:=st;rcases GP.mp hb with z|z
  .rw[z];exact#[_,he,λv z=>by cases z]
  .rw[GN.mp z];obtain⟨o,ho,c,d⟩:=hit;exact#[o,ho,λv z=>by rw[d]at z;cases z]
 keep:=λi h h' st k=>#[let ⟨d7,he⟩:=st.1;#[d7,k e Ln _ he],let ⟨o,ho,r⟩:=st.2;#[o,k it Ln o ho,r]]
 item:=by
  intro X hP hw hK hc i pins s σ H E I hf st hg;subst hP hw hK;have hi:i<x.cps.size:=hg;obtain⟨⟨d7,he⟩,hit⟩:=st;have fe:=hf e Ln;have fi:=hf it Ln;have le:e<s.heap.objs.size:=Heap.lt_size he;have li:it<s.heap.objs.size:=by obtain⟨o,ho,_⟩:=hit;exact Heap.lt_size ho
  refine wpAny_pyNext_enum_itemD (Draws.strAscii (A:=X.A.in1) (by exact I.ok.hd hc) it x t) he hit hi LP (by simp[LP]) λu h' tk hP G_ Lx hT j7 hk=>?_;obtain⟨c,tu,KU,rfl⟩:=hP;refine#[_,rfl,Vg G_ λh2 OQ l8=>?_];have q8:Heap.SameBut e h' h2:=l8;have nT:s.heap.objs.size≠e:=HB le;have I1:Inv X pins σ (upd H s.heap.objs.size (.tup [.int i,.str #[[c].toArray]])) {s with heap:=h2,toks:=tk+1}:=tT I fe fi le li #[tu,rfl] ((q8.2 _ nT).trans hT) λb o h1 h3 q=>(q8.2 b h1).trans (hk b o h1 h3 q);refine#[.ref s.heap.objs.size,_,I1,rfl,#[_,c,I.hok.fresh (GO _),rfl,rfl,KU],#[#[_,by simpa using OQ],let ⟨o,ho,r⟩:=Lx;#[o,(q8.2 it (Ne.symm LP)).trans ho,r]],λb hb=>?_];rcases GP.mp hb with z|z
  .rw[z,ar (GW le)];exact fe.1
  .rw[GN.mp z,ar (GW li)];exact fi.1
 done:=by
  intro X hP hw hK hc i pins s σ H E I hf st hg;subst hP hw hK;have hi:i=x.cps.size:=hg;subst hi;obtain⟨⟨d7,he⟩,hit⟩:=st;obtain⟨f0,f1,f2,f3,f4,f5⟩:=hf it Ln;exact wpAny_pyNext_enum_endD (Draws.strAscii (A:=X.A.in1) (by exact I.ok.hd hc) it x t) he hit λh' eb=>#[rfl,I.turned (t':=s.toks) (λb o hb q=>eb b o hb q) f0 f1 f3 f4 f5]
 self:=λ_ _ _ _ _ st h=>let ⟨⟨d7,he⟩,_⟩:=st;UR he h
def iEnL(K:Ex)(ta:TA):TI:=λσ H R=>ta σ H λvs H1=>∃a,vs=[.ref a]/\(∃xs,SqL K H1 a xs)/\R (Itel K a) H1
def iEnS(ta:TA):TI:=λσ H R=>ta σ H λvs H1=>∃x,vs=[.str x]/\x.cps.all (·<128)=true/\R (Ites x) H1
section
variable {X:Cx}{u8:List SZ}{x1:Nat}{tp p pos:Ub}{l:SZ}{ta:TA}
def AN(hg:Gl X "enumerate")(hm:X.mg "enumerate"=v7)(ha:PA X [l] ta)(hs:autoParam (T7 [l] X.env=[(false,T_ l X.env)]) zA0):PI X (.Tuple u8 x1 tp) (.Call (.Name "enumerate" p) [l] [] pos) (iEnL X.K ta):=by
 intro pins s σ H R I h;refine Call_ (dI I hg hm PyProof.Rows.boot_enumerate (PyProof.Rows.callWith_type1 (thn (ha pos pins s σ H _ I h) λus s1 ⟨vs,H1,I1,r1,q1⟩=>?_) hs rfl));obtain⟨a,rfl,⟨xs,hq⟩,q⟩:=q1;obtain⟨u,rfl,ru⟩:=cb r1;cases ru;obtain⟨its,rv,pl,hz⟩:=I1.list hq;refine call_enumerate_list pl.isList λh' he hit j7 hk=>?_;have I2:Inv X pins σ H1 {s1 with heap:=h'}:=I1.kept (t':=s1.toks) hk;refine UR he ?_;have ne:s1.heap.objs.size+1≠s1.heap.objs.size:=JM _;refine#[s1.heap.objs.size+1,[s1.heap.objs.size+1,s1.heap.objs.size],_,_,H1,rfl,I2,AL a _ _ ne,#[#[_,he],hit],λb hb=>?_,q];rcases GP.mp hb with z|z
 .rw[z];exact I1.fpOk (HL _) (I1.hok.fresh (HL _))
 .rw[GN.mp z];exact I1.fpOk (GO _) (I1.hok.fresh (GO _))
def tU(hg:Gl X "enumerate")(hm:X.mg "enumerate"=v7)(ha:PA X [l] ta)(hs:autoParam (T7 [l] X.env=[(false,T_ l X.env)]) zA0):PI X (.Tuple u8 x1 tp) (.Call (.Name "enumerate" p) [l] [] pos) (iEnS ta):=by
 intro pins s σ H R I h;refine Call_ (dI I hg hm PyProof.Rows.boot_enumerate (PyProof.Rows.callWith_type1 (thn (ha pos pins s σ H _ I h) λus s1 ⟨vs,H1,I1,r1,q1⟩=>?_) hs rfl));obtain⟨x,rfl,OR,q⟩:=q1;obtain⟨u,rfl,t,rfl⟩:=cb r1;refine call_enumerate_str λh' he hit j7 hk=>?_;have I2:Inv X pins σ H1 {s1 with heap:=h'}:=I1.kept (t':=s1.toks) hk;refine UR he ?_;have ne:s1.heap.objs.size+1≠s1.heap.objs.size:=JM _;have Sa:strIterType x="str_ascii_iterator":=by unfold strIterType;rw[OR];rfl
 rw[Sa]at hit;refine#[s1.heap.objs.size+1,[s1.heap.objs.size+1,s1.heap.objs.size],_,_,H1,rfl,I2,AM x t _ _ ne,#[#[_,he],hit],λb hb=>?_,q];rcases GP.mp hb with z|z
 .rw[z];exact I1.fpOk (HL _) (I1.hok.fresh (HL _))
 .rw[GN.mp z];exact I1.fpOk (GO _) (I1.hok.fresh (GO _))
end
end L2
namespace My
open Exc
section
variable {X:Cx}[J:Jm]{a b c e o:SZ}{ta tb tc te to:TME}{pos:Ub}{st:SB}{rest:List SB}{t u:TMS}
def kL{K:Ex}{F:Hp}:∀(is:List Nat) (ds:List D) (vs:List V) (z:SD),Reps K F ds vs->(∀(i:Nat) d,z[i]?≠be (be (.own d)))->∀(i:Nat) d,(aT is ds z)[i]?≠be (be (.own d))
 |[],_,_,z,_,h=>h
 |_::_,[],_,z,_,h=>h
 |i::is,d::ds,vs,z,r,h=>by
  obtain⟨v,vr,rfl,r1,r2⟩:=reps_cons.mp r;refine kL is ds vr _ r2 λj q e=>?_;by_cases hj:i=j
  .subst hj;rw[HM]at e;simp at e;have:=r1.noown;rw[e.2]at this;cases this
  .rw[G2 hj]at e;exact h j q e
def mItE(t:TME):TMI:=λz M R=>t z M λx M1=>match x with|.lst ds=>R ds M1|_=>False
def AO(t:TME):TMI:=λz M R=>t z M λx M1=>match x with|.str x=>x.cps.all (·<128)=true/\R (bP x) M1|_=>False
def tV(is:List Nat)(ti:TMI)(tb:TMS):TMS:=λE z M=>ti z M λds M1=>∃W:Nat->SD->MS->Prop,W 0 z M1/\(∀(k:Nat) x z M,ds[k]?=be x->W k z M->tb {E with nx:=W (k+1),ct:=W (k+1),bk:=E.nx} (aT is [.int k,x] z) M)/\∀z M,W ds.length z M->E.nx z M
variable{is:List Nat}
def tW{K:Ex}{F0 F1 H1:Hp}{z:SD}{s:L2.St}{M1:MS}{E:Ends}{ED:EndsM}{It':It}{g:TG}{tb:TMS}{ML:TS}{ds:List D}(hK:K=X.K)(k1:Kept J.B F0 F1 H1)(n4:RepZ K J.B F1 H1 z s M1)(e:EndsOkM K F0 ED E)(b7:is.length=2)
  (go:∀k F' H',Same F1 F'->Same F' H'->k<ds.length->It'.go k H') (stop:∀F' H',Same F1 F'->Same F' H'->It'.stop ds.length H')
  (yld:∀k F' H' x H'',Same F1 F'->Same F' H'->k<ds.length->It'.yld k H' x H''->∃T d v,H' T=v7/\x=.ref T/\H''=upd H' T (.tup [.int k,v])/\ds[k]?=be d/\Rep K F' d v)
  (hg:∀(dd:List D) (vs:List V) (T:KF) (z:SD) (s:L2.St) (F H:Hp) (Q:L2.St->Hp->Prop),dd.length=2->H T=be (.tup vs)->Reps K F dd vs->RepS K J.B F H z s->(∀s',RepS K J.B F H (aT is dd z) s'->Q s' H)->g (.ref T) s H Q)
  (OS:∀E s H,mS K tb E s H->ML E s H)
  (hd:∃W:Nat->SD->MS->Prop,W 0 z M1/\(∀(k:Nat) x z M,ds[k]?=be x->W k z M->tb {ED with nx:=W (k+1),ct:=W (k+1),bk:=ED.nx} (aT is [.int k,x] z) M)/\∀z M,W ds.length z M->ED.nx z M):
  ∃W:Nat->Nat->L2.St->Hp->Prop,(∃m,W 0 m s H1)/\∀i m σ H,W i m σ H->
   (It'.stop i H/\E.nx σ H)\/(It'.go i H/\∃N:L2.St->Hp->Prop,(∀σ' H',N σ' H'->∃m',m'<m/\W (i+1) m' σ' H')/\∀x H',It'.yld i H x H'->g x σ H' λσ2 H2=>ML {E with nx:=N,ct:=N,bk:=E.nx} σ2 H2):=by
 obtain⟨W,w0,c5,out⟩:=hd;refine#[λk m s' H'=>m=ds.length-k/\k<=ds.length/\∃F' z' M',Kept J.B F0 F' H'/\Same F1 F'/\RepZ K J.B F' H' z' s' M'/\W k z' M',#[ds.length,Ln,Hc _,F1,z,M1,k1,Same.refl F1,n4,w0],?_];rintro k m s' H'⟨rfl,hk,F',z',M',k',g',r',w'⟩;by_cases f9:k<ds.length
 .refine .inr #[go k F' H' g' k'.fh f9,λs3 H3=>∃F3 z3 M3,Kept J.B F0 F3 H3/\Same F1 F3/\RepZ K J.B F3 H3 z3 s3 M3/\W (k+1) z3 M3,λs3 H3 h3=>#[ds.length-(k+1),KK,rfl,f9,h3],λx H'' hy=>?_];obtain⟨T,d,v,hT,rfl,rfl,hd,rd⟩:=yld k F' H' x H'' g' k'.fh f9 hy;have gn:=Grow.new k'.fh hT (.tup [.int k,v]);have k2:=k'.grow gn;have r2:=r'.growM k'.bh gn.toM (r'.rm.grow gn);have rp:Reps K (upd F' T (.tup [.int k,v])) [.int k,d] [.int k,v]:=reps_cons.mpr #[_,_,rfl,rep_int.mpr rfl,eV (rd.mono gn.ff)];refine hg [.int k,d] _ T z' s' _ _ _ rfl aA rp r2.rs λs2 LO=>OS _ _ _ ?_;have gF:Same F1 (upd F' T (.tup [.int k,v])):=g'.trans gn.ff;refine#[upd F' T (.tup [.int k,v]),upd F' T (.tup [.int k,v]),_,M',#[k2.bh,k2.fh,Same.refl _,λb h1 _=>h1,k2.eb,k2.jf.trans k2.f0,λb h1 h2=>k2.out b (k2.jo b h1 h2) h2],#[LO,kL is _ _ z' rp r2.no,r2.rm,r2.mb],_,c5 k d z' M' hd w',?_];have up:∀{F3 H3:Hp},Kept J.B (upd F' T (.tup [.int k,v])) F3 H3->Kept J.B F0 F3 H3:=λk3=>#[k3.bh,k3.fh,k2.f0.trans k3.f0,λb h1 h2=>k3.out b (k2.out b h1 h2) h2,k2.eb,k2.jf,k2.jo];exact#[λz3 s3 M3 F3 H3 k3 h3 r3=>#[F3,z3,M3,up k3,gF.trans k3.f0,r3,h3],λd v M3 F3 H3 k3=>e.rt d v M3 F3 H3 (up k3),λz3 s3 M3 F3 H3 k3=>e.nx z3 s3 M3 F3 H3 (up k3),λz3 s3 M3 F3 H3 k3 h3 r3=>#[F3,z3,M3,up k3,gF.trans k3.f0,r3,h3]]
 .have ek:k=ds.length:=by lia
  subst ek;exact .inl #[stop F' H' g' k'.fh,e.nx z' s' M' F' H' k' (out z' M' w') r']
variable{es:List SZ}{body:List SB}
def AQ{x1:Nat}{tp p1 p2:Ub}{tb:TMS}(hp:Um (SL X.prog X.w) X.A X.env X.xe)(hc:X.calm=true)(hm:X.mg "enumerate"=v7)(he:ME X e te)(hG:DGs X es is)(hb:MSs X body tb)(b7:autoParam (is.length=2) zA0)(hg:autoParam (Gl X "enumerate") zA0)
  (hn:autoParam ((T8 es X.env).length=2) zA0) (k9:autoParam ((T8 es X.env).findIdx? (·.1)=none) zA0)
  (hs:autoParam (∀y,zFS X (.Call (.Name "enumerate" p1) [e] [] p2) y) zA3) (t9:autoParam (zSE X e []) zA0) (g7:autoParam (T7 [e] X.env=[(false,T_ e X.env)]) zA0):
  MSt X (.For (.Tuple es x1 tp) (.Call (.Name "enumerate" p1) [e] [] p2) body [] pos) (tV is (mItE te) tb):=by
 obtain⟨ug,MN,kk⟩:=hG;refine#[(cP hp hc (AN hg hm (bv he.out pa_nil t9) g7) (gE hc MN hn k9) hb.out hs).anti λE s H q=>?_];obtain⟨F0,F,z,M,kp,rs,ED,h,e⟩:=q;refine#[F,z,M,kp.kf,rs,_,h,λd v M1 F1 H1 g1 hd rd m1=>?_];split at hd
 .rename_i ds;obtain⟨p,vs,rfl,hq,rr⟩:=rep_lst.mp rd;refine#[p,rfl,#[vs,SqL.of (g1.fh _ _ hq)],tW (It':=Itel X.K p) rfl (kp.growM rs.mb g1) (rs.growM kp.bh g1 m1) e b7 (λk F' H' s1 s2 hk=>?_) (λF' H' s1 s2=>?_) (λk F' H' x H'' s1 s2 hk hy=>?_) (λdd m_ T z s F H Q hl hT rp C_ hQ=>?_) (λ_ _ _ h=>h) hd]
  .have p8:k<vs.length:=by rw[rr.length];exact hk
   exact#[vs,vs[k],SqL.of (s2 _ _ (s1 _ _ hq)),by simp[p8]]
  .exact#[vs,SqL.of (s2 _ _ (s1 _ _ hq)),by rw[rr.length];exact GO _]
  .obtain⟨T,v,hT,e1,e2,hv⟩:=hy;obtain⟨d,hd,rd⟩:=rr.get' (hv vs (SqL.of (s2 _ _ (s1 _ _ hq))));exact#[T,d,v,hT,e1,e2,hd,rd.mono s1]
  .exact#[T,m_,rfl,SqT.of hT,by rw[rp.length];exact hl,kk dd m_ z s J.B F H Q (by rw[hl,b7]) rp C_ hQ]
 .exact hd.elim
def AR{x1:Nat}{tp p1 p2:Ub}{tb:TMS}(hp:Um (SL X.prog X.w) X.A X.env X.xe)(hc:X.calm=true)(hm:X.mg "enumerate"=v7)(he:ME X e te)(hG:DGs X es is)(hb:MSs X body tb)(b7:autoParam (is.length=2) zA0)(hg:autoParam (Gl X "enumerate") zA0)
  (hn:autoParam ((T8 es X.env).length=2) zA0) (k9:autoParam ((T8 es X.env).findIdx? (·.1)=none) zA0)
  (hs:autoParam (∀y,zFS X (.Call (.Name "enumerate" p1) [e] [] p2) y) zA3) (t9:autoParam (zSE X e []) zA0) (g7:autoParam (T7 [e] X.env=[(false,T_ e X.env)]) zA0):
  MSt X (.For (.Tuple es x1 tp) (.Call (.Name "enumerate" p1) [e] [] p2) body [] pos) (tV is (AO te) tb):=by
 obtain⟨ug,MN,kk⟩:=hG;refine#[(cP hp hc (tU hg hm (bv he.out pa_nil t9) g7) (gE hc MN hn k9) hb.out hs).anti λE s H q=>?_];obtain⟨F0,F,z,M,kp,rs,ED,h,e⟩:=q;refine#[F,z,M,kp.kf,rs,_,h,λd v M1 F1 H1 g1 hd rd m1=>?_];split at hd
 .rename_i x;obtain⟨ha,hd⟩:=hd;have hl:=fk x;refine#[x,by rw[rep_str.mp rd],ha,tW (It':=Ites x) rfl (kp.growM rs.mb g1) (rs.growM kp.bh g1 m1) e b7 (λk F' H' s1 s2 hk=>?_) (λF' H' s1 s2=>?_) (λk F' H' x H'' s1 s2 hk hy=>?_) (λdd m_ T z s F H Q hl hT rp C_ hQ=>?_) (λ_ _ _ h=>h) hd]
  .rw[hl]at hk;exact hk
  .exact hl
  .obtain⟨T,c,hT,e1,e2,hc⟩:=hy;exact#[T,.str #[[c].toArray],.str #[[c].toArray],hT,e1,e2,hV hc,rep_str.mpr rfl]
  .exact#[T,m_,rfl,SqT.of hT,by rw[rp.length];exact hl,kk dd m_ z s J.B F H Q (by rw[hl,b7]) rp C_ hQ]
 .exact hd.elim
end
end My
namespace L2
section
variable {prog:T3}{w:T5}{K:Type}[DecidableEq K]{l5:HeapKind prog w K}{A:T6}{E:KB->Os->Prop}{s:Os}{d a:KF}{k:K}{xs:List (K×KF×KB)}
def AS{v:KB}{Q:KB->Os->Prop}(hu:l5.room A)(o_:l5.is s.heap k a)(hm:s.heap.DictOfH l5 d xs)
  (h1:∀p,Vb xs k=be p->Q p.2 {s with toks:=s.toks+l5.draws k})
  (h2:Vb xs k=v7->∀h',h'.DictOfH l5 d (xs++[(k,a,v)])->Heap.SameBut d s.heap h'->Q v {s with heap:=h',toks:=s.toks+l5.draws k})
  (j7:xs.length<=sizeLine):T4 (SL prog w) A (Vi d (.ref a) v) Q E s:=by
 obtain⟨o,es,ep,ho,hc,hd,he,QN,hn⟩:=hm;unfold Vi
 try with_reducible refine Up ?_
 refine KM (l5.pyHash hu o_ ?_);refine KM (wpAny_dictFind_heap (s:={s with toks:=s.toks+l5.draws k}) hu o_ ho hd he QN hn ?_ ?_)
 .intro LJ;have OT:k∉xs.map (·.1):=not_mem_keys_of_get LJ;refine KM (VL (KM (wpAny_updateDictKeys (hz:=by have e:=size_of_entries he;lia) (s:={s with toks:=s.toks+l5.draws k}) ho hd (P3 (h2 (atKey_none_of_get LJ) _ ⟨_,_,ep+1,Heap.get?_update_self _ ho (Obj.isFreed_of_dict (Obj.data_mapDictKeys hd _)),
   hc.mapDictKeys _,Obj.data_mapDictKeys hd _,?_,?_,?_⟩ (Heap.SameBut.update ..))))))
  .simp[he,entryOfKey]
  .intro x hx;rcases Hi.mp hx with hx|hx
   .exact l5.keeps (QN x hx) ho hd (Heap.SameBut.update ..)
   .simp only[GN]at hx;subst hx;exact l5.keeps o_ ho hd (Heap.SameBut.update ..)
  .rw[Hl,Ia];refine#[hn,Ln,?_];intro x hx y hy;simp only[G8,HZ,GN]at hy;subst hy;exact λe=>OT (e ▸ hx)
 .intro j p hj;refine KM (wpAny_dictEntries (s:={s with toks:=s.toks+l5.draws k}) ho hd ?_);rw[entry_at he j,hj];exact KM (VL (P3 (h1 p (atKey_of_get hn hj))))
def AT(l5:HeapKind prog w K)(d a:KF)(hd:(d==Ut)=false)(v:KB):
  MeetsIn prog w (Builtin.«dict.setdefault» #[[.ref d,.ref a,v],[]]) (λA R s=>l5.room A.in1/\∃k xs,l5.is s.heap k a/\s.heap.DictOfH l5 d xs/\xs.length<=sizeLine/\
   (∀p,Vb xs k=be p->R (.ok (.ret p.2)) {s with toks:=s.toks+l5.draws k})/\
   (Vb xs k=v7->∀h',h'.DictOfH l5 d (xs++[(k,a,v)])->Heap.SameBut d s.heap h'->R (.ok (.ret v)) {s with heap:=h',toks:=s.toks+l5.draws k})):=
 .of_wp λA R s hh=>by
  obtain⟨hu,k,xs,o_,hm,hz,h1,h2⟩:=hh;unfold Builtin.«dict.setdefault»;refine KM ?_;unfold Builtin.Dict.keyAndDefault;refine KM (wpAny_notOrdered_dict hm.typeIs ?_);show T4 _ _ (pure (d,Value.ref a,be v)) _ _ s;refine P3 ?_;show T4 _ _ (if(d==Ut)=true then _ else(Vi d (.ref a) v>>=_)) _ _ s;rw[if_neg (by rw[hd];exact G3)];exact KM (AS hu o_ hm (λp hp=>P3 #[p.2,rfl,h1 p hp]) (λhn h' Lk K0=>P3 #[v,rfl,h2 hn h' Lk K0]) hz)
end
end L2
namespace My
open Exc
def lookD:List ((Int×Int)×Int)->Int->Int->Option Int
 |[],_,_=>v7
 |((a,b),h)::r,x,y=>if a=x/\b=y then be h else lookD r x y
def kM(x y:Int):∀a9:List ((Int×Int)×Int),valV (dtiV a9) [.inl x,.inl y]=(lookD a9 x y).map V.int
 |[]=>rfl
 |((a,b),h)::r=>by
  show valV (([.inl a,.inl b],V.int h)::dtiV r) _=_;unfold lookD;by_cases e:a=x/\b=y
  .rw[if_pos e,jY (by rw[e.1,e.2])];rfl
  .rw[if_neg e,jZ (λz=>e (by
    have z':([Sum.inl a,Sum.inl b]:List Key)=[.inl x,.inl y]:=z;injection z' with z1 z2;injection z2 with z2 _;exact#[Sum.inl.inj z1,Sum.inl.inj z2])),kM x y r]
def sdD(a9:List ((Int×Int)×Int))(x y v:Int):List ((Int×Int)×Int):=if(lookD a9 x y).isSome then a9 else a9++[((x,y),v)]
def AU:V->List V->Hp->VK->Prop:=λx vs H Q=>∃a b i j d a9,x=.ref a/\vs=[.ref b,.int d]/\H a=be (.dT (dtiV a9))/\H b=be (.tup [.int i,.int j])/\Q (.int ((lookD a9 i j).getD d)) H
def AV{X:Cx}(hu:X.A.units+1<Vn):MtR X "dict.get" AU:=by
 intro pins s σ H x vs v us Q I rx rv h;obtain⟨a,b,i,j,d,a9,rfl,rfl,ha,hb,q⟩:=h;obtain⟨u,u',rfl,ru,rd⟩:=fN rv;cases(show v=Value.ref a from rx);refine yq hu I (DGet.t (k:=[.inl i,.inl j]) ha hb) ru rd λw' s' I' h_=>#[.int ((lookD a9 i j).getD d),H,I',?_,q];rw[kM]at h_;cases e:lookD a9 i j with
 |none=>rw[e]at h_;exact h_
 |some z=>rw[e]at h_;exact h_
def rSdT:V->List V->Hp->VK->Prop:=λx vs H Q=>∃a b i j d a9,x=.ref a/\vs=[.ref b,.int d]/\H a=be (.dT (dtiV a9))/\H b=be (.tup [.int i,.int j])/\a9.length<100000/\∀w,Q (.int w) (upd H a (.dT (dtiV (sdD a9 i j d))))
variable{H:Hp}{a:KF}
def AW{o:HO}(h:H a=be o):upd H a o=H:=by
 funext b;by_cases e:b=a
 .subst e;rw[aA,h]
 .rw[ar e]
def AX{X:Cx}(hu:X.A.units+1<Vn):MtR X "dict.setdefault" rSdT:=by
 intro pins s σ H x vs v us Q I rx rv h;obtain⟨a,b,i,j,d,a9,rfl,rfl,ha,hb,hl,q⟩:=h;obtain⟨u,u',rfl,ru,t,rfl⟩:=fN rv;cases(show v=Value.ref a from rx);cases(show u=Value.ref b from ru);obtain⟨z,hd,xs,rel,dd⟩:=ym I.hok ha;have b7:xs.length=a9.length:=by rw[<-Paired.length rel];simp[dtiV]
 have big:(100000:Nat)<sizeLine:=Lj
 have gV:H b=be (.tup (([.inl i,.inl j]:List Key).map kV)):=hb;have l6:=rel.val [.inl i,.inl j];rw[kM]at l6;refine Vy PySem.F.slot_dict_setdefault dd.typeIs PySem.F.entry_dict_setdefault (PySem.F.args_dict_setdefault_3 _ _ _) (AT (UU (bJ X.prog X.w)) a b hd (.int d t)) #[VP hu,[.inl i,.inl j],xs,key_of I.hok gV,dd,KK,λp hp=>?_,λhn h' MH hs=>?_]
 .rw[hp]at l6;cases e:lookD a9 i j with
  |none=>rw[e]at l6;exact l6.elim
  |some w=>
   rw[e]at l6;have:=q w;unfold sdD at this;rw[e]at this;have e2:(if(be w:Option Int).isSome then a9 else a9++[((i,j),d)])=a9:=rfl;rw[e2,AW ha]at this;exact#[.int w,H,I.tok _,l6,this]
 .rw[hn]at l6;cases e:lookD a9 i j with
  |some w=>rw[e]at l6;exact l6.elim
  |none=>
   have e2:sdD a9 i j d=a9++[((i,j),d)]:=by unfold sdD;rw[e];rfl
   have e3:dtiV (sdD a9 i j d)=dtiV a9++[([.inl i,.inl j],.int d)]:=by rw[e2];simp[dtiV]
   obtain⟨o,es,ep,ho,hx,h3,h4,_,h5⟩:=MH;have new:ObjOk X.prog X.w (upd H a (.dT (dtiV (sdD a9 i j d)))) h' a (.dT (dtiV (sdD a9 i j d))):=by
    refine#[by rw[e3,G0];simp[dtiV];lia,hd,_,?_,o,es,ep,ho,hx,h3,h4,h5];rw[e3];refine KT.keeps (H:=H) (Paired.snoc (a:=(([.inl i,.inl j]:List Key),V.int d)) (b:=(([.inl i,.inl j]:List Key),b,Value.int d t)) rel #[rfl,gV,#[t,rfl]]) λc ys ec=>?_;rw[ar (wr ec ha (λz=>nomatch z))];exact ec
   exact#[.int d,_,yn I (by rw[ha];exact True.intro) hs #[o,ho] new,#[t,rfl],q d]
section
variable {X:Cx}[J:Jm]{a b c e o f:SZ}{ta tb tc te to:TME}{pos apos cpos:Ub}{t:TMA}
def mD0:TME:=λ_ M R=>R (.dti []) M
def AY:ME X (.Dict [] [] pos) mD0:=⟨pe_dnewT.anti λs H Q q=>by
 obtain⟨F,z,M,k,rs,R,h1,h2⟩:=q;intro p hp;have gn:=Grow.new k.fh hp (.dT []);exact h2 _ _ M _ _ gn.toM h1 (rep_dti.mpr #[p,rfl,aA]) (rs.rm.grow gn)⟩
def mDN:TME:=λ_ M R=>∀p,p∉au M->R (.ptr p) ((p,.dti [])::M)
def AZ:ME X (.Dict [] [] pos) mDN:=⟨pe_dnewT.anti λs H Q q=>by
 obtain⟨F,z,M,k,rs,R,h1,h2⟩:=q;intro p hp;exact h2 _ _ _ F _ (GrowM.new k.fh hp) (h1 p λz=>rs.rm.here z hp) (rep_ptr.mpr rfl) (rs.rm.new k.fh hp aA)⟩
def A1(to:TME)(t:TMA):TME:=λz M R=>to z M λd M1=>match d with|.dti a9=>(t z M1 λds M2=>match ds with|[.tup [.int i,.int j],.int x]=>R (.int ((lookD a9 i j).getD x)) M2|_=>False)|_=>False
def A2(hu:X.A.units+1<Vn)(ho:ME X o to)(ha:MA X [e,f] t)(b8:autoParam (T9 o "get" X.env (T_ o X.env)=T_ o X.env) zA0)
  (d8:autoParam (zHF X cpos [e,f]) zA0)
  (c8:autoParam ((apos.endLine==cpos.line)=true) zA0) (l_:autoParam (zSE X e [f]) zA0) (c7:autoParam (zPL X cpos [f]) zA0):
  ME X (.Call (.Attribute o "get" apos) [e,f] [] cpos) (A1 to t):=⟨(eL PySem.F.plainAttrs_dict PySem.F.slot_dict_get PySem.F.type_dict_get (AV hu) ho.out ha.out b8 d8 c8 l_ c7).anti λs H Q h=>by
 obtain⟨F,z,M,k,rs,R,h1,h2⟩:=h;refine#[F,z,M,k,rs,_,h1,λx u M1 F1 H1 g1 hx rx m1=>?_];split at hx
 .rename_i a9;obtain⟨p,rfl,hp⟩:=rep_dti.mp rx;refine#[.inr (.inr (.inl #[rfl,.inr #[_,g1.fh _ _ hp]])),?_];refine#[F1,z,M1,k.growM rs.mb g1,rs.growM k.bh g1 m1,_,hx,λds vs M2 F2 H2 g2 hd rd m2=>?_];split at hd
  .rename_i i j x;obtain⟨v1,r1,rfl,q1,q2⟩:=reps_cons.mp rd;obtain⟨v2,r2,rfl,q3,q4⟩:=reps_cons.mp q2;rw[reps_nil.mp q4,rep_int.mp q3];obtain⟨b,us,rfl,hb,ru⟩:=rep_tupS.mp q1;have OU:us=[.int i,.int j]:=(Reps.ints (ns:=[i,j])).mp ru;subst OU;exact#[p,b,i,j,x,a9,rfl,rfl,g2.fh _ _ (g2.ff _ _ hp),g2.fh _ _ hb,h2 _ _ M2 F2 H2 (g1.trans g2) hd (rep_int.mpr rfl) m2]
  .exact hd.elim
 .exact hx.elim⟩
def mDsd(to:TME)(t:TMA):TME:=λz M R=>to z M λd M1=>match d with|.ptr a=>(∃a9,mget M1 a=be (.dti a9))/\(t z M1 λds M2=>match ds with|[.tup [.int i,.int j],.int x]=>∃a9,mget M2 a=be (.dti a9)/\a9.length<100000/\∀w,R (.int w) (mput M2 a (.dti (sdD a9 i j x)))|_=>False)|_=>False
def A3(hu:X.A.units+1<Vn)(ho:ME X o to)(ha:MA X [e,f] t)(b8:autoParam (T9 o "setdefault" X.env (T_ o X.env)=T_ o X.env) zA0)
  (d8:autoParam (zHF X cpos [e,f]) zA0)
  (c8:autoParam ((apos.endLine==cpos.line)=true) zA0) (l_:autoParam (zSE X e [f]) zA0) (c7:autoParam (zPL X cpos [f]) zA0):
  ME X (.Call (.Attribute o "setdefault" apos) [e,f] [] cpos) (mDsd to t):=⟨(eL PySem.F.plainAttrs_dict PySem.F.slot_dict_setdefault PySem.F.type_dict_setdefault (AX hu) ho.out ha.out b8 d8 c8 l_ c7).anti λs H Q h=>by
 obtain⟨F,z,M,k,rs,R,h1,h2⟩:=h;refine#[F,z,M,k,rs,_,h1,λx u M1 F1 H1 g1 hx rx m1=>?_];split at hx
 .rename_i a;obtain⟨⟨Tn,ON⟩,hx⟩:=hx;rw[rep_ptr.mp rx];refine#[.inr (.inr (.inl #[rfl,.inr #[_,m1.ok _ _ (bA ON)]])),?_];refine#[F1,z,M1,k.growM rs.mb g1,rs.growM k.bh g1 m1,_,hx,λds vs M2 F2 H2 g2 hd rd m2=>?_];split at hd
  .rename_i i j x;obtain⟨a9,hm,hl,hR⟩:=hd;obtain⟨v1,r1,rfl,q1,q2⟩:=reps_cons.mp rd;obtain⟨v2,r2,rfl,q3,q4⟩:=reps_cons.mp q2;rw[reps_nil.mp q4,rep_int.mp q3];obtain⟨b,us,rfl,hb,ru⟩:=rep_tupS.mp q1;have OU:us=[.int i,.int j]:=(Reps.ints (ns:=[i,j])).mp ru;subst OU;refine#[a,b,i,j,x,a9,rfl,rfl,m2.ok _ _ (bA hm),g2.fh _ _ hb,hl,λw=>?_];exact h2 _ _ _ F2 _ (g1.trans (g2.trans (GrowM.put g2.fh (m2.fr a (bW (bA hm))) hm))) (hR w) (rep_int.mpr rfl) (m2.put hm aA)
  .exact hd.elim
 .exact hx.elim⟩
end
section
variable {P:T3}{w:T5}{K:Ex}{mg:Kq->Option KB}{base:Heap}
open Classical in
def Cls.okIM{x qual:Kq}{st:SB}{f C:KF}{fd:Ua}{N:List Kq}{p0:Kq}{ps:List Kq}{k:Nat}{S:SiD}(T:Fun K "__init__" qual st f fd)(hb:Binds K fd (p0::ps) [])(F:FnScope N (p0::ps) (ah st))(len:∀ds R,S ds R->ds.length=ps.length)
  (hns:nsIn K Pi x=be (be (.ref C))) (j_:mg x=be (.ref C)) (mk:Mk K C f)
  (a8:∀(cdv:KB) (A:T6) (outer:List UP) (s:Os) (H:Hp) (E:XK) (J:Jm),Room k (A.deeper (Ud qual (ah st) s.heap.objs.size f cdv))->XOkM (cxOf (CX1 P w) P w K mg base N qual (ah st) f cdv A outer s H E).nox->
   ∃t,MSs (cxOf (CX1 P w) P w K mg base N qual (ah st) f cdv A outer s H E).nox (aJ st) t/\∀a ds R,(∀z M x fs,¬J.RM z M x fs)->S ds R->t {nx:=λ_ M'=>∃fs,M'=[(a,.ins x fs)]/\R fs,rt:=λ_ _=>False} (startD N (.ptr a::ds)) [(a,.ins x [])]):CalM P w K mg base (k+1) x (p0::ps) S:=by
 refine#[C,f,fd,hns,j_,mk,Fun.okC T F (λvs H Q E h=>?_) (λcdv A outer s H vs Q E hr h=>?_),hb]
 .obtain⟨a,dx,us,H1,F,ds,rfl,_,_,_,_,_,rs,R,h,_⟩:=h;rw[GV,GV,rs.length,len ds R h]
 .obtain⟨a,dx,us,H1,F1,ds,rfl,rfl,ha,p_,j9,fh,rs,R,h,q⟩:=h
  let H:Hp:=upd (upd H1 dx (.own a)) a (.ins C dx [])
  let B:Hp:=λb=>if b=a then v7 else H b
  have MP:B a=none:=if_pos rfl;have hB:∀{b:KF},b≠a->B b=H b:=λ{b} h=>if_neg h;have m9:∀{b:KF} {o:HO},H1 b=be o->b≠a/\H b=be o:=λ{b o} e=>by
   have n1:b≠a:=bE e ha;exact#[n1,by show upd _ _ _ b=_;rw[ar n1,ar (bE e p_)];exact e]
  letI:Jm:={B:=B,F0:=F1,RX:=λ_ _ _=>False,RM:=λ_ _ _ _=>False}
  have hx:XOkM (cxOf (CX1 P w) P w K mg base N qual (ah st) f cdv A outer s H E).nox:=λσ z M' F' H' s' e C od y fs I kk rr hR er _=>hR.elim;obtain⟨t,ht,hq⟩:=a8 cdv A outer s H E inferInstance hr hx;have Fa:F1 a=none:=fh.free ha;have k0:Kept B F1 F1 H:=⟨λb o e=>by
   by_cases n:b=a
   .rw[n,MP]at e;cases e
   .rw[hB n]at e;exact e,λb o e=>(m9 (fh b o e)).2,Same.refl F1,λ_ h _=>h,rfl,Same.refl F1,λ_ h _=>h⟩
  have C_:Reps K F1 (.ptr a::ds) (.ref a::us):=reps_cons.mpr #[_,_,rfl,rep_ptr.mpr rfl,rs];have OV:RepM K F1 H [(a,.ins x [])]:=⟨by simp[au],λb o hb=>by
   have e:=GN.mp hb;cases e;exact#[C,dx,[],hns,aA,repf_nil.mpr rfl],λb hb=>by
   have e:b=a:=by simpa[au]using hb
   rw[e];exact Fa⟩
  have r0:RepZ K B F1 H (startD N (.ptr a::ds)) (L2.start N (.ref a::us)) [(a,.ins x [])]:=⟨dL C_,kK C_,OV,λb hb=>by
   have e:b=a:=by simpa[au]using hb
   rw[e];exact MP⟩
  refine#[_,ht.out.nox,F1,F1,_,_,k0,r0,_,hq a ds R (λ_ _ _ _ z=>z) h,#[λz' s' M' F' H' kk hn r=>?_,λd v M' F' H' kk hd rd OP mb=>hd.elim,λ_ _ _ _ _ _ h _=>h.elim,λ_ _ _ _ _ _ h _=>h.elim]];obtain⟨fs,rfl,hR⟩:=hn;obtain⟨C',KD,ws,g8,e8,rf⟩:=r.rm.ok a _ (GN.mpr rfl);have Lg:nsIn K Pi x=be (be (.ref C')):=g8;rw[hns]at Lg;cases Lg;exact q fs ws KD F' H' ⟨kk.f0,kk.fh,λb o e=>kk.bh b o (by show B b=be o;rw[hB (m9 e).1];exact(m9 e).2),λb h1 h2=>kk.out b h1 (by
   show B b≠v7;cases e:H1 b with
   |none=>exact absurd e h2
   |some o=>rw[hB (m9 e).1,(m9 e).2];exact λz=>nomatch z)⟩ hR e8 (r.rm.fr a (by simp[au])) rf
end
section
variable {P:T3}{w:T5}{K:Ex}{mg:Kq->Option KB}{base:Heap}{n:Nat}{x m:Kq}{ps:List Kq}
variable{S:SpM}
def CalMth.one(h:CalMth P w K mg base n x m ps (lSpM K S)):∀y,y∈[x]->CalMth P w K mg base n y m ps (lSpM K ((λ_=>S) y)):=λy hy=>by
 rw[GN.mp hy];exact h
def tX{f:KF}{fd:Ua}{sp:Sp}(h:∀vs H Q E,¬sp vs H Q E):FnOk P w K mg base (CX1 P w) n f fd ps sp:=#[λvs H Q E q=>(h _ _ _ _ q).elim,λA outer s H args us vs Q E _ _ _ _ q=>(h _ _ _ _ q).elim]
def tY(h:∀ds M R RX,¬S ds M R RX):∀vs H Q E,¬lSpM K S vs H Q E:=by
 rintro vs H Q E⟨F,ds,M,_,_,_,R,RX,q,_⟩;exact h ds M R RX q
def CalMth.never{qual:Kq}{st:SB}(T:Txm K x m qual st ps)(h:∀ds M R RX,¬S ds M R RX):CalMth P w K mg base n x m ps (lSpM K S):=by
 obtain⟨C,f,fd,h1,h2,h3,T,hb⟩:=T;exact#[C,f,fd,h1,h2,h3,tX (tY h),hb]
def CalMM.never{st:SB}(T:Tx K mg x st ps)(h:∀ds M R RX,¬S ds M R RX):CalMM P w K mg base n x ps S:=by
 obtain⟨f,fd,T,hb,hm⟩:=T;exact#[f,fd,tX (tY h),hb,T.kp,hm]
end
section
variable {X:Cx}[J:Jm]{a b c e:SZ}{ta tb:TME}{pos:Ub}
def mUn(r:D->(D->Prop)->Prop)(ta:TME):TME:=λz M R=>ta z M λx M1=>r x λd=>R d M1
end
def kN(S:SpM):SpM:=λds M R RX=>∃M1 M2,M=M1++M2/\S ds M2 (λd M'=>R d (M1++M')) λx fs M'=>RX x fs (M1++M')
def keys_app{M1 M2:MS}:a∈au (M1++M2)↔a∈au M1\/a∈au M2:=by unfold au;rw[Hl,Hi]
variable{K:Ex}{vs:List V}
def tZ{S:SpM}{Q:VK}{E:XK}(h:lSpM K (kN S) vs H Q E):lSpM K S vs H Q E:=by
 obtain⟨F,ds,M,fh,rs,rm,R,RX,⟨M1,M2,rfl,hS⟩,q,qx⟩:=h;have nd:(au M1++au M2).Nodup:=by have:=rm.nd;unfold au at this ⊢;rw[Hl]at this;exact this
 have OW:∀{a:KF},a∈au M1->a∉au M2:=λ{a} h1 h2=>(Ia.mp nd).2.2 a h1 a h2 rfl;have Sb:RepM K F H M2:=#[(Ia.mp nd).2.1,λa o h=>rm.ok a o (Hb _ h),λa h=>rm.fr a (keys_app.mpr (.inr h))];have up:∀{M':MS} {F' H':Hp},GrowM M2 M' F H F' H'->RepM K F' H' M'->GrowM (M1++M2) (M1++M') F H F' H'/\RepM K F' H' (M1++M'):=λ{M' F' H'} g r=>by
  have QO:∀{a:KF},a∈au M1->H a≠none:=λ{a} h=>rm.here (keys_app.mpr (.inl h));have OX:∀{a:KF},a∈au M1->a∉au M':=λ{a} h1 h2=>by
   rcases g.ks a h2 with z|z
   .exact OW h1 z
   .exact QO h1 z
  refine#[#[g.ff,g.fh,λb o nb e=>g.hh b o (λz=>nb (keys_app.mpr (.inr z))) e,λb nb h1 h2=>g.out b (λz=>nb (keys_app.mpr (.inr z))) h1 h2,λb hb=>?_],#[?_,λa o h=>?_,λa h=>?_]]
  .rcases keys_app.mp hb with z|z
   .exact .inl (keys_app.mpr (.inl z))
   .exact(g.ks b z).imp (λz=>keys_app.mpr (.inr z)) id
  .unfold au;rw[Hl];exact Ia.mpr #[(Ia.mp nd).1,r.nd,λa h1 b h2 e=>OX h1 (e ▸ h2)]
  .rcases Hi.mp h with z|z
   .have ka:a∈au M1:=bW z;exact(rm.ok a o (HY _ z)).mono g.ff λo e=>g.hh a o (OW ka) e
   .exact r.ok a o z
  .rcases keys_app.mp h with z|z
   .exact g.out a (OW z) (rm.fr a (keys_app.mpr (.inl z))) (QO z)
   .exact r.fr a z
 exact#[F,ds,M2,fh,rs,Sb,_,_,hS,λd v M' F' H' g hd rd m'=>q d v _ F' H' (up g m').1 hd rd (up g m').2,λx fs C od M' F' H' g hR er m'=>qx x fs C od _ F' H' (up g m').1 hR er (up g m').2]
section
variable {P:T3}{w:T5}{K:Ex}{mg:Kq->Option KB}{base:Heap}{n:Nat}{x m:Kq}{ps:List Kq}{S:SpM}
def CalMM.frame(C:CalMM P w K mg base n x ps S):CalMM P w K mg base n x ps (kN S):=C.imp λ_ _ _ _ h=>tZ h
def CalMth.frame(C:CalMth P w K mg base n x m ps (lSpM K S)):CalMth P w K mg base n x m ps (lSpM K (kN S)):=C.imp λ_ _ _ _ h=>tZ h
end
def nilX(S:SpX):SpM:=λds M R RX=>M=[]/\∃(R0:D->Prop) (KJ:XD),S ds R0 KJ/\(∀d M',R0 d->R d M')/\∀x fs M',KJ x fs->RX x fs M'
def CalMM.nilX{P:T3}{w:T5}{mg:Kq->Option KB}{base:Heap}{n:Nat}{x:Kq}{ps:List Kq}{S:SpX}(C:CalMM P w K mg base n x ps (nilX S)):CalX P w K mg base n x ps S:=C.toX λ_ R RX h=>#[rfl,R,RX,h,λ_ _ h=>h,λ_ _ _ h=>h]
mutual
def cu:D->Bool
 |.non=>true|.bl _=>true|.int _=>true|.str _=>true|.ptr _=>true
 |.tup ds=>flats ds
 |.lst ds=>flats ds
 |_=>false
def flats:List D->Bool
 |[]=>true
 |d::ds=>cu d&&flats ds
end
def cutF(F:Hp)(a:KF):Hp:=λb=>if b=a then v7 else F b
variable{F:Hp}
def gh{b:KF}(h:b≠a):cutF F a b=F b:=if_neg h
mutual
def Rep.cutF{K:Ex}{F:Hp}{a:KF}{C:KF}{dx:KF}{ws:List (Kq×V)}(ea:F a=be (.ins C dx ws)):∀(d:D) (v:V),cu d=true->Rep K F d v->Rep K (My.cutF F a) d v
 |.non,v,_,h=>by unfold Rep at h ⊢;exact h
 |.bl b,v,_,h=>by unfold Rep at h ⊢;exact h
 |.int b,v,_,h=>by unfold Rep at h ⊢;exact h
 |.str b,v,_,h=>by unfold Rep at h ⊢;exact h
 |.ptr b,v,_,h=>by unfold Rep at h ⊢;exact h
 |.tup ds,v,n,h=>by
  unfold Rep at h ⊢;obtain⟨p,vs,e,q,r⟩:=h;have ne:p≠a:=λz=>by rw[z,ea]at q;cases q
  exact#[p,vs,e,by rw[gh ne];exact q,Reps.cutF ea ds vs (by unfold cu at n;exact n) r]
 |.lst ds,v,n,h=>by
  unfold Rep at h ⊢;obtain⟨p,vs,e,q,r⟩:=h;have ne:p≠a:=λz=>by rw[z,ea]at q;cases q
  exact#[p,vs,e,by rw[gh ne];exact q,Reps.cutF ea ds vs (by unfold cu at n;exact n) r]
 |.rol _,_,n,_=>by unfold cu at n;cases n
 |.obj _ _,_,n,_=>by unfold cu at n;cases n
 |.exc _ _,_,n,_=>by unfold cu at n;cases n
 |.own _,_,n,_=>by unfold cu at n;cases n
 |.dti _,_,n,_=>by unfold cu at n;cases n
def Reps.cutF{K:Ex}{F:Hp}{a:KF}{C:KF}{dx:KF}{ws:List (Kq×V)}(ea:F a=be (.ins C dx ws)):∀(ds:List D) (vs:List V),flats ds=true->Reps K F ds vs->Reps K (My.cutF F a) ds vs
 |[],vs,_,h=>by unfold Reps at h ⊢;exact h
 |d::ds,vs,n,h=>by
  unfold flats at n;rw[Hj]at n;unfold Reps at h ⊢;obtain⟨v,r,e,q1,q2⟩:=h;exact#[v,r,e,Rep.cutF ea d v n.1 q1,Reps.cutF ea ds r n.2 q2]
end
def lendD(a:KF)(o:D)(d:D):D:=match d with|.ptr b=>if b=a then o else .ptr b|d=>d
def lend(S:SpX):SpM:=λds M R _=>∃a x fs,mget M a=be (.ins x fs)/\S (ds.map (lendD a (.obj x fs))) (λd=>cu d=true/\R d M) λ_ _=>False
def A5{F2:Hp}{o d:D}{v:V}(g:Same F F2)(ro:Rep K F2 o (.ref a))(h:Rep K F d v):Rep K F2 (lendD a o d) v:=by
 unfold lendD;split
 .rename_i b;split
  .rename_i e;rw[rep_ptr.mp h,e];exact ro
  .exact rep_ptr.mpr (rep_ptr.mp h)
 .exact h.mono g
def A6{F2:Hp}{o:D}(g:Same F F2)(ro:Rep K F2 o (.ref a)){ds:List D}:∀{vs:List V},Reps K F ds vs->Reps K F2 (ds.map (lendD a o)) vs:=by
 induction ds with
 |nil=>intro vs h;rw[reps_nil.mp h];exact reps_nil.mpr rfl
 |cons d ds ih=>
  intro vs h;obtain⟨v,r,rfl,q1,q2⟩:=reps_cons.mp h;exact reps_cons.mpr #[v,r,rfl,A5 g ro q1,ih q2]
def A7{S:SpX}{Q:VK}{E:XK}(h:lSpM K (lend S) vs H Q E):lSpX K S vs H Q E:=by
 obtain⟨F,ds,M,fh,rs,rm,R,RX,⟨a,x,fs,hm,hS⟩,q,qx⟩:=h;have ma:=bA hm;obtain⟨C,dx,ws,n,hH,rf⟩:=rm.ok _ _ ma;have fa:=rm.fr a (bW ma);have g:Same F (upd F a (.ins C dx ws)):=aO fa _;have g2:Same (upd F a (.ins C dx ws)) H:=λb o e=>by
  by_cases hb:b=a
  .subst hb;rw[aA]at e;cases e;exact hH
  .rw[ar hb]at e;exact fh b o e
 have ro:Rep K (upd F a (.ins C dx ws)) (.obj x fs) (.ref a):=by
  unfold Rep;exact#[a,C,dx,ws,rfl,n,aA,RepF.mono g fs ws rf]
 refine#[upd F a (.ins C dx ws),_,g2,A6 g ro rs,_,_,hS,λd v F' H' g' hd rd=>?_,λ_ _ _ _ _ _ _ z=>z.elim];have ea:F' a=be (.ins C dx ws):=g'.ff a _ aA;have ff:Same F (cutF F' a):=λb o e=>by
  have ne:b≠a:=λz=>by rw[z,fa]at e;cases e
  rw[gh ne];exact g'.ff b o (by rw[ar ne];exact e)
 have Sc:Same (cutF F' a) H':=λb o e=>by
  by_cases hb:b=a
  .subst hb;unfold cutF at e;rw[if_pos rfl]at e;cases e
  .rw[gh hb]at e;exact g'.fh b o e
 have out:∀b,F b=v7->H b≠v7->cutF F' a b=none:=λb h1 h2=>by
  by_cases hb:b=a
  .subst hb;exact if_pos rfl
  .rw[gh hb];exact g'.out b (by rw[ar hb];exact h1) h2
 exact q d v M (cutF F' a) H' #[ff,Sc,λb o _ e=>g'.hh b o e,λb _ h1 h2=>out b h1 h2,λb z=>.inl z] hd.2 (Rep.cutF ea d v hd.1 rd)
  #[rm.nd,λb o hb=>(rm.ok b o hb).mono ff λo e=>g'.hh b o e,λb hb=>out b (rm.fr b hb) (rm.here hb)]
def NoOwn(z:SD):Prop:=∀(i:Nat) ds,z[i]?≠be (be (.own ds))
def ofB(B H:Hp)(M:MS):Hp:=λb=>if b∈au M then H b else B b
def jOf(B H F:Hp)(M:MS):Jx:=#[ofB B H M,F,λ_ _ _=>False]
def endD(E:EndsM)(M:MS):EndsD:=#[λz=>E.nx z M/\NoOwn z,λd=>E.rt d M,λz=>E.bk z M/\NoOwn z,λz=>E.ct z M/\NoOwn z]
def mPS(t:TSD):TMS:=λE z M=>t (endD E M) z
section
variable {X:Cx}[J:Jm]
variable{B H:Hp}{M:MS}
def kO{b:KF}(h:b∈au M):ofB B H M b=H b:=if_pos h
def kP{b:KF}(h:b∉au M):ofB B H M b=B b:=if_neg h
variable{K:Ex}{F0 F:Hp}{z:SD}{s:L2.St}
def dA{F' H':Hp}(k:Kept J.B F0 F H)(rz:RepZ K J.B F H z s M)(k':@Kept (jOf J.B H F M) (ofB J.B H M) F F' H'):Kept J.B F0 F' H'/\RepM K F' H' M:=by
 have nk:∀b,J.B b≠v7->b∉au M:=λb e z=>e (rz.mb b z);obtain⟨bh,fh,f0,out,_,_,_⟩:=k';refine#[#[λb o e=>?_,fh,k.f0.trans f0,λb h1 h2=>?_,k.eb,k.jf,k.jo],rz.rm.nd,λb o hb=>(rz.rm.ok b o hb).mono f0 λo e=>?_,λb hb=>?_]
 .exact bh b o (by rw[kP (nk b (by rw[e];exact λz=>nomatch z))];exact e)
 .exact out b (k.out b h1 h2) (by rw[kP (nk b h2)];exact h2)
 .exact bh b o (by rw[kO (bW hb)];exact e)
 .exact out b (rz.rm.fr b hb) (by rw[kO hb];exact rz.rm.here hb)
def gj{B':Hp}(r:RepS K B F H z s)(no:NoOwn z):RepS K B' F H z s:=#[r.len,r.val,λi ds e=>absurd e (no i ds),r.apart]
def ub(k:Kept J.B F0 F H):@Kept (jOf J.B H F M) (ofB J.B H M) F F H:=
 @Kept.mk (jOf J.B H F M) _ _ _ _ (λb o e=>by
  by_cases hb:b∈au M
  .rw[kO hb]at e;exact e
  .rw[kP hb]at e;exact k.bh b o e) k.fh (Same.refl F) (λ_ h _=>h) rfl (Same.refl F) (λ_ h _=>h)
def uc{ED:EndsM}{D:Ends}(k:Kept J.B F0 F H)(rz:RepZ K J.B F H z s M)(e:EndsOkM K F0 ED D):@EndsOk (jOf J.B H F M) K (ofB J.B H M) F (endD ED M) D:=
 @EndsOk.mk (jOf J.B H F M) _ _ _ _ _ (λz' s' F' H' k' hz r'=>e.nx z' s' M F' H' (dA k rz k').1 hz.1 #[gj r' hz.2,hz.2,(dA k rz k').2,rz.mb])
  (λd v F' H' k' hd rd=>e.rt d v M F' H' (dA k rz k').1 hd rd (dA k rz k').2 rz.mb)
  (λz' s' F' H' k' hz r'=>e.bk z' s' M F' H' (dA k rz k').1 hz.1 #[gj r' hz.2,hz.2,(dA k rz k').2,rz.mb])
  (λz' s' F' H' k' hz r'=>e.ct z' s' M F' H' (dA k rz k').1 hz.1 #[gj r' hz.2,hz.2,(dA k rz k').2,rz.mb])
def A8{st:SB}{t:TSD}(h:∀J':Jx,@WDS X J' st t):MSt X st (mPS t):=⟨λpins s σ H D I q=>by
 obtain⟨F0,F,z,M,k,rz,ED,ht,e⟩:=q;exact @WDS.out X (jOf J.B H F M) st t (h _) pins s σ H D I #[ofB J.B H M,F,F,z,ub k,gj rz.rs rz.no,_,ht,uc k rz e]⟩
def mTry(tb:Jm->TMS)(th:TH):TMS:=λE z M=>∃RM:SD->MS->XD,(∀J':Jm,J'.RM=RM->tb J' E z M)/\∀z' M' x fs,RM z' M' x fs->th x fs (endD E M') z'
def jTry(B F0:Hp)(RM:SD->MS->XD):Jm:={B:=B,F0:=F0,RX:=λ_ _ _=>False,RM:=RM}
variable{RM:SD->MS->XD}
def Kept.reM(k:Kept J.B F0 F H):@Kept (jTry J.B F0 RM).toJx J.B F0 F H:=@Kept.mk (jTry J.B F0 RM).toJx J.B F0 F H k.bh k.fh k.f0 k.out rfl (Same.refl F0) (λ_ h _=>h)
def Kept.unM{F' H':Hp}(k:Kept J.B F0 F H)(k':@Kept (jTry J.B F0 RM).toJx J.B F0 F' H'):Kept J.B F0 F' H':=by
 obtain⟨a,b,c,d,_,_,_⟩:=k';exact#[a,b,c,d,k.eb,k.jf,k.jo]
def ud{body:List SB}{h₀:Uz}{hs:List Uz}{pos:Ub}{tb:Jm->TMS}{th:TH}
  (hb:∀(pn:List (KF×Uj)) (xe:KB->Os->Prop) (J':Jm),Um (SL X.prog X.w) X.A X.env xe->@XOkM (X.tried pn xe) J'->@MSs (X.tried pn xe) J' body (tb J'))
  (hh:∀J':Jx,@WDH X J' (h₀::hs) th) (d9:autoParam (X.ex=[]) zA0) (A_:autoParam (X.stack=X.env::X.outer) zA0) (l9:autoParam (X.env.frame=be X.env.locals) zA0):MSt X (.Try body (h₀::hs) [] [] pos) (mTry tb th):=⟨by
 intro pins s σ H D I h;obtain⟨F0,F,z,M,k,rz,ED,⟨RM,h1,h2⟩,ee⟩:=h;have ok:=I.ok;have hx:@XOkM (X.tried (X.pn++pins) (λe s₁=>T4 (SL X.prog X.w) X.A (UV e X.env) (λ_ s₂=>T4 (SL X.prog X.w) X.A (U' e v7) (λ_ s₃=>T4 (SL X.prog X.w) X.A (Vh e X.env (h₀::hs)) (SP X pins D) X.xe s₃) X.xe s₂) X.xe s₁)) (jTry J.B F0 RM):=by
  intro σ' z' M' F' H' s' e C od x fs I1 kk rr hR er hd;have k2:Kept J.B F0 F' H':=Kept.unM k kk;exact zR (Inv.untried ok I1) hd d9 A_ l9 λs4 T2 I4 hl=>@WDH.out X (jOf J.B H' F' M') _ _ (hh _) pins s4 σ' H' D e C od T2 x fs (ofB J.B H' M') F' F' z' (endD ED M') I4 hl (ub k2) (gj rr.rs rr.no) er (h2 z' M' x fs hR) (uc k2 rr ee)
 refine wpAny_Try_except (Ug (@MSs.out _ (jTry J.B F0 RM) _ _ (hb (X.pn++pins) _ (jTry J.B F0 RM) PassesOwn.looking hx) [] s σ H D (Inv.tried I) ?_) (λf s1 q=>?_) λe s1 q=>q)
 .exact#[F0,F,z,M,Kept.reM k,rz,ED,h1 (jTry J.B F0 RM) rfl,@EndsOkM.mk (jTry J.B F0 RM) _ _ _ _ (λz' s' M' F' H' k'=>ee.nx z' s' M' F' H' (Kept.unM k k')) (λd v M' F' H' k'=>ee.rt d v M' F' H' (Kept.unM k k')) (λz' s' M' F' H' k'=>ee.bk z' s' M' F' H' (Kept.unM k k')) (λz' s' M' F' H' k'=>ee.ct z' s' M' F' H' (Kept.unM k k'))]
 .have q:=SP.untried ok q;cases f with
  |next=>exact UM q
  |ret v=>exact q
  |brk=>exact q
  |cont=>exact q⟩
end
end My
namespace My
section
variable {K:Ex}{h:Heap}{mg:Kq->Option KB}{x y m q f:Kq}{st:SB}{ps:List Kq}
abbrev NsC(K:Ex)(x:Kq)(C:KF):Prop:=nsIn K Pi x=be (be (.ref C))
variable{C:KF}
def NsC.uniq{D:KF}(a:NsC K x C)(b:NsC K x D):C=D:=by
 have e:=a.symm.trans b;cases e;rfl
abbrev BindA(x q:Kq)(st:SB)(ps:List Kq):Prop:=∀(kV doc pm:KB) (an:Option KF) (cdv ct:KB) (us:List KB),us.length=ps.length->UK (fnOf x q (bw st) (aJ st) (ah st) .none kV doc pm an cdv ct) #[us,[]]=pure (ps.zip us)
def FnIn(K:Ex)(x:Kq)(st:SB):Prop:=∃f fd,NsC K x f/\Fun K x x st f fd
variable{oc kV dc pm cd ct:KB}{od an:Option KF}{sl:Array (Option KB)}
def fnIn_mk{f:KF}(a:nsIn K Pi x=be (be (.ref f)))(l:K.lookup f=be #[oc,od,.func (fnOf x x (bw st) (aJ st) (ah st) .none kV dc pm an cd ct),sl])(c:codeIn K cd x=true)(k:keepIn K (.ref f)=true):FnIn K x st:=#[f,_,a,gN l c k]
def FnIn.tx(T:FnIn K x st)(X:K.In h)(G:h.Ns Pi mg)(b:BindA x x st ps):Tx K mg x st ps:=by
 obtain⟨f,fd,a,F⟩:=T;exact#[f,fd,F,F.binds b,mg_of X G a]
def FnIn.law{p:Kq}(T:FnIn K x st)(X:K.In h)(G:h.Ns Pi mg){fa:KF}(Ls:mg x=be (.ref fa))(b:∀(kV doc pm:KB) (an:Option KF) (cdv ct v:KB),UK (fnOf x x (bw st) (aJ st) (ah st) .none kV doc pm an cdv ct) #[[v],[]]=pure [(p,v)]):∃fd,(∀(s:Os) (v:KB),UY s fd #[[v],[]] [(p,v)])/\Fun K x x st fa fd:=by
 obtain⟨f,fd,a,F⟩:=T;have e:=Ls.symm.trans (mg_of X G a);cases e;refine#[fd,λs v=>?_,F];obtain⟨oc,od,kV,doc,pm,an,cdv,ct,osl,rfl,lk,gt⟩:=F.ex;exact .of_eq (b _ _ _ _ _ _ v)
variable{us:List KB}
def bn{x:Kq}{xs:List Kq}(h:us.length=(x::xs).length):∃u t,us=u::t/\t.length=xs.length:=by
 cases us with
 |nil=>cases h
 |cons u t=>exact#[u,t,rfl,Nat.succ.inj h]
def len_0(h:us.length=([]:List Kq).length):us=[]:=JN h
variable{x0:Kq}
def A9(b:∀(kV doc pm:KB) (an:Option KF) (cdv ct u0:KB),UK (fnOf x q (bw st) (aJ st) (ah st) .none kV doc pm an cdv ct) #[[u0],[]]=pure [(x0,u0)]):BindA x q st [x0]:=λkV doc pm an cdv ct us hl=>by
 obtain⟨u0,t0,rfl,h0⟩:=bn hl;cases len_0 h0;exact b kV doc pm an cdv ct u0
variable{x1:Kq}
def bind2(b:∀(kV doc pm:KB) (an:Option KF) (cdv ct u0 u1:KB),UK (fnOf x q (bw st) (aJ st) (ah st) .none kV doc pm an cdv ct) #[[u0,u1],[]]=pure [(x0,u0),(x1,u1)]):BindA x q st [x0,x1]:=λkV doc pm an cdv ct us hl=>by
 obtain⟨u0,t0,rfl,h0⟩:=bn hl;obtain⟨u1,t1,rfl,h1⟩:=bn h0;cases len_0 h1;exact b kV doc pm an cdv ct u0 u1
variable{x2:Kq}
def bind3(b:∀(kV doc pm:KB) (an:Option KF) (cdv ct u0 u1 u2:KB),UK (fnOf x q (bw st) (aJ st) (ah st) .none kV doc pm an cdv ct) #[[u0,u1,u2],[]]=pure [(x0,u0),(x1,u1),(x2,u2)]):BindA x q st [x0,x1,x2]:=λkV doc pm an cdv ct us hl=>by
 obtain⟨u0,t0,rfl,h0⟩:=bn hl;obtain⟨u1,t1,rfl,h1⟩:=bn h0;obtain⟨u2,t2,rfl,h2⟩:=bn h1;cases len_0 h2;exact b kV doc pm an cdv ct u0 u1 u2
variable{x3:Kq}
def bind4(b:∀(kV doc pm:KB) (an:Option KF) (cdv ct u0 u1 u2 u3:KB),UK (fnOf x q (bw st) (aJ st) (ah st) .none kV doc pm an cdv ct) #[[u0,u1,u2,u3],[]]=pure [(x0,u0),(x1,u1),(x2,u2),(x3,u3)]):BindA x q st [x0,x1,x2,x3]:=λkV doc pm an cdv ct us hl=>by
 obtain⟨u0,t0,rfl,h0⟩:=bn hl;obtain⟨u1,t1,rfl,h1⟩:=bn h0;obtain⟨u2,t2,rfl,h2⟩:=bn h1;obtain⟨u3,t3,rfl,h3⟩:=bn h2;cases len_0 h3;exact b kV doc pm an cdv ct u0 u1 u2 u3
def bind5{x4:Kq}(b:∀(kV doc pm:KB) (an:Option KF) (cdv ct u0 u1 u2 u3 u4:KB),UK (fnOf x q (bw st) (aJ st) (ah st) .none kV doc pm an cdv ct) #[[u0,u1,u2,u3,u4],[]]=pure [(x0,u0),(x1,u1),(x2,u2),(x3,u3),(x4,u4)]):BindA x q st [x0,x1,x2,x3,x4]:=λkV doc pm an cdv ct us hl=>by
 obtain⟨u0,t0,rfl,h0⟩:=bn hl;obtain⟨u1,t1,rfl,h1⟩:=bn h0;obtain⟨u2,t2,rfl,h2⟩:=bn h1;obtain⟨u3,t3,rfl,h3⟩:=bn h2;obtain⟨u4,t4,rfl,h4⟩:=bn h3;cases len_0 h4;exact b kV doc pm an cdv ct u0 u1 u2 u3 u4
def bind6{x4 x5:Kq}(b:∀(kV doc pm:KB) (an:Option KF) (cdv ct u0 u1 u2 u3 u4 u5:KB),UK (fnOf x q (bw st) (aJ st) (ah st) .none kV doc pm an cdv ct) #[[u0,u1,u2,u3,u4,u5],[]]=pure [(x0,u0),(x1,u1),(x2,u2),(x3,u3),(x4,u4),(x5,u5)]):BindA x q st [x0,x1,x2,x3,x4,x5]:=λkV doc pm an cdv ct us hl=>by
 obtain⟨u0,t0,rfl,h0⟩:=bn hl;obtain⟨u1,t1,rfl,h1⟩:=bn h0;obtain⟨u2,t2,rfl,h2⟩:=bn h1;obtain⟨u3,t3,rfl,h3⟩:=bn h2;obtain⟨u4,t4,rfl,h4⟩:=bn h3;obtain⟨u5,t5,rfl,h5⟩:=bn h4;cases len_0 h5;exact b kV doc pm an cdv ct u0 u1 u2 u3 u4 u5
structure ClF(K:Ex)(x:Str)(C:KF):Prop where
 ns:NsC K x C
 cl:Cls K C
 ha:GT K (.ref C) "__class__"=be (be (.builtin "object.__class__"))
 hn:specialIn K (.builtin "object.__class__") "__get__"=be (be (.builtin "getset_descriptor.__get__"))
 ht:takesIn K (.builtin "object.__class__")=be true
 hm:Hy K C (.type "object")=be true
def ClIn(K:Ex)(x:Kq):Prop:=∃C,ClF K x C
def clIn_mk(a:nsIn K Pi x=be (be (.ref C)))(pg:plainGet K C Str.empty=true)(hd:hasDictIn K C=true)(po:plainOver K C=true)(sa:GT K (.ref C) "__setattr__"=be (be (.builtin "object.__setattr__")))
  (ha:GT K (.ref C) "__class__"=be (be (.builtin "object.__class__"))) (hn:specialIn K (.builtin "object.__class__") "__get__"=be (be (.builtin "getset_descriptor.__get__"))) (ht:takesIn K (.builtin "object.__class__")=be true) (hm:Hy K C (.type "object")=be true):ClIn K x:=#[C,a,#[pg,hd,po,sa],ha,hn,ht,hm]
def NoIn(K:Ex)(x f:Kq):Prop:=∃C,NsC K x C/\GT K (.ref C) f=be v7
def noIn_mk(a:nsIn K Pi x=be (be (.ref C)))(b:GT K (.ref C) f=be v7):NoIn K x f:=#[C,a,b]
def ClIn.a(c:ClIn K x)(n:NoIn K x f):ClsA K x f:=by
 obtain⟨C,k⟩:=c;obtain⟨D,a,b⟩:=n;cases NsC.uniq k.ns a;exact#[C,a,k.cl,b]
def NoIn.all(n:NoIn K x f):∀C,nsIn K Pi x=be (be (.ref C))->GT K (.ref C) f=be none:=λC hC=>by
 obtain⟨D,a,b⟩:=n;cases NsC.uniq hC a;exact b
def MtIn(K:Ex)(x m q:Kq)(st:SB):Prop:=∃C f fd,NsC K x C/\Meth K C m f/\Fun K m q st f fd
def mtIn_mk{f:KF}(a:nsIn K Pi x=be (be (.ref C)))(b:GT K (.ref C) m=be (be (.ref f)))(i:isFn K (.ref f)=true)(l:K.lookup f=be #[oc,od,.func (fnOf m q (bw st) (aJ st) (ah st) .none kV dc pm an cd ct),sl])(c:codeIn K cd q=true)(k:keepIn K (.ref f)=true):MtIn K x m q st:=#[C,f,_,a,#[b,i,k],gN l c k]
def MtIn.txm(T:MtIn K x m q st)(c:ClIn K x)(b:BindA m q st ps):Txm K x m q st ps:=by
 obtain⟨C,k⟩:=c;obtain⟨D,f,fd,a,mt,F⟩:=T;cases NsC.uniq k.ns a;exact#[C,f,fd,a,k.cl,mt,F,F.binds b]
def InIn(K:Ex)(x q:Kq)(st:SB):Prop:=∃C f fd,NsC K x C/\Mk K C f/\Fun K "__init__" q st f fd
def inIn_mk{f:KF}(a:nsIn K Pi x=be (be (.ref C)))(mk:makesIn K C=true)(b:GT K (.ref C) "__init__"=be (be (.ref f)))(i:isFn K (.ref f)=true)(kp:keepIn K (.ref C)=true)(l:K.lookup f=be #[oc,od,.func (fnOf "__init__" q (bw st) (aJ st) (ah st) .none kV dc pm an cd ct),sl])(c:codeIn K cd q=true)(k:keepIn K (.ref f)=true):InIn K x q st:=#[C,f,_,a,#[mk,b,i,kp],gN l c k]
def Txi(K:Ex)(mg:Kq->Option KB)(x q:Kq)(st:SB)(ps:List Kq):Prop:=∃C f fd,NsC K x C/\mg x=be (.ref C)/\Mk K C f/\Fun K "__init__" q st f fd/\Binds K fd ps []
def InIn.txi(T:InIn K x q st)(X:K.In h)(G:h.Ns Pi mg)(b:BindA "__init__" q st ps):Txi K mg x q st ps:=by
 obtain⟨C,f,fd,a,mk,F⟩:=T;exact#[C,f,fd,a,mg_of X G a,mk,F,F.binds b]
def CiIn(K:Ex)(x:Kq)(i:Int):Prop:=∃t,nsIn K Pi x=be (be (.int i t))
def CsIn(K:Ex)(x y:Kq):Prop:=∃t,nsIn K Pi x=be (be (.str y t))
def ciIn_mk{i:Int}{t:VX}(a:nsIn K Pi x=be (be (.int i t))):CiIn K x i:=#[t,a]
def csIn_mk{t:VX}(a:nsIn K Pi x=be (be (.str y t))):CsIn K x y:=#[t,a]
def CiIn.g{i:Int}(c:CiIn K x i)(X:K.In h)(G:h.Ns Pi mg):∃t,mg x=be (.int i t):=let ⟨t,a⟩:=c;#[t,mg_of X G a]
def CsIn.g(c:CsIn K x y)(X:K.In h)(G:h.Ns Pi mg):∃t,mg x=be (.str y t):=let ⟨t,a⟩:=c;#[t,mg_of X G a]
def NnIn(K:Ex)(x:Kq):Prop:=nsIn K Pi x=be v7
def nnIn_mk(a:nsIn K Pi x=be v7):NnIn K x:=a
structure ErF(K:Ex)(x:Str)(bm:List KB)(C N:KF):Prop where
 ns:NsC K x C
 kp:keepIn K (.ref C)=true
 ob:∃nm q bs sn sub ab col dd k0 k1 k2 k3 k5,K.lookup C=be (Uo nm q C N bs bm true sn sub ab col dd k0 k1 k2 k3 k5 "ValueError.__new__")
structure ErN(K:Ex)(N:KF):Prop where
 ok:nsOkIn K N=true
 no:nsIn K N "__init__"=be v7
def EbIn(K:Ex):Prop:=∃C N,ErF K "MotifError" Exc.veLine C N/\ErN K N
def EdIn(K:Ex)(x:Kq)(C N:KF):Prop:=∃B,NsC K "MotifError" B/\ErF K x (.ref B::Exc.veLine) C N
def E0In(K:Ex)(x:Kq):Prop:=∃C N,EdIn K x C N/\ErN K N
def E1In(K:Ex)(x q:Kq)(st:SB):Prop:=∃C N f fd,EdIn K x C N/\GT K (.ref C) "__init__"=be (be (.ref f))/\isFn K (.ref f)=true/\Fun K "__init__" q st f fd
def EaIn(K:Ex)(x:Kq):Prop:=∃C,NsC K x C/\GT K (.ref C) "__setattr__"=be (be (.builtin "object.__setattr__"))
def EgIn(K:Ex)(x:Kq):Prop:=∃C,NsC K x C/\GT K (.ref C) "__getattribute__"=be (be (.builtin "BaseException.__getattribute__"))/\GT K (.ref C) "__getattr__"=be v7
def EiIn(K:Ex)(x:Kq):Prop:=∃M,NsC K x M/\readsIn K M (.type "type")=true/\findCls K (.ref M) (.type "type") "__init__"=be (.val (.builtin "ValueError.__init__"))/\specialIn K (.ref M) "__getattribute__"=be (be (.builtin "type.__getattribute__"))
def EmIn(K:Ex)(x y:Kq):Prop:=∃C D,NsC K x C/\NsC K y D/\Hy K C (.ref D)=be (subE x y)
section
variable {B C D N:KF}{nm qn:Kq}{bs:List KB}{sn:List Kq}{sub:List KB}{ab:Bool}{col:Option Bool}{dd:Option KF}{k0 k1 k2 k3 k5:Option KB}{nc:KB}{nd:Option KF}{ne:Array DictEntry}{np:Nat}{nl:Array (Option KB)}
def ebIn_mk(a:nsIn K Pi "MotifError"=be (be (.ref C)))(kp:keepIn K (.ref C)=true)(o:K.lookup C=be (Uo nm qn C N bs Exc.veLine true sn sub ab col dd k0 k1 k2 k3 k5 "ValueError.__new__"))(nk:K.lookup N=be #[nc,nd,.dict ne np,nl])(al:ne.toList.all (λe=>match e.key with|.str _ _=>true|_=>false)=true)(ni:nsIn K N "__init__"=be v7):EbIn K:=#[C,N,#[a,kp,_,_,_,_,_,_,_,_,_,_,_,_,_,o],tE nk al,ni]
def e0In_mk(b:nsIn K Pi "MotifError"=be (be (.ref B)))(a:nsIn K Pi x=be (be (.ref C)))(kp:keepIn K (.ref C)=true)(o:K.lookup C=be (Uo nm qn C N bs (.ref B::Exc.veLine) true sn sub ab col dd k0 k1 k2 k3 k5 "ValueError.__new__"))(nk:K.lookup N=be #[nc,nd,.dict ne np,nl])(al:ne.toList.all (λe=>match e.key with|.str _ _=>true|_=>false)=true)(ni:nsIn K N "__init__"=be v7):E0In K x:=#[C,N,#[B,b,a,kp,_,_,_,_,_,_,_,_,_,_,_,_,_,o],tE nk al,ni]
def e1In_mk{f:KF}{oc:KB}{od an:Option KF}{sl:Array (Option KB)}{kV dc pm cd ct:KB}(b:nsIn K Pi "MotifError"=be (be (.ref B)))(a:nsIn K Pi x=be (be (.ref C)))(kp:keepIn K (.ref C)=true)(o:K.lookup C=be (Uo nm qn C N bs (.ref B::Exc.veLine) true sn sub ab col dd k0 k1 k2 k3 k5 "ValueError.__new__"))
  (j:GT K (.ref C) "__init__"=be (be (.ref f))) (i:isFn K (.ref f)=true) (l:K.lookup f=be #[oc,od,.func (fnOf "__init__" q (bw st) (aJ st) (ah st) .none kV dc pm an cd ct),sl]) (c:codeIn K cd q=true) (k:keepIn K (.ref f)=true):E1In K x q st:=#[C,N,f,_,#[B,b,a,kp,_,_,_,_,_,_,_,_,_,_,_,_,_,o],j,i,gN l c k]
def eaIn_mk(a:nsIn K Pi x=be (be (.ref C)))(b:GT K (.ref C) "__setattr__"=be (be (.builtin "object.__setattr__"))):EaIn K x:=#[C,a,b]
def egIn_mk(a:nsIn K Pi x=be (be (.ref C)))(b:GT K (.ref C) "__getattribute__"=be (be (.builtin "BaseException.__getattribute__")))(c:GT K (.ref C) "__getattr__"=be v7):EgIn K x:=#[C,a,b,c]
def eiIn_mk(a:nsIn K Pi x=be (be (.ref C)))(b:readsIn K C (.type "type")=true)(c:findCls K (.ref C) (.type "type") "__init__"=be (.val (.builtin "ValueError.__init__")))(d:specialIn K (.ref C) "__getattribute__"=be (be (.builtin "type.__getattribute__"))):EiIn K x:=#[C,a,b,c,d]
def emIn_mkT(e:subE x y=true)(a:nsIn K Pi x=be (be (.ref C)))(c:nsIn K Pi y=be (be (.ref D)))(d:Hy K C (.ref D)=be true):EmIn K x y:=#[C,D,a,c,e ▸ d]
def emIn_mkF(e:subE x y=false)(a:nsIn K Pi x=be (be (.ref C)))(c:nsIn K Pi y=be (be (.ref D)))(d:Hy K C (.ref D)=be false):EmIn K x y:=#[C,D,a,c,e ▸ d]
end
def EdIn.k{N:KF}(e:EdIn K x C N)(b:EbIn K)(X:K.In h)(G:h.Ns Pi mg):∃bm,ErrK K mg x C N bm:=by
 obtain⟨B,hB,k⟩:=e;obtain⟨B',N',kb,n⟩:=b;cases NsC.uniq kb.ns hB;obtain⟨_,_,_,_,_,_,_,_,_,_,_,_,_,o⟩:=kb.ob;exact#[_,k.ns,mg_of X G k.ns,k.kp,k.ob,zU o rfl n.ok n.no]
def E0In.k(e:E0In K x)(b:EbIn K)(X:K.In h)(G:h.Ns Pi mg):∃C N bm,ErrK K mg x C N bm/\ErrN K N:=by
 obtain⟨C,N,k,n⟩:=e;obtain⟨bm,z⟩:=k.k b X G;exact#[C,N,bm,z,n.ok,n.no]
def Txe(K:Ex)(mg:Kq->Option KB)(x q:Kq)(st:SB)(ps:List Kq):Prop:=∃C N bm f fd,ErrK K mg x C N bm/\GT K (.ref C) "__init__"=be (be (.ref f))/\isFn K (.ref f)=true/\Fun K "__init__" q st f fd/\Binds K fd ps []
def E1In.txe(e:E1In K x q st)(b:EbIn K)(X:K.In h)(G:h.Ns Pi mg)(bi:BindA "__init__" q st ps):Txe K mg x q st ps:=by
 obtain⟨C,N,f,fd,k,i,j,F⟩:=e;obtain⟨bm,z⟩:=k.k b X G;exact#[C,N,bm,f,fd,z,i,j,F,F.binds bi]
def ErrK.a'{N:KF}{bm:List KB}(k:ErrK K mg x C N bm)(a:EaIn K x):∃C cd,ErrA K x C cd:=by
 obtain⟨D,hD,sa⟩:=a;cases NsC.uniq k.ns hD;exact#[C,k.a sa]
def E1In.a(e:E1In K x q st)(b:EbIn K)(a:EaIn K x)(X:K.In h)(G:h.Ns Pi mg):∃C cd,ErrA K x C cd:=by
 obtain⟨C,N,f,fd,k,_⟩:=e;obtain⟨bm,z⟩:=k.k b X G;exact z.a' a
def E1In.c(e:E1In K x q st)(b:EbIn K)(X:K.In h)(G:h.Ns Pi mg):∃C N bm,ErrK K mg x C N bm:=by
 obtain⟨C,N,f,fd,k,_⟩:=e;obtain⟨bm,z⟩:=k.k b X G;exact#[C,N,bm,z]
def EiIn.b(e:EiIn K x)(X:K.In h)(G:h.Ns Pi mg):∃M,BaseK K mg x M:=by
 obtain⟨M,a,b,c,d⟩:=e;exact#[M,mg_of X G a,b,c,d]
def EgIn.g(e:EgIn K x)(a:∃C cd,ErrA K x C cd)(n:NoIn K x f):ErrG K f x:=by
 obtain⟨C,h1,h2,h3⟩:=e;obtain⟨D,cd,ea⟩:=a;cases NsC.uniq ea.ns h1;exact#[C,cd,ea,h2,h3,n.all C h1]
def AllP(p:Kq->Prop):List Kq->Prop
 |[]=>True
 |a::l=>p a/\AllP p l
def AllP.mem{p:Kq->Prop}:∀{l:List Kq},AllP p l->∀x∈l,p x
 |_::_,h,_,.head _=>h.1
 |_::_,h,_,.tail _ m=>AllP.mem h.2 _ m
def Ba{es:List Kq}(c:AllP (λx=>∃C N bm,ErrK K mg x C N bm) es)(s:AllP (λx=>AllP (λy=>EmIn K x y) es) es):ErrsK K mg es:=by
 refine#[c.mem,λx hx y hy C C' h1 h2=>?_];obtain⟨A,B,a,b,m⟩:=(s.mem x hx).mem y hy;cases NsC.uniq a h1;cases NsC.uniq b h2;exact m
end
structure Bx where
 P:T3
 w:T5
 K:Ex
 mg:Kq->Option KB
 base:Heap
abbrev Bx.T(V:Bx)(x:Kq)(st:SB)(ps:List Kq):Prop:=Tx V.K V.mg x st ps
abbrev Bx.Tm(V:Bx)(x m q:Kq)(st:SB)(ps:List Kq):Prop:=Txm V.K x m q st ps
abbrev Bx.Ti(V:Bx)(x q:Kq)(st:SB)(ps:List Kq):Prop:=Txi V.K V.mg x q st ps
abbrev Bx.Te(V:Bx)(x q:Kq)(st:SB)(ps:List Kq):Prop:=Txe V.K V.mg x q st ps
abbrev Bx.Ek(V:Bx)(es:List Kq):Prop:=ErrsK V.K V.mg es
abbrev Bx.m(V:Bx)(x:Kq):Prop:=V.mg x=v7
abbrev Bx.gi(V:Bx)(x:Kq)(i:Int):Prop:=∃t,V.mg x=be (.int i t)
abbrev Bx.gs(V:Bx)(x y:Kq):Prop:=∃t,V.mg x=be (.str y t)
abbrev Bx.a(V:Bx)(x f:Kq):Prop:=ClsA V.K x f
abbrev Bx.D(V:Bx)(n:Nat)(x:Kq)(ps:List Kq)(S:SpD):Prop:=CalD V.P V.w V.K V.mg V.base n x ps S
abbrev Bx.X(V:Bx)(n:Nat)(x:Kq)(ps:List Kq)(S:SpX):Prop:=CalX V.P V.w V.K V.mg V.base n x ps S
abbrev Bx.MM(V:Bx)(n:Nat)(x:Kq)(ps:List Kq)(S:SpM):Prop:=CalMM V.P V.w V.K V.mg V.base n x ps S
abbrev Bx.M(V:Bx)(n:Nat)(x:Kq)(ps:List Kq)(S:SiD):Prop:=CalM V.P V.w V.K V.mg V.base n x ps S
abbrev Bx.E(V:Bx)(n:Nat)(x:Kq)(ps:List Kq)(S:SiD):Prop:=CalE V.P V.w V.K V.mg V.base n x ps S
abbrev Bx.Q(V:Bx)(n:Nat)(x m:Kq)(ps:List Kq)(S:SpM):Prop:=CalMth V.P V.w V.K V.mg V.base n x m ps (lSpM V.K S)
abbrev Bx.n(V:Bx)(x:Kq):Prop:=∃C N bm,ErrK V.K V.mg x C N bm/\ErrN V.K N
abbrev Bx.b(V:Bx)(x:Kq):Prop:=∃M,BaseK V.K V.mg x M
abbrev Bx.ea(V:Bx)(x:Kq):Prop:=∃C cd,ErrA V.K x C cd
abbrev Bx.xf(V:Bx)(x f:Kq):Prop:=∀C,nsIn V.K Pi x=be (be (.ref C))->GT V.K (.ref C) f=be v7
abbrev Bx.x(V:Bx)(f:Kq)(ys:List Kq):Prop:=∀y∈ys,ErrG V.K f y
section
variable {P:T3}{w:T5}{K:Ex}{mg:Kq->Option KB}{base:Heap}
variable{x qual p0:Kq}{st:SB}{N ps:List Kq}{k:Nat}{S:SiD}
def Txi.okI(T:Txi K mg x qual st (p0::ps))(F:FnScope (p0::N) (p0::ps) (ah st))(len:∀ds R,S ds R->ds.length=ps.length)
  (a8:∀(f:KF) (cdv:KB) (A:T6) (outer:List UP) (s:Os) (H:Hp) (E:XK) (J:Jx),Room k (A.deeper (Ud qual (ah st) s.heap.objs.size f cdv))->
   ∃t,WDI (cxOf (Exc.CX1 P w) P w K mg base (p0::N) qual (ah st) f cdv A outer s H E).nox x (aJ st) t/\∀ds R,S ds R->t (v7::startD N ds) [] R):CalM P w K mg base (k+1) x (p0::ps) S:=by
 obtain⟨C,f,fd,a,b,c,d,e⟩:=T;exact Cls.okIW d e F len a b c (a8 f)
def Txi.okIM(T:Txi K mg x qual st (p0::ps))(F:FnScope N (p0::ps) (ah st))(len:∀ds R,S ds R->ds.length=ps.length)
  (a8:∀(f:KF) (cdv:KB) (A:T6) (outer:List UP) (s:Os) (H:Hp) (E:XK) (J:Jm),Room k (A.deeper (Ud qual (ah st) s.heap.objs.size f cdv))->XOkM (cxOf (Exc.CX1 P w) P w K mg base N qual (ah st) f cdv A outer s H E).nox->
   ∃t,MSs (cxOf (Exc.CX1 P w) P w K mg base N qual (ah st) f cdv A outer s H E).nox (aJ st) t/\∀a ds R,(∀z M x fs,¬J.RM z M x fs)->S ds R->t {nx:=λ_ M'=>∃fs,M'=[(a,.ins x fs)]/\R fs,rt:=λ_ _=>False} (startD N (.ptr a::ds)) [(a,.ins x [])]):CalM P w K mg base (k+1) x (p0::ps) S:=by
 obtain⟨C,f,fd,a,b,c,d,e⟩:=T;exact Cls.okIM d e F len a b c (a8 f)
def Txe.okE(T:Txe K mg x qual st (p0::ps))(F:FnScope (p0::N) (p0::ps) (ah st))(len:∀ds R,S ds R->ds.length=ps.length)
  (a8:∀(f:KF) (cdv:KB) (A:T6) (outer:List UP) (s:Os) (H:Hp) (E:XK) (J:Jx),Room k (A.deeper (Ud qual (ah st) s.heap.objs.size f cdv))->
   ∃t,WDX (cxOf (Exc.CX1 P w) P w K mg base (p0::N) qual (ah st) f cdv A outer s H E).nox x (aJ st) t/\∀ds R,S ds R->t (v7::startD N ds) [] R):CalE P w K mg base (k+1) x (p0::ps) S:=by
 obtain⟨C,N',bm,f,fd,a,b,c,d,e⟩:=T;exact Cls.okEW d e F len a b c (a8 f)
end
section
variable {X:Cx}[J:Jx]{a b c e o g_ iter:SZ}{es:List SZ}{ta tb tc te to ti tj:TD}{tt:TDT}{t:TDA}{pos px:Ub}{x:Kq}{scope:Uv}
def ue(ix:Nat)(KC:TDI)(te:TD):TSD:=λE z=>KC z (cmpP te z λd=>match d with|.lst ys=>E.nx (z.set ix (be (.own ys)))|_=>False)
def Bb{K:Ex}{E:Ends}{s:L2.St}{H:Hp}{ix:Nat}{wi:TI}{KC:TDI}(hI:ItOk K wi KC)(q:lS K (ue ix KC te) E s H):tAsg (fY wi (lT K dT1) (lE K te)) (fM ix) E s H:=by
 obtain⟨B,F0,F,z,k,rs,ED,h,e⟩:=q;refine hI k.kf rs h λitems J F1 H1 g1 hg it=>sQ (Q:=λv H=>E.nx (s.set ix (be v)) H) k.kf g1 rs (λD ys us F' H' hH hF GG hu ry hR=>?_) it (cmpP.g hg);have r2:=(rs.grow GG).setOwn (i:=ix) (a:=D) (k.bh.free hH) hF ry λj dj _ q1 q2=>by
  obtain⟨a,vs,p1,p2,_⟩:=rs.own j dj q1;rw[p1]at q2;cases q2;rw[hH]at p2;cases p2
 rw[tm hu]at r2;exact e.nx _ _ F' H' (k.grow GG) hR r2
def Bc(ix:Nat){y:Kq}{py m8:Ub}(hc:X.calm=true)(S:CompScope X scope x)(hN:X.N.Nodup)(hi:WDE X iter ti)(he:∀cl s₀ H₀ fp,WDE (ce X scope cl x s₀ H₀ fp) g_ te)(MD:autoParam (X.N[ix]?=be y) zA0)(hy:autoParam (Loc X.env.scope y) zA4)
  (hf:autoParam (zFN X y) zA2) (Kx:autoParam (Uh (.ListComp g_ [#[.Name x px,iter,[],0]] scope pos) (be (.Name y py)) m8.line X.env=pure true) zA0) (hs:autoParam (∀y,zFS X iter y) zA3):
  WDS X (.Assign [.Name y py] (.ListComp g_ [#[.Name x px,iter,[],0]] scope pos) m8) (ue ix (dItS ti) te):=#[(sP hc S (tH hi.out) (λ_ _ _ _=>kB) (λa b c d=>(he a b c d).out) hN MD hy hf Kx hs).anti λE s H q=>Bb itS q]
def GK:RDn:=λds R=>match ds with|[.lst xs]=>∃ns:List Int,xs=ns.map D.int/\0<ns.length/\∀m,m∈ns->(∀a∈ns,m<=a)->R (.int m)|_=>False
def GL:RDn:=λds R=>match ds with|[.lst xs]=>R (.tup xs)|[.tup xs]=>R (.tup xs)|_=>False
def rSCount:RTx:=λy ds R=>match ds with|[.str p]=>R (.int (Builtin.Str.occurrences y p 0 y.length (y.length+1)).length)|_=>False
def Bd:MtS X "str.count" rSCount:=by
 refine#[λx vs H Q=>∃y p,x=.str y/\vs=[.str p]/\Q (.int (Builtin.Str.occurrences y p 0 y.length (y.length+1)).length) H,?_,?_]
 .intro pins s σ H x vs v us Q I rx rv h;obtain⟨y,p,rfl,rfl,q⟩:=h;obtain⟨t,rfl⟩:=rx;obtain⟨u,rfl,t',rfl⟩:=cb rv;exact SC.count #[.int _,H,I.tok _,#[_,rfl],q]
 .intro y ds vs F H R Q r h q;unfold rSCount at h;split at h
  .obtain⟨v,vr,rfl,h1,h2⟩:=reps_cons.mp r;rw[reps_nil.mp h2,rep_str.mp h1];exact#[_,_,rfl,rfl,q _ _ (λ_=>rep_int.mpr rfl) h]
  .exact h.elim
def uf{apos cpos:Ub}(ho:WDE X o to)(ha:WDA X [e] t)(b8:autoParam (T9 o "count" X.env (T_ o X.env)=T_ o X.env) zA0)
  (d8:autoParam (zHF X cpos [e]) zA0)
  (c8:autoParam ((apos.endLine==cpos.line)=true) zA0) (hs:autoParam (zSE X e []) zA0):WDE X (.Call (.Attribute o "count" apos) [e] [] cpos) (dTx rSCount to t):=#[kE PySem.F.slot_str_count PySem.F.type_str_count Bd ho.out ha.out b8 d8 c8 hs]
def Be(is:List Nat)(ti:TDI)(tb:TSD):TSD:=λE z=>ti z λds=>∃W:Nat->SD->Prop,W 0 z/\(∀(k:Nat) x z,ds[k]?=be x->W k z->tb {E with nx:=W (k+1),ct:=W (k+1),bk:=E.nx} (aT is [.int k,x] z))/\∀z,W ds.length z->E.nx z
variable{is:List Nat}
def Bf{K:Ex}{B F0 F1 H1:Hp}{z:SD}{s:L2.St}{E:Ends}{ED:EndsD}{It':It}{g:TG}{tb:TSD}{ML:TS}{ds:List D}(k1:Kept B F0 F1 H1)(n4:RepS K B F1 H1 z s)(e:EndsOk K B F0 ED E)
  (go:∀k F' H',Same F1 F'->Same F' H'->k<ds.length->It'.go k H') (stop:∀F' H',Same F1 F'->Same F' H'->It'.stop ds.length H')
  (yld:∀k F' H' x H'',Same F1 F'->Same F' H'->k<ds.length->It'.yld k H' x H''->∃T d v,H' T=v7/\x=.ref T/\H''=upd H' T (.tup [.int k,v])/\ds[k]?=be d/\Rep K F' d v)
  (hg:∀(dd:List D) (vs:List V) (T:KF) (z:SD) (s:L2.St) (F H:Hp) (Q:L2.St->Hp->Prop),dd.length=2->H T=be (.tup vs)->Reps K F dd vs->RepS K B F H z s->(∀s',RepS K B F H (aT is dd z) s'->Q s' H)->g (.ref T) s H Q)
  (OS:∀E s H,lS K tb E s H->ML E s H)
  (hd:∃W:Nat->SD->Prop,W 0 z/\(∀(k:Nat) x z,ds[k]?=be x->W k z->tb {ED with nx:=W (k+1),ct:=W (k+1),bk:=ED.nx} (aT is [.int k,x] z))/\∀z,W ds.length z->ED.nx z):
  ∃W:Nat->Nat->L2.St->Hp->Prop,(∃m,W 0 m s H1)/\∀i m σ H,W i m σ H->
   (It'.stop i H/\E.nx σ H)\/(It'.go i H/\∃N:L2.St->Hp->Prop,(∀σ' H',N σ' H'->∃m',m'<m/\W (i+1) m' σ' H')/\∀x H',It'.yld i H x H'->g x σ H' λσ2 H2=>ML {E with nx:=N,ct:=N,bk:=E.nx} σ2 H2):=by
 obtain⟨W,w0,c5,out⟩:=hd;refine#[λk m s' H'=>m=ds.length-k/\k<=ds.length/\∃F' z',Kept B F0 F' H'/\Same F1 F'/\RepS K B F' H' z' s'/\W k z',#[ds.length,Ln,Hc _,F1,z,k1,Same.refl F1,n4,w0],?_];rintro k m s' H'⟨rfl,hk,F',z',k',g',r',w'⟩;by_cases f9:k<ds.length
 .refine .inr #[go k F' H' g' k'.fh f9,λs3 H3=>∃F3 z3,Kept B F0 F3 H3/\Same F1 F3/\RepS K B F3 H3 z3 s3/\W (k+1) z3,λs3 H3 h3=>#[ds.length-(k+1),KK,rfl,f9,h3],λx H'' hy=>?_];obtain⟨T,d,v,hT,rfl,rfl,hd,rd⟩:=yld k F' H' x H'' g' k'.fh f9 hy;have gn:=Grow.new k'.fh hT (.tup [.int k,v]);have k2:=k'.grow gn;have rp:Reps K (upd F' T (.tup [.int k,v])) [.int k,d] [.int k,v]:=reps_cons.mpr #[_,_,rfl,rep_int.mpr rfl,eV (rd.mono gn.ff)];refine hg [.int k,d] _ T z' s' _ _ _ rfl aA rp (r'.grow gn) λs2 LO=>OS _ _ _ ?_;have gF:Same F1 (upd F' T (.tup [.int k,v])):=g'.trans gn.ff;refine#[B,upd F' T (.tup [.int k,v]),upd F' T (.tup [.int k,v]),_,#[k2.bh,k2.fh,Same.refl _,λb h1 _=>h1,k2.eb,k2.jf.trans k2.f0,λb h1 h2=>k2.out b (k2.jo b h1 h2) h2],LO,_,c5 k d z' hd w',?_];have up:∀{F3 H3:Hp},Kept B (upd F' T (.tup [.int k,v])) F3 H3->Kept B F0 F3 H3:=λk3=>#[k3.bh,k3.fh,k2.f0.trans k3.f0,λb h1 h2=>k3.out b (k2.out b h1 h2) h2,k2.eb,k2.jf,k2.jo];exact#[λz3 s3 F3 H3 k3 h3 r3=>#[F3,z3,up k3,gF.trans k3.f0,r3,h3],λd v F3 H3 k3=>e.rt d v F3 H3 (up k3),λz3 s3 F3 H3 k3=>e.nx z3 s3 F3 H3 (up k3),λz3 s3 F3 H3 k3 h3 r3=>#[F3,z3,up k3,gF.trans k3.f0,r3,h3]]
 .have ek:k=ds.length:=by lia
  subst ek;exact .inl #[stop F' H' g' k'.fh,e.nx z' s' F' H' k' (out z' w') r']
variable{p2:Ub}
def Bg{es:List SZ}{x1:Nat}{tp p1:Ub}{body:List SB}{tb:TSD}(hp:Um (SL X.prog X.w) X.A X.env X.xe)(hc:X.calm=true)(hm:X.mg "enumerate"=v7)(he:WDE X e te)(hG:DGs X es is)(hb:WDSs X body tb)(b7:autoParam (is.length=2) zA0)(hg:autoParam (Gl X "enumerate") zA0)
  (hn:autoParam ((T8 es X.env).length=2) zA0) (k9:autoParam ((T8 es X.env).findIdx? (·.1)=none) zA0)
  (hs:autoParam (∀y,zFS X (.Call (.Name "enumerate" p1) [e] [] p2) y) zA3) (t9:autoParam (zSE X e []) zA0) (g7:autoParam (T7 [e] X.env=[(false,T_ e X.env)]) zA0):
  WDS X (.For (.Tuple es x1 tp) (.Call (.Name "enumerate" p1) [e] [] p2) body [] pos) (Be is (dItS te) tb):=by
 obtain⟨ug,MN,kk⟩:=hG;refine#[(cP hp hc (tU hg hm (bv he.out pa_nil t9) g7) (gE hc MN hn k9) hb.out hs).anti λE s H q=>?_];obtain⟨B,F0,F,z,kp,rs,ED,h,e⟩:=q;refine#[B,F,z,kp.kf,rs,_,h,λd v F1 H1 g1 hd rd=>?_];split at hd
 .rename_i x;obtain⟨ha,hd⟩:=hd;have hl:=fk x;refine#[x,by rw[rep_str.mp rd],ha,Bf (It':=Ites x) (kp.grow g1) (rs.grow g1) e (λk F' H' s1 s2 hk=>?_) (λF' H' s1 s2=>?_) (λk F' H' x H'' s1 s2 hk hy=>?_) (λdd m_ T z s F H Q hl hT rp C_ hQ=>?_) (λ_ _ _ h=>h) hd]
  .rw[hl]at hk;exact hk
  .exact hl
  .obtain⟨T,c,hT,e1,e2,hc⟩:=hy;exact#[T,.str #[[c].toArray],.str #[[c].toArray],hT,e1,e2,hV hc,rep_str.mpr rfl]
  .exact#[T,m_,rfl,SqT.of hT,by rw[rp.length];exact hl,kk dd m_ z s B F H Q (by rw[hl,b7]) rp C_ hQ]
 .exact hd.elim
def Bh(K:Ex):R2:=λx y H Q=>∃p xs i z,x=.ref p/\y=.int i/\0<=i/\SqL K H p xs/\xs[i.toNat]?=be z/\Q z H
def Bi:PGet X (Bh X.K):=by
 intro pins s σ H x y v u Q I rx ry h;obtain⟨p,xs,i,z,rfl,rfl,h0,hq,he,q⟩:=h;cases rx;obtain⟨t,rfl⟩:=ry;obtain⟨its,r,pl,hz⟩:=I.list hq;obtain⟨w,ew,h_⟩:=r.get he;have hl:=r.length;have hn:=line63;have hi:=(G1.mp he).1;exact wpAny_getItem_list pl.isList h0 KK (by simpa using ew) #[z,H,I,h_,q]
def uh(i:Nat)(ti te:TD):TSD:=λE z=>match z[i]? with
 |some (be (.own ds))=>ti z λy=>(match y with|.int k=>∃n,0<=k/\ds[k.toNat]?=be (.int n)/\te z λd=>(match d with|.int m=>E.nx (z.set i (be (.own (ds.set k.toNat (.int (n+m))))))|_=>False)|_=>False)
 |_=>False
def Bj(i:Nat){x:Kq}{p1:Ub}(hb:WDE X b tb)(he:WDE X e te)(hN:autoParam (X.N[i]?=be x) zA0)(hv:autoParam (Vis X.env.scope x) zA5)(hd:autoParam (zND x) zA1)
  (gt:autoParam (zNC x) zA1)
  (ha:autoParam (∀ov iv new,augStore b ov iv new=(do Uu [new,ov,iv] (Vt ov iv new);VT [new,ov,iv] [];pure .next)) zA7):
  WDS X (.AugAssign (.Subscript (.Name x p1) b p2) .Add e pos) (uh i tb te):=⟨(wR (cO hN hv hd gt) hb.out Bi he.out wS rD ha).anti λE s H q=>by
 obtain⟨B,F0,F,z,k,rs,ED,h,e⟩:=q;unfold uh at h;split at h
 .rename_i ds ez;obtain⟨a,vs,q1,q2,q3,q4,q5⟩:=rs.own i ds ez;refine#[.ref a,q1,B,F,z,k.kf,rs,_,h,λy w F2 H2 g2 hy ry=>?_];split at hy
  .rename_i k';obtain⟨n,k0,en,hn⟩:=hy;have KA:F2 a=none:=g2.out a q4 (by rw[q2];exact λz=>nomatch z);obtain⟨v,ev,rv⟩:=q5.get en;refine#[a,vs,_,v,rfl,rep_int.mp ry,k0,SqL.of (g2.hh _ _ q2),ev,B,F2,z,k.kf.grow g2,rs.grow g2,_,hn,λd u F3 H3 g3 hd rd=>?_];split at hd
   .have r2:=(rs.grow g2).grow g3;have k2:=(k.grow g2).grow g3;have NE:F3 a=none:=g3.out a KA (by rw[g2.hh _ _ q2];exact λz=>nomatch z);rw[rep_int.mp rv,rep_int.mp rd];have f9:=(G1.mp en).1;refine#[_,_,rfl,rfl,a,vs,_,k'.toNat,rfl,rep_int.mp ry,g3.hh _ _ (g2.hh _ _ q2),by unfold ixN;rw[q5.length,if_pos k0,if_pos KK],?_];obtain⟨k3,r3⟩:=r2.change k2 ez q1 q3 NE (Reps.put (d:=.int _) (v:=.int _) (rep_int.mpr rfl) k'.toNat ((q5.mono g2.ff).mono g3.ff));exact e.nx _ s F3 _ k3 hd r3
   .exact hd.elim
  .exact hy.elim
 .exact h.elim⟩
def Bk(i:Nat)(t:TDA):TSD:=λE z=>t z λds=>match ds with
 |[.lst xs]=>E.nx (z.set i (be (.own xs)))
 |[.tup xs]=>E.nx (z.set i (be (.own xs)))
 |_=>False
def Bl[Jx](i:Nat){x:Kq}{b_ p:Ub}{t:TDA}(hm:X.mg "list"=v7)(hN:X.N.Nodup)(ha:WDA X [e] t)(hi:autoParam (X.N[i]?=be x) zA0)(hx:autoParam (Loc X.env.scope x) zA4)(hg:autoParam (Gl X "list") zA0)(he:autoParam (zSE X e []) zA0)(hs:autoParam (Uh (.Call (.Name "list" p) [e] [] p2) (be (.Name x b_)) pos.line X.env=pure false) zA0)
  (hf:autoParam (zFN X x) zA2):WDS X (.Assign [.Name x b_] (.Call (.Name "list" p) [e] [] p2) pos) (Bk i t):=⟨have ha:=ha.out;(gH hN hi hx (jT rF hg hm PyProof.Rows.boot_list ha Lj Lj he) hs hf).anti λE s H q=>by
 obtain⟨B,F0,F,z,k,rs,ED,h,e⟩:=q;refine#[B,F,z,k.kf,rs,_,h,λds vs F1 H1 g hd rd=>?_];have k1:=k.grow g;have r1:=rs.grow g;have d_:∀{xs:List D} {us:List V},Reps X.K F1 xs us->ED.nx (z.set i (be (.own xs)))->∀l,H1 l=v7->E.nx (s.set i (be (.ref l))) (upd H1 l (.lst us)):=λ{xs us} rr hn p hp=>by
  have hB:B p=none:=k1.bh.free hp;have hF:F1 p=none:=k1.fh.free hp;refine e.nx _ _ F1 _ #[k1.bh.trans (aO hp _),k1.fh.trans (aO hp _),k1.f0,k1.out,k1.eb,k1.jf,k1.jo] hn (r1.setOwn hB hF rr λj dj hj e1 e2=>?_);obtain⟨a,us,q1,q2,_⟩:=r1.own j dj e1;rw[e2]at q1;cases q1;rw[hp]at q2;cases q2
 split at hd
 .obtain⟨v,r,rfl,h1,h2⟩:=reps_cons.mp rd;rw[reps_nil.mp h2];obtain⟨a,us,rfl,hq,rr⟩:=rep_lst.mp h1;exact#[a,us,rfl,.inl (g.fh.seq (SqL.of hq)),d_ rr hd]
 .obtain⟨v,r,rfl,h1,h2⟩:=reps_cons.mp rd;rw[reps_nil.mp h2];obtain⟨a,us,rfl,hq,rr⟩:=rep_tup_mp h1;exact#[a,us,rfl,.inr (g.fh.tup hq),d_ rr hd]
 .exact hd.elim⟩
end
mutual
def noL:D->Bool
 |.non=>true|.bl _=>true|.int _=>true|.str _=>true|.ptr _=>true|.dti _=>true
 |.tup ds=>noLs ds
 |.obj _ fs=>noLF fs
 |_=>false
def noLs:List D->Bool
 |[]=>true
 |d::ds=>noL d&&noLs ds
def noLF:List (Kq×D)->Bool
 |[]=>true
 |(_,d)::ds=>noL d&&noLF ds
end
def nlF(F:Hp):Hp:=λb=>match F b with|some (.lst _)=>v7|o=>o
def kQ{F:Hp}{b:KF}{o:HO}(e:F b=be o)(h:∀vs,o≠.lst vs):nlF F b=be o:=by
 unfold nlF;rw[e];cases o with
 |lst vs=>exact absurd rfl (h vs)
 |_=>rfl
mutual
def Rep.nl{K:Ex}{F:Hp}:∀(d:D) (v:V),noL d=true->Rep K F d v->Rep K (nlF F) d v
 |.non,v,_,h=>by unfold Rep at h ⊢;exact h
 |.bl b,v,_,h=>by unfold Rep at h ⊢;exact h
 |.int b,v,_,h=>by unfold Rep at h ⊢;exact h
 |.str b,v,_,h=>by unfold Rep at h ⊢;exact h
 |.ptr b,v,_,h=>by unfold Rep at h ⊢;exact h
 |.dti a9,v,_,h=>by
  unfold Rep at h ⊢;obtain⟨a,e,q⟩:=h;exact#[a,e,kQ q λ_ z=>nomatch z]
 |.tup ds,v,n,h=>by
  unfold Rep at h ⊢;obtain⟨a,vs,e,q,r⟩:=h;exact#[a,vs,e,kQ q (λ_ z=>nomatch z),Reps.nl ds vs (by unfold noL at n;exact n) r]
 |.obj x fs,v,n,h=>by
  unfold Rep at h ⊢;obtain⟨a,C,dx,vs,e,n1,q,r⟩:=h;exact#[a,C,dx,vs,e,n1,kQ q (λ_ z=>nomatch z),RepF.nl fs vs (by unfold noL at n;exact n) r]
 |.lst _,_,n,_=>by unfold noL at n;cases n
 |.rol _,_,n,_=>by unfold noL at n;cases n
 |.exc _ _,_,n,_=>by unfold noL at n;cases n
 |.own _,_,n,_=>by unfold noL at n;cases n
def RepF.nl{K:Ex}{F:Hp}:∀(ds:List (Kq×D)) (vs:List (Kq×V)),noLF ds=true->RepF K F ds vs->RepF K (nlF F) ds vs
 |[],vs,_,h=>by unfold RepF at h ⊢;exact h
 |(f,d)::ds,vs,n,h=>by
  unfold noLF at n;rw[Hj]at n;unfold RepF at h ⊢;obtain⟨v,r,e,q1,q2⟩:=h;exact#[v,r,e,Rep.nl d v n.1 q1,RepF.nl ds r n.2 q2]
def Reps.nl{K:Ex}{F:Hp}:∀(ds:List D) (vs:List V),noLs ds=true->Reps K F ds vs->Reps K (nlF F) ds vs
 |[],vs,_,h=>by unfold Reps at h ⊢;exact h
 |d::ds,vs,n,h=>by
  unfold noLs at n;rw[Hj]at n;unfold Reps at h ⊢;obtain⟨v,r,e,q1,q2⟩:=h;exact#[v,r,e,Rep.nl d v n.1 q1,Reps.nl ds r n.2 q2]
end
end My
end
section
namespace My
open PySem PySem.Spec PyProof.Rows L2
variable{w:Int}
def b64B(h:0<w)(h':w<=33554432):-(2^64)<w/\w<2^64:=KK
variable{s:Int}
def s64B(h:0<=s)(h':s<w)(To:w<=33554432):-(2^64)<s/\s<2^64:=KK
def d30B(h:0<w)(h':w<=33554432):0<w/\w<1073741824:=KK
variable{x y:Int}
def ab24(h:x.natAbs<=12)(h':y.natAbs<=12):(x+y).natAbs<=24:=KK
def sq0(a:Int):0<=a*a:=(Int.le_total 0 a).elim (λq=>Jb q q) (λq=>Int.mul_nonneg_of_nonpos_of_nonpos q q)
def u64(h:w=1\/w=-1\/w=0):-(2^64)<w/\w<2^64:=KK
def n64{k:Nat}(h:w.natAbs<=k)(hk:autoParam (k<=1073741823) zA1):-(2^64)<w/\w<2^64:=KK
variable{a b:Int}
def i64(h:a<=w)(h':w<=b)(ha:autoParam ( -1000000000001<=a) zA1)(hb:autoParam (b<=1000000000001) zA1):-(2^64)<w/\w<2^64:=KK
def fdm(a b:Int)(hb:b≠0):(a-a.fdiv b*b).natAbs<b.natAbs/\(a.fdiv b).natAbs<=a.natAbs+1:=by
 have e:=Int.fmod_def a b;have e2:a-a.fdiv b*b=a.fmod b:=by rw[e,Hf]
 rw[e2];have r:(a.fmod b).natAbs<b.natAbs:=by
  rcases(KK:0<b\/b<0)with h|h
  .have h1:=JO a h;have h2:=JP a h;lia
  .have h1:=JO (-a) (show 0< -b by lia);have h2:=JP (-a) (show 0< -b by lia);rw[Int.neg_fmod_neg]at h1 h2;lia
 refine#[r,?_];have e3:(b*a.fdiv b).natAbs=b.natAbs*(a.fdiv b).natAbs:=HR _ _;have e4:=Int.mul_fdiv_self a b;rcases H9 (a.natAbs+1) (a.fdiv b).natAbs with c|c
 .have h1:b.natAbs*(a.natAbs+2)<=b.natAbs*(a.fdiv b).natAbs:=Nat.mul_le_mul_left _ c;have h2:b.natAbs*(a.natAbs+2)=b.natAbs*a.natAbs+2*b.natAbs:=by rw[Nat.mul_add,Nat.mul_comm _ 2]
  have h3:1*a.natAbs<=b.natAbs*a.natAbs:=JQ _ KK;lia
 .exact c
def Uni(a b c d p0 p1 q0 q1:Int):Prop:=∃m n k l:Int,(m*l-n*k=1\/m*l-n*k=-1)/\p0=m*a+n*c/\p1=m*b+n*d/\q0=k*a+l*c/\q1=k*b+l*d
def Uni.refl(a b c d:Int):Uni a b c d a b c d:=#[1,0,0,1,.inl Lj,KK,KK,KK,KK]
variable{c d p0 p1 q0 q1:Int}
def Uni.step(t:Int)(h:Uni a b c d p0 p1 q0 q1):Uni a b c d q0 q1 (p0-t*q0) (p1-t*q1):=by
 obtain⟨m,n,k,l,hd,rfl,rfl,rfl,rfl⟩:=h;refine#[k,l,m-t*k,n-t*l,?_,rfl,rfl,Mt,Mt];rcases hd with h|h
 .right;grind
 .left;grind
def Uni.neg(h:Uni a b c d p0 p1 q0 q1):Uni a b c d (-p0) (-p1) q0 q1:=by
 obtain⟨m,n,k,l,hd,rfl,rfl,rfl,rfl⟩:=h;refine#[-m,-n,k,l,?_,Mt,Mt,rfl,rfl];rcases hd with h|h
 .right;grind
 .left;grind
def Uni.inv(h:Uni a b c d p0 p1 q0 q1):Uni p0 p1 q0 q1 a b c d:=by
 obtain⟨m,n,k,l,hd,rfl,rfl,rfl,rfl⟩:=h;rcases hd with h|h
 .exact#[l,-n,-k,m,.inl Mt,Mt,Mt,Mt,Mt]
 .exact#[-l,n,k,-m,.inr Mt,Mt,Mt,Mt,Mt]
def Uni.det(h:Uni a b c d p0 p1 q0 q1):p0*q1-p1*q0=a*d-b*c\/p0*q1-p1*q0=-(a*d-b*c):=by
 obtain⟨m,n,k,l,hd,rfl,rfl,rfl,rfl⟩:=h;rcases hd with h|h
 .left;grind
 .right;grind
def Lev(a b c d p0 p1 q0:Int):Prop:=0<=p1/\Uni a b c d p0 p1 q0 0
def FamOf(a b c d w h s:Int):Prop:=0<w/\0<h/\0<=s/\s<w/\Uni a b c d w 0 s h
def Bm(x:Int):(if x<0 then -x else x)=x\/(if x<0 then -x else x)=-x:=by
 split<;>simp
def Bn(h:x≠0):0<(if x<0 then -x else x):=by split<;>lia
def gk(hn:¬a*d=b*c)(h:Lev a b c d p0 p1 q0):FamOf a b c d (if q0<0 then -q0 else q0) p1 (p0%(if q0<0 then -q0 else q0)):=by
 obtain⟨hp,hu⟩:=h;have dt:=hu.det;have Sd:q0≠0:=by
  rintro rfl;simp at dt;lia
 have Tp:p1≠0:=by
  rintro rfl;simp at dt;lia
 have hw:=Bn Sd;have hs:=Bm q0;generalize (if q0<0 then -q0 else q0)=w at hw hs;refine#[hw,KK,HG _ KK,HH _ hw,?_];have em:=HS p0 w;generalize p0%w=s at em;generalize p0/w=t at em;obtain⟨m,n,k,l,hd,e1,e2,e3,e4⟩:=hu;rcases hs with e|e
 .refine#[k,l,m-t*k,n-t*l,?_,Mt,Mt,Mt,Mt];rcases hd with h|h
  .right;grind
  .left;grind
 .refine#[-k,-l,m+t*k,n+t*l,?_,Mt,Mt,Mt,Mt];rcases hd with h|h
  .left;grind
  .right;grind
variable{h i j:Int}
def in_fam(hh:0<h)(ex:x=i*w+j*s)(ey:y=j*h):y%h=0/\(x-y/h*s)%w=0:=by
 subst ex ey;rw[Hq _ KK];refine#[JR _ _,?_];have e:i*w+j*s-j*s=i*w:=KK
 rw[e];exact JR _ _
variable{u v:Int}
def ui(eu:u=i*a+j*c)(ev:v=i*b+j*d):(u*d-v*c).fmod (a*d-b*c)=0/\(a*v-b*u).fmod (a*d-b*c)=0:=by
 subst eu ev;refine#[Jc #[i,Mt],Jc #[j,Mt]]
def FamOf.cells(f:FamOf a b c d w h s):w*h=a*d-b*c\/w*h=-(a*d-b*c):=by
 have:=f.2.2.2.2.det;simpa using this
def bQ{A B:Nat}(h1:a.natAbs<=A)(h2:d.natAbs<=B):(a*d).natAbs<=A*B:=by
 rw[HR];exact IH h1 h2
variable{g:Int}
def Bo{gap:Int}{N:Nat}(hg:0<g)(c0:0<=c)(cg:c<=g)(h:gap.natAbs<=N):(c*gap/g).natAbs<=N:=by
 have h1:(c*gap).natAbs<=g.natAbs*N:=by rw[HR];exact IH Lm h
 have e:((g.natAbs*N:Nat):Int)=N*g:=by rw[Jd,Int.natAbs_of_nonneg Lm,Hf]
 have l1:=Int.le_ediv_of_mul_le (a:=-(N:Int)) (b:=c*gap) hg (by rw[Je];omega);have l2:=Int.ediv_le_of_le_mul (a:=c*gap) (b:=(N:Int)) hg Lm;omega
def dB(hw:0<w)(hh:0<h):w<=w*h/\h<=w*h:=by
 have h1:=JS (show 1<=h by lia) (show 0<=w by lia);have h2:=Hm (show 1<=w by lia) (show 0<=h by lia);lia
def FamOf.bd(f:FamOf a b c d w h s){N:Nat}(hN:(a*d-b*c).natAbs<=N):w<=N/\h<=N/\s<N:=by
 obtain⟨h1,h2⟩:=dB f.1 f.2.1;have h3:=f.cells;have h4:=f.2.2.2.1;lia
def Meas(x y g u:Int):Prop:=0<=g/\(∃i,x=i*g)/\(∃j,y=j*g)/\∃n,g=u*x+n*y
variable{q:Int}
def uj(h:0<=g/\∃m n k l:Int,(m*l-n*k=1\/m*l-n*k=-1)/\u=m*1+n*0/\g=m*x+n*y/\q=k*1+l*0/\0=k*x+l*y):Meas x y g u:=by
 obtain⟨h0,m,n,k,l,hd,e1,e2,e3,e4⟩:=h;refine#[h0,?_,?_,n,Mt]
 .rcases hd with h|h
  .exact#[l,Mt]
  .exact#[-l,Mt]
 .rcases hd with h|h
  .exact#[-k,Mt]
  .exact#[k,Mt]
def Meas.pos(h:Meas x y g u)(hx:0<x):0<g:=by
 obtain⟨h0,⟨i,hi⟩,_⟩:=h;rcases(KK:g=0\/0<g)with e|e
 .subst e;simp at hi;lia
 .exact e
def Meas.le(h:Meas x y g u)(hx:0<x):g<=x:=by
 have hg:=h.pos hx;obtain⟨h0,⟨i,hi⟩,_⟩:=h;have Tq:0<i:=by
  rcases(KK:i<=0\/0<i)with e|e
  .have:=HU e h0;lia
  .exact e
 have:=Hm (show 1<=i by lia) h0;lia
structure MetR(w1 h1 s1 w2 h2 s2 w h s A:Int):Prop where
 w0:0<w
 h0:0<h
 s0:0<=s
 sw:s<w
 in1:∃i,w=i*w1
 in2:∃i,w=i*w2
 up1:∃i j,s=i*w1+j*s1/\h=j*h1
 up2:∃i j,s=i*w2+j*s2/\h=j*h2
 A0:0<A
 cells:w*h*A=w1*h1*w2*h2
 d11:A∣w1*h1
 d12:A∣w1*h2
 d21:A∣w2*h1
 d22:A∣w2*h2
 ds:A∣s1*h2-h1*s2
 all:∀x y:Int,(∃i j,x=i*w1+j*s1/\y=j*h1)->(∃i j,x=i*w2+j*s2/\y=j*h2)->∃i j,x=i*w+j*s/\y=j*h
 comb:∀G:Int,G∣w1*h1->G∣w1*h2->G∣w2*h1->G∣w2*h2->G∣s1*h2-h1*s2->G∣A
def dQ(h:0<x*y)(hy:0<y):0<x:=by
 rcases(KK:x<=0\/0<x)with e|e
 .have:=HU e (show 0<=y by lia);lia
 .exact e
def kR(ha:0<a)(h:a*b=a*c):b=c:=Jf KK h
def r1(k j c:Int):k*(j*c)=j*(c*k):=Mt
def r2(j u c n d:Int):j*(u*c+n*d)=u*(j*c)+n*d*j:=Mt
def r3(u j d n j1:Int):u*(j*d)+n*d*j1=d*(u*j+n*j1):=Mt
def r4(j u c n d:Int):j*(u*c+n*d)=u*c*j+n*(j*d):=Mt
def r5(u c j n j1:Int):u*c*j+n*(j1*c)=c*(u*j+n*j1):=Mt
def r6(g e i1 a i2 b d T s1 c s2:Int)(q:i1*(a*(e*g))+d*T*s1=i2*(b*(e*g))+c*T*s2):g*(e*(i1*a-i2*b))=T*(c*s2-d*s1):=Mt
def r7(g T f:Int):g*(T*f)=T*(f*g):=Mt
def r8(T v e q f:Int):T*(v*e+q*f)=v*T*e+q*(T*f):=Mt
def r9(v T e q m:Int):v*T*e+q*(e*m)=e*(v*T+q*m):=Mt
def r10(e r f:Int):e*r*f=e*(r*f):=Mt
def r11(i u a n b:Int):i*(u*a+n*b)=u*(i*a)+n*b*i:=Mt
def r12(u r f i2 b n i1:Int):u*(r*f+i2*b)+n*b*i1=u*(r*f)+b*(u*i2+n*i1):=Mt
def r13(u r f b M a e g d s1 t:Int):(u*(r*f)+b*M)*(a*(e*g))+d*(e*r)*s1=(M+r*t)*(a*b*(e*g))+r*(e*(d*s1)+f*u*(a*(e*g))-a*b*(e*g)*t):=Mt
def r14(d e r c k:Int):d*(e*r)*(c*k)=r*(c*d*k*e):=Mt
variable{k e f gg u' s1 s2:Int}
def Bp{n n' t i1 j1 i2 j2:Int}(hk:0<k)(KL:0<gg)(he:0<e)
  (u9:u*a+n*b=1) (q9:u'*c+n'*d=1) (gap:c*s2-d*s1=f*gg) (u_:v*e+q*f=1)
  (hs:s=e*(d*s1)+f*u*(a*(e*gg))-a*b*(e*gg)*t) (x1:x=i1*(a*(e*gg))+j1*s1) (y1:y=j1*(c*k)) (x2:x=i2*(b*(e*gg))+j2*s2) (y2:y=j2*(d*k)):
  ∃i j,x=i*(a*b*(e*gg))+j*s/\y=j*(c*d*k*e):=by
 have h1:j1*c=j2*d:=kR hk (by rw[r1 k j1 c,r1 k j2 d,<-y1,<-y2]);have NI:j1=d*(u'*j2+n'*j1):=by
  have p:=r2 j1 u' c n' d;rw[q9,h1,r3]at p;lia
 have QP:j2=c*(u'*j2+n'*j1):=by
  have p:=r4 j2 u' c n' d;rw[q9,<-h1,r5]at p;lia
 generalize u'*j2+n'*j1=T at NI QP;have q1:i1*(a*(e*gg))+d*T*s1=i2*(b*(e*gg))+c*T*s2:=by rw[<-NI,<-QP,<-x1,<-x2]
 have h2:e*(i1*a-i2*b)=T*f:=kR KL (by rw[r6 gg e i1 a i2 b d T s1 c s2 q1,r7,gap]);have eT:T=e*(v*T+q*(i1*a-i2*b)):=by
  have p:=r8 T v e q f;rw[u_,<-h2,r9]at p;lia
 generalize hr:v*T+q*(i1*a-i2*b)=r at eT;have h3:i1*a-i2*b=r*f:=kR he (by rw[h2,eT,r10]);have h4:i1=u*(r*f)+b*(u*i2+n*i1):=by
  have p:=r11 i1 u a n b;have q3:i1*a=r*f+i2*b:=KK
  rw[u9,q3,r12]at p;lia
 generalize u*i2+n*i1=M at h4;refine#[M+r*t,r,?_,?_]
 .rw[hs,x1,NI,eT,<-r13,<-h4]
 .rw[y1,NI,eT,r14]
def Bq{n n' t:Int}(ha:0<a)(hb:0<b)(hc:0<c)(hd:0<d)(he:0<e)(hk:0<k)(KL:0<gg)
  (u9:u*a+n*b=1) (q9:u'*c+n'*d=1) (gap:c*s2-d*s1=f*gg) (u_:v*e+q*f=1)
  (hs:s=e*(d*s1)+f*u*(a*(e*gg))-a*b*(e*gg)*t) (m1:0<=s) (m2:s<a*b*(e*gg)):
  MetR (a*(e*gg)) (c*k) s1 (b*(e*gg)) (d*k) s2 (a*b*(e*gg)) (c*d*k*e) s (k*gg):=by
 have hg:0<e*gg:=G6 he KL;have hW:0<a*b*(e*gg):=G6 (G6 ha hb) hg;have OY:d*s1=c*s2-f*gg:=KK
 have ua:u*a=1-n*b:=KK
 refine#[hW,G6 (G6 (G6 hc hd) hk) he,m1,m2,#[b,?_],#[a,?_],#[f*u-t*b,d*e,?_,?_],#[-(f*n)-t*a,c*e,?_,?_],G6 hk KL,?_,#[a*e*c,?_],#[a*e*d,?_],#[b*e*c,?_],#[b*e*d,?_],#[-f,?_],?_,?_]
 .grind
 .grind
 .grind
 .grind
 .rw[hs,OY];have x2:f*u*(a*(e*gg))=f*(u*a)*(e*gg):=by grind
  rw[x2,ua];grind
 .grind
 .grind
 .grind
 .grind
 .grind
 .grind
 .have:s1*(d*k)-c*k*s2=-(k*(c*s2-d*s1)):=by grind
  rw[this,gap];grind
 .rintro x y⟨i1,j1,x1,z1⟩ ⟨i2,j2,x2,z2⟩;exact Bp hk KL he u9 q9 gap u_ hs x1 z1 x2 z2
 .rintro G⟨y1,z1⟩ ⟨y2,z2⟩ ⟨y3,z3⟩ ⟨y4,z4⟩ ⟨y5,z5⟩;refine#[v*(u'*u*y1+n'*u*y2+u'*n*y3+n'*n*y4)-q*y5,?_];have k1:k*(e*gg)=G*(u'*u*y1+n'*u*y2+u'*n*y3+n'*n*y4):=by
   have p1:k*(e*gg)=(u'*c+n'*d)*(u*a+n*b)*(k*(e*gg)):=by rw[u9,q9];grind
   have p2:(u'*c+n'*d)*(u*a+n*b)*(k*(e*gg))=u'*u*(a*(e*gg)*(c*k))+n'*u*(a*(e*gg)*(d*k))+u'*n*(b*(e*gg)*(c*k))+n'*n*(b*(e*gg)*(d*k)):=Mt
   rw[p1,p2,z1,z2,z3,z4];grind
  have k2:k*(f*gg)=-(G*y5):=by
   rw[<-z5,<-gap];grind
  have k3:k*gg=(v*e+q*f)*(k*gg):=by rw[u_];grind
  have k4:(v*e+q*f)*(k*gg)=v*(k*(e*gg))+q*(k*(f*gg)):=Mt
  rw[k3,k4,k1,k2];grind
variable{w1 h1 w2 h2:Int}
def kS{v_:Int}(NJ:0<w1)(MQ:0<w2)(QQ:0<h1)(Kj:0<h2)
  (M1:Meas w1 w2 g u) (M2:Meas h1 h2 k u')
  (M3:Meas g (h1*h2/k/h2*s2-h1*h2/k/h1*s1) gg v_):
  MetR w1 h1 s1 w2 h2 s2 (w1*w2/g) (h1*h2/k*(g/gg)) ((g/gg*(h1*h2/k/h1*s1)+g/gg*(h1*h2/k/h2*s2-h1*h2/k/h1*s1)/g*u*w1)%(w1*w2/g)) (k*gg):=by
 have hg:=M1.pos NJ;have hk:=M2.pos QQ;have KL:=M3.pos hg;obtain⟨_,⟨a,ea⟩,⟨b,eb⟩,n,en⟩:=M1;obtain⟨_,⟨c,ec⟩,⟨d,ed⟩,n',Tr⟩:=M2;have ha:0<a:=dQ (ea ▸ NJ) hg;have hb:0<b:=dQ (eb ▸ MQ) hg;have hc:0<c:=dQ (ec ▸ QQ) hk;have hd:0<d:=dQ (ed ▸ Kj) hk;have u9:u*a+n*b=1:=by
  have p:(u*a+n*b)*g=1*g:=by
   have:(u*a+n*b)*g=u*(a*g)+n*(b*g):=by grind
   rw[this,<-ea,<-eb];lia
  exact Ib KK p
 have q9:u'*c+n'*d=1:=by
  have p:(u'*c+n'*d)*k=1*k:=by
   have:(u'*c+n'*d)*k=u'*(c*k)+n'*(d*k):=by grind
   rw[this,<-ec,<-ed];lia
  exact Ib KK p
 have eW:w1*w2/g=a*b*g:=by
  have:w1*w2=(a*b*g)*g:=by rw[ea,eb];grind
  rw[this];exact Hq _ KK
 have eR:h1*h2/k=c*d*k:=by
  have:h1*h2=(c*d*k)*k:=by rw[ec,ed];grind
  rw[this];exact Hq _ KK
 have Se:h1*h2/k/h1=d:=by
  rw[eR];have:c*d*k=d*h1:=by rw[ec];grind
  rw[this];exact Hq _ KK
 have Sf:h1*h2/k/h2=c:=by
  rw[eR];have:c*d*k=c*h2:=by rw[ed];grind
  rw[this];exact Hq _ KK
 rw[Se,Sf]at M3 ⊢;obtain⟨_,⟨e,ee⟩,⟨f,ef⟩,q,eq⟩:=M3;have he:0<e:=dQ (ee ▸ hg) KL;have u_:v_*e+q*f=1:=by
  have p:(v_*e+q*f)*gg=1*gg:=by
   have:(v_*e+q*f)*gg=v_*(e*gg)+q*(f*gg):=by grind
   rw[this,<-ee,<-ef];lia
  exact Ib KK p
 have eC:g/gg=e:=by rw[ee];exact Hq _ KK
 have eS:e*(c*s2-d*s1)/g=f:=by
  have:e*(c*s2-d*s1)=f*g:=by rw[ef,ee];grind
  rw[this];exact Hq _ KK
 rw[eC,eS,eW,eR];have hW:0<a*b*g:=G6 (G6 ha hb) hg;have em:=HS (e*(d*s1)+f*u*w1) (a*b*g);have m1:=HG (e*(d*s1)+f*u*w1) (show a*b*g≠0 by lia);have m2:=HH (e*(d*s1)+f*u*w1) hW;generalize (e*(d*s1)+f*u*w1)%(a*b*g)=s at em m1 m2 ⊢;generalize (e*(d*s1)+f*u*w1)/(a*b*g)=t at em;subst ea eb ec ed;subst ee;exact Bq ha hb hc hd he hk KL u9 q9 ef u_ em m1 m2
def kT(hx:0<x)(hy:0<y)(M:Meas x y g u):0<x*y/g/\x*y/g<=x*y/\x*y/g/x*1<=y/\0<=x*y/g/x/\x*y/g/y<=x/\0<=x*y/g/y:=by
 have hg:=M.pos hx;obtain⟨_,⟨a,ea⟩,⟨b,eb⟩,_⟩:=M;have ha:0<a:=dQ (ea ▸ hx) hg;have hb:0<b:=dQ (eb ▸ hy) hg;have e1:x*y/g=a*b*g:=by
  have:x*y=(a*b*g)*g:=by rw[ea,eb];grind
  rw[this];exact Hq _ KK
 have e2:a*b*g/x=b:=by
  have:a*b*g=b*x:=by rw[ea];grind
  rw[this];exact Hq _ KK
 have e3:a*b*g/y=a:=by
  have:a*b*g=a*y:=by rw[eb];grind
  rw[this];exact Hq _ KK
 have p1:0<a*b*g:=G6 (G6 ha hb) hg;have q1:=(dB (w:=b) (h:=g) hb hg).1;have q2:=(dB (w:=a) (h:=g) ha hg).1;have q3:x*y=a*b*g*g:=by rw[ea,eb];grind
 have q4:=(dB (w:=a*b*g) (h:=g) p1 hg).1;rw[e1,e2,e3];lia
def cell(ns:List Int)(k:Int):Int:=ns.getD k.toNat 0
variable{ns:List Int}
def kU(h0:0<=k)(h1:k<(ns.length:Int)):atI (ns.map D.int) k=be (.int (cell ns k)):=by
 obtain⟨j,rfl⟩:∃j:Nat,k=(j:Int):=#[k.toNat,KK];have hk:j<ns.length:=KK
 refine bB ?_;rw[GX,G5 hk];simp[cell,HV,G5 hk]
def Br(h1:(ns.length:Int)<=k):cell ns k=0:=by
 have hk:ns.length<=k.toNat:=KK
 simp[cell,HV,Hr hk]
def GM(k:Int):∃m,atI [D.int 12,D.int 720] (k%2)=be (.int m)/\(m=12\/m=720):=by
 rcases(KK:k%2=0\/k%2=1)with e|e
 .rw[e];exact#[12,rfl,.inl rfl]
 .rw[e];exact#[720,rfl,.inr rfl]
def cX(h:0<b):0<=a%b:=HG a KK
def cY(h:0<b):a%b<b:=HH a h
def Bs:SpD:=λds R=>∃(ns:List Int) (k:Int),ds=[.rol (ns.map D.int),.int k]/\0<=k/\R (.int (cell ns k))
def Bt:SpD:=λds R=>∃i:Int,ds=[.int i]/\R (.bl true)
def Bu:SpD:=λds R=>∃w h s x y:Int,ds=[.tup [.int w,.int h,.int s],.int x,.int y]/\0<w/\0<h/\h<1073741824/\0<=s/\s<1073741824/\
 R (.bl (decide (y%h=0/\(x-y/h*s)%w=0)))
def Bv:SpD:=λds R=>∃a b c d u v:Int,ds=[.tup [.int a,.int b],.tup [.int c,.int d],.int u,.int v]/\a.natAbs<1073741824/\b.natAbs<1073741824/\c.natAbs<1073741824/\d.natAbs<1073741824/\
 ¬a*d=b*c/\R (.bl (decide ((u*d-v*c).fmod (a*d-b*c)=0/\(a*v-b*u).fmod (a*d-b*c)=0)))
def Bw:SpD:=λds R=>∃x y:Int,ds=[.int x,.int y]/\∀g:Int,0<=g->g∣x->g∣y->(∀e,e∣x->e∣y->e∣g)->R (.int g)
def uk:e∣(if x<0 then -x else x)↔e∣x:=by
 split
 .exact Int.dvd_neg
 .exact Iff.rfl
def ul(hb:e∣b):e∣a%b↔e∣a:=by
 have e1:=HS a b;rw[e1];constructor
 .intro h;have:=Jg h (JT (c:=a/b) hb);simpa using this
 .intro h;exact Int.dvd_sub h (JT hb)
def By:SpD:=λds R=>∃w h s x y:Int,ds=[.tup [.int w,.int h,.int s],.int x,.int y]/\0<w/\0<h/\h<1073741824/\0<=s/\s<1073741824/\
 R (.tup [.int ((x-y/h*s)%w),.int (y%h)])
def Bz:SpD:=λds R=>∃a b c d:Int,ds=[.tup [.int a,.int b],.tup [.int c,.int d]]/\b.natAbs<4611686018427387904/\d.natAbs<4611686018427387904/\
 ∀p0 p1 q0,Lev a b c d p0 p1 q0->R (.tup [.tup [.int p0,.int p1],.tup [.int q0,.int 0]])
def BA:SpD:=λds R=>∃a b c d:Int,ds=[.tup [.int a,.int b],.tup [.int c,.int d]]/\a.natAbs<4611686018427387904/\b.natAbs<4611686018427387904/\c.natAbs<4611686018427387904/\d.natAbs<4611686018427387904/\
 (a*d=b*c->R .non)/\(¬a*d=b*c->∀w h s,FamOf a b c d w h s->R (.tup [.int w,.int h,.int s]))
def BB:SpD:=λds R=>∃w h s:Int,ds=[.tup [.int w,.int h,.int s]]/\0<w/\R (.tup [.int w,.int h,.int (-s%w)])
def BC:SpD:=λds R=>∃w h s:Int,ds=[.tup [.int w,.int h,.int s]]/\0<w/\0<h/\w<4611686018427387904/\h<4611686018427387904/\0<=s/\s<4611686018427387904/\
 ∀w' h' s',FamOf 0 w (-h) s w' h' s'->R (.tup [.int w',.int h',.int s'])
def BD:SpD:=λds R=>∃x y:Int,ds=[.int x,.int y]/\x.natAbs<4611686018427387904/\y.natAbs<4611686018427387904/\∀g u,Meas x y g u->R (.tup [.int g,.int u])
def BE:SpD:=λds R=>∃w1 h1 s1 w2 h2 s2:Int,ds=[.tup [.int w1,.int h1,.int s1],.tup [.int w2,.int h2,.int s2]]/\0<w1/\w1<=33554432/\0<h1/\h1<=33554432/\0<=s1/\s1<w1/\0<w2/\w2<=33554432/\0<h2/\h2<=33554432/\0<=s2/\s2<w2/\
 ∀w h s A,MetR w1 h1 s1 w2 h2 s2 w h s A->R (.tup [.int w,.int h,.int s])
def Drawn(xs:List Int):Prop:=∀x∈xs,0<=x/\x<5040
variable{xs:List Int}
def Drawn.at(h:Drawn xs)(k:Int):0<=cell xs k/\cell xs k<5040:=by
 by_cases hk:k.toNat<xs.length
 .have:cell xs k=xs[k.toNat]:=by simp[cell,HV,G5 hk]
  rw[this];exact h _ (Hk hk)
 .have:cell xs k=0:=by simp[cell,HV,Hr (IT hk)]
  lia
def cJ(h0:0<=k)(h:k.toNat<xs.length):atI (xs.map D.int) k=be (.int (cell xs k)):=kU h0 KK
def um:xs.map D.int++[D.int v]=(xs++[v]).map D.int:=Ln
def uo(h:Drawn xs)(h1:0<=v)(h2:v<5040):Drawn (xs++[v]):=by
 intro x hx;rcases Hi.mp hx with q|q
 .exact h x q
 .rw[GN.mp q];exact#[h1,h2]
def BF:SpD:=λds R=>∃(ns:List Int) (k:Int) (n:Nat),ds=[.rol (ns.map D.int),.int k,.int n]/\0<=k/\n<=100/\∀xs:List Int,xs.length=n->Drawn xs->R (.lst (xs.map D.int))
def BG:SpD:=λds R=>∃xs:List Int,ds=[.lst (xs.map D.int)]/\8<=xs.length/\Drawn xs/\
 ∀a b c d:Int,(-12<=a/\a<=12)->(-12<=b/\b<=12)->(-12<=c/\c<=12)->(-12<=d/\d<=12)->¬a*d=b*c->R (.lst [.tup [.int a,.int b],.tup [.int c,.int d]])
abbrev cs(x:Kq):List Nat:=x.cps.toList
def bb(x:Kq):(cs x).length=x.length:=by simp[Str.length]
def uq:cs ""=[]:=rfl
def bD(x y:Kq):cs (x++y)=cs x++cs y:=by
 show((x++y:Kq)).cps.toList=_;rw[show(x++y:Kq).cps=x.cps++y.cps from rfl,Array.toList_append]
def aI(x y:Kq):(x++y).length=x.length+y.length:=by rw[<-bb,bD,G0,bb,bb]
def aW(c:Nat):Prop:=c=46\/(49<=c/\c<=54)
def kW:∀(L:List Kq),cU (L.map D.str)=be L
 |[]=>rfl
 |x::L=>by simp[cU,kW L]
def fu(x:Kq):Prop:=0<x.length/\x.length<=7/\∀c∈cs x,aW c
def BH{x:Kq}(h:fu x)(v:Int):∃c,(x.length<=1000000/\atI (cs x) (v%(x.length:Int))=be c)/\aW c:=by
 have h1:=cX (a:=v) (show 0<(x.length:Int)by have:=h.1;lia);have h2:=cY (a:=v) (show 0<(x.length:Int)by have:=h.1;lia);obtain⟨j,ej⟩:∃j:Nat,v%(x.length:Int)=(j:Int):=#[(v%(x.length:Int)).toNat,KK];have hj:j<(cs x).length:=by rw[bb];lia
 refine#[(cs x)[j],#[by have:=h.2.1;lia,?_],h.2.2 _ (Hk hj)];rw[ej];exact bB (G5 hj)
def BI:fu "1.23456":=#[Lf,Lf,by unfold aW;decide+kernel]
def BJ:fu "12":=#[Lf,Lf,by unfold aW;decide+kernel]
def BK:fu "1.":=#[Lf,Lf,by unfold aW;decide+kernel]
def BL:fu "...2":=#[Lf,Lf,by unfold aW;decide+kernel]
def BM(k:Int):∃x,atI [D.str "1.23456",D.str "12",D.str "1.",D.str "...2"] (k%4)=be (.str x)/\fu x:=by
 rcases(KK:k%4=0\/k%4=1\/k%4=2\/k%4=3)with e|e|e|e<;>rw[e]
 .exact#[_,rfl,BI]
 .exact#[_,rfl,BJ]
 .exact#[_,rfl,BK]
 .exact#[_,rfl,BL]
def BN(k:Int):∃m,atI [D.int 1,D.int 70] (k%2)=be (.int m)/\(m=1\/m=70):=by
 rcases(KK:k%2=0\/k%2=1)with e|e<;>rw[e]
 .exact#[1,rfl,.inl rfl]
 .exact#[70,rfl,.inr rfl]
structure Rows(L:List Str):Prop where
 many:1<=L.length/\L.length<=8
 wide:∃w,(1<=w/\w<=8)/\∀l∈L,l.length=w/\∀c∈cs l,aW c
variable{L:List Kq}
def Rows.of{w t:Nat}(h1:1<=t)(h2:t<=8)(hl:L.length=t)(w1:1<=w)(w2:w<=8)(h:∀l∈L,l.length=w/\∀c∈cs l,aW c):Rows L:=#[KK,w,#[w1,w2],h]
def BO{x:Kq}{c:Nat}{i:Nat}(h1:x.length=i)(h2:∀c∈cs x,aW c)(hc:aW c):(x++#[[c].toArray]:Kq).length=i+1/\∀c'∈cs (x++#[[c].toArray]),aW c':=by
 refine#[by rw[aI,h1];rfl,λc' q=>?_];rw[bD]at q;rcases Hi.mp q with q|q
 .exact h2 _ q
 .have:c'=c:=by simpa[cs]using q
  rw[this];exact hc
def BP{x:Kq}:L.map D.str++[D.str x]=(L++[x]).map D.str:=Ln
def dD(L:List Kq)(a b c d:Int):Str:=("["++Txt.join "/" L)++((((((((";":Kq)++(toString a:String))++",")++(toString b:String))++";")++(toString c:String))++",")++(toString d:String))++"]"
def bF(h:-12<=a/\a<=12):((toString a:String):Kq).length<=3:=by
 have key:∀k:Fin 25,((toString (((k.val:Nat):Int)-12):String):Kq).length<=3:=Lf
 have:=key #[(a+12).toNat,KK];have e:(((a+12).toNat:Nat):Int)-12=a:=KK
 rw[e]at this;exact this
def B12(a:Int):Prop:=-12<=a/\a<=12
def B12.lt(h:B12 a):a.natAbs<1073741824:=by unfold B12 at h;lia
def ut{w:Nat}(h:∀l∈L,l.length=w):(L.map (·.length)).sum=L.length*w:=by
 induction L with
 |nil=>simp
 |cons x L ih=>
  rw[G8,List.sum_cons,ih (λl hl=>h l (GR _ hl)),h x GU,GV,Ip,Jh]
def uu(h:Rows L):(L.map (·.length)).sum+L.length*("/":Kq).length<=72:=by
 obtain⟨h1,w,hw,h2⟩:=h;rw[ut (λl hl=>(h2 l hl).1)];have e:("/":Kq).length=1:=rfl;rw[e];have:=IH h1.2 hw.2;lia
def BQ:SpD:=λds R=>∃xs:List Int,ds=[.lst (xs.map D.int)]/\40<=xs.length/\Drawn xs/\∀L:List Kq,Rows L->R (.lst (L.map D.str))
def BR:SpD:=λds R=>∃(L:List Kq) (a b c d:Int),ds=[.lst (L.map D.str),.tup [.int a,.int b],.tup [.int c,.int d]]/\Rows L/\B12 a/\B12 b/\B12 c/\B12 d/\R (.str (dD L a b c d))
structure Leaf where
 rows:List Kq
 a:Int
 b:Int
 c:Int
 d:Int
 w0:Int
 w1:Int
 w2:Int
 w3:Int
 w4:Int
 w5:Int
 hues:List Int
def Leaf.D(l:Leaf):My.D:=.tup [.lst (l.rows.map D.str),.tup [.int l.a,.int l.b],.tup [.int l.c,.int l.d],.tup [.int l.w0,.int l.w1,.int l.w2,.int l.w3,.int l.w4,.int l.w5],.lst (l.hues.map D.int)]
structure Leaf.Ok(l:Leaf):Prop where
 rows:Rows l.rows
 a:B12 l.a
 b:B12 l.b
 c:B12 l.c
 d:B12 l.d
 ne:¬l.a*l.d=l.b*l.c
 w0:l.w0.natAbs<=1
 w1:l.w1.natAbs<=1
 w2:l.w2.natAbs<=1
 w3:l.w3.natAbs<=1
 w4:l.w4.natAbs<=1000
 w5:l.w5.natAbs<=1000
 many:l.hues.length=7
 hue:∀h∈l.hues,0<=h/\h<=6
def onB(a b c d u v:Int):Bool:=decide ((u*d-v*c).fmod (a*d-b*c)=0/\(a*v-b*u).fmod (a*d-b*c)=0)
def scanRow(f:Int->Bool):Nat->List Nat->Option Nat
 |_,[]=>v7
 |i,c::r=>if c≠46/\f i=true then be c else scanRow f (i+1) r
def bR(f:Int->Int->Bool):Nat->List Kq->Option Nat
 |_,[]=>v7
 |j,l::r=>match scanRow (λi=>f i j) 0 (cs l)with|some c=>be c|none=>bR f (j+1) r
def Leaf.hit(l:Leaf)(x y:Int):Option Nat:=bR (λi j=>onB l.a l.b l.c l.d (l.w0*x+l.w1*y+l.w4-i) (l.w2*x+l.w3*y+l.w5-j)) 0 l.rows
def Leaf.shows(l:Leaf)(x y:Int):Int:=match l.hit x y with|some c=>cell l.hues ((c:Int)-48)|none=>0
def one_sign{c:Nat}:(#[[c].toArray]:Kq)="."↔c=46:=by
 constructor
 .intro h;have:([c].toArray:Array Nat)=(".":Kq).cps:=congrArg Str.cps h;have e:([c].toArray:Array Nat).toList=(".":Kq).cps.toList:=by rw[this]
  have e2:(".":Kq).cps.toList=[46]:=rfl;rw[e2]at e;simpa using e
 .rintro rfl;rfl
def digit_of{c:Nat}(h:49<=c/\c<=54):PySem.intText? (#[[c].toArray]:Kq)=be ((c:Int)-48):=by
 rcases(KK:c=49\/c=50\/c=51\/c=52\/c=53\/c=54)with e|e|e|e|e|e<;>subst e<;>decide+kernel
def at_str{j:Nat}{x:Kq}(h:L[j]?=be x):atI (L.map D.str) (j:Int)=be (.str x):=bB (by rw[GX,h];rfl)
def bG{n:Int}{k:Nat}{x:D}(h:((GS n.toNat).map λk=>D.int ((k:Nat):Int))[k]?=be x):k<n.toNat/\x=.int (k:Int):=by
 have hk:k<n.toNat:=by simpa using(G1.mp h).1
 refine#[hk,?_];simp[hk]at h;exact h.symm
def bH{n:Int}:((GS n.toNat).map λk=>D.int ((k:Nat):Int)).length=n.toNat:=Ln
def aU:List Leaf->Int->Int->Int
 |[],_,_=>0
 |l::r,x,y=>if l.shows x y≠0 then l.shows x y else aU r x y
variable{hs:List Int}
def BS(h:∀h∈hs,0<=h/\h<=6)(k:Int):0<=cell hs k/\cell hs k<=6:=by
 by_cases hk:k.toNat<hs.length
 .have:cell hs k=hs[k.toNat]:=by simp[cell,HV,G5 hk]
  rw[this];exact h _ (Hk hk)
 .have:cell hs k=0:=by simp[cell,HV,Hr (IT hk)]
  lia
variable{l:Leaf}
def Leaf.shows_le(h:l.Ok)(x y:Int):0<=l.shows x y/\l.shows x y<=6:=by
 unfold Leaf.shows;split
 .exact BS h.hue _
 .lia
def uw:∀{ls:List Leaf} (x y:Int),(∀l∈ls,l.Ok)->0<=aU ls x y/\aU ls x y<=6
 |[],_,_,_=>by simp[aU]
 |l::r,x,y,h=>by
  unfold aU;split
  .exact Leaf.shows_le (h l GU) x y
  .exact uw x y λl' q=>h l' (GR _ q)
def bu(L:List Kq)(a b c d:Int):Leaf:=#[L,a,b,c,d,1,0,0,1,0,0,[0,1,2,3,4,5,6]]
def BT:SpD:=λds R=>∃(ns:List Int) (k:Int),ds=[.rol (ns.map D.int),.int k]/\0<=k/\
 ∀(L:List Kq) (a b c d:Int),Rows L->B12 a->B12 b->B12 c->B12 d->¬a*d=b*c->R (.lst [.str (dD L a b c d),.int 0,.lst [(bu L a b c d).D]])
def BU:SpD:=λds R=>∃(l:Leaf) (x y:Int),ds=[l.D,.int x,.int y]/\l.Ok/\R (.int (l.shows x y))
def BV:SpD:=λds R=>∃(ls:List Leaf) (x y:Int),ds=[.lst (ls.map Leaf.D),.int x,.int y]/\(∀l∈ls,l.Ok)/\R (.int (aU ls x y))
inductive Pat where
 |mot (L:List Str) (a b c d:Int)
 |over (p q:Pat)
 |sh (a b:Int) (p:Pat)
 |mir (p:Pat)
 |tur (p:Pat)
 |hue (f g:Int) (p:Pat)
def Pat.text:Pat->Kq
 |.mot L a b c d=>dD L a b c d
 |.over p q=>(((("(":Kq)++p.text)++"|")++q.text)++")"
 |.sh a b p=>((((("s":Kq)++(toString a:String))++",")++(toString b:String))++":")++p.text
 |.mir p=>("m":Kq)++p.text
 |.tur p=>("t":Kq)++p.text
 |.hue f g p=>((("h":Kq)++(toString f:String))++(toString g:String))++p.text
def Pat.depth:Pat->Nat
 |.mot ..=>0
 |.over p q=>1+max p.depth q.depth
 |.sh _ _ p=>p.depth+1
 |.mir p=>p.depth+1
 |.tur p=>p.depth+1
 |.hue _ _ p=>p.depth+1
def Leaf.by(l:Leaf)(b0 b1 b2 b3 b4 b5:Int):Leaf:=
 {l with w0:=l.w0*b0+l.w1*b2,w1:=l.w0*b1+l.w1*b3,w2:=l.w2*b0+l.w3*b2,w3:=l.w2*b1+l.w3*b3,w4:=l.w4+l.w0*b4+l.w1*b5,w5:=l.w5+l.w2*b4+l.w3*b5}
def bI(f g h:Int):Int:=if h=f then g else h
def Leaf.dye(l:Leaf)(f g:Int):Leaf:={l with hues:=l.hues.map (bI f g)}
def Pat.leaves:Pat->List Leaf
 |.mot L a b c d=>[bu L a b c d]
 |.over p q=>p.leaves++q.leaves
 |.sh a b p=>p.leaves.map (λl=>l.by 1 0 0 1 (-a) (-b))
 |.mir p=>p.leaves.map (λl=>l.by (-1) 0 0 1 0 0)
 |.tur p=>p.leaves.map (λl=>l.by 0 1 (-1) 0 0 0)
 |.hue f g p=>p.leaves.map (λl=>(l.by 1 0 0 1 0 0).dye f g)
def Pat.show:Pat->Int->Int->Int
 |.mot L a b c d,x,y=>(bu L a b c d).shows x y
 |.over p q,x,y=>if p.show x y≠0 then p.show x y else q.show x y
 |.sh a b p,x,y=>p.show (x-a) (y-b)
 |.mir p,x,y=>p.show (-x) y
 |.tur p,x,y=>p.show y (-x)
 |.hue f g p,x,y=>bI f g (p.show x y)
def Pat.Wf:Pat->Prop
 |.mot L a b c d=>Rows L/\B12 a/\B12 b/\B12 c/\B12 d/\¬a*d=b*c
 |.over p q=>p.Wf/\q.Wf
 |.sh a b p=>B12 a/\B12 b/\p.Wf
 |.mir p=>p.Wf
 |.tur p=>p.Wf
 |.hue f g p=>(1<=f/\f<=6)/\(1<=g/\g<=6)/\p.Wf
def Leaf.by_shows(l:Leaf)(b0 b1 b2 b3 b4 b5 x y:Int):(l.by b0 b1 b2 b3 b4 b5).shows x y=l.shows (b0*x+b1*y+b4) (b2*x+b3*y+b5):=by
 have e1:(l.w0*b0+l.w1*b2)*x+(l.w0*b1+l.w1*b3)*y+(l.w4+l.w0*b4+l.w1*b5)=l.w0*(b0*x+b1*y+b4)+l.w1*(b2*x+b3*y+b5)+l.w4:=Mt
 have e2:(l.w2*b0+l.w3*b2)*x+(l.w2*b1+l.w3*b3)*y+(l.w5+l.w2*b4+l.w3*b5)=l.w2*(b0*x+b1*y+b4)+l.w3*(b2*x+b3*y+b5)+l.w5:=Mt
 simp only[Leaf.shows,Leaf.hit,Leaf.by,e1,e2]
def gl(b0 b1 b2 b3 b4 b5 x y:Int):∀ls:List Leaf,aU (ls.map (λl=>l.by b0 b1 b2 b3 b4 b5)) x y=aU ls (b0*x+b1*y+b4) (b2*x+b3*y+b5)
 |[]=>rfl
 |l::r=>by
  rw[G8,aU,aU,Leaf.by_shows,gl b0 b1 b2 b3 b4 b5 x y r]
def scanRow_sign{f:Int->Bool}:∀{cs:List Nat} {i c:Nat},(∀c∈cs,aW c)->scanRow f i cs=be c->49<=c/\c<=54
 |[],_,_,_,h=>by cases h
 |a::r,i,c,hs,h=>by
  rw[scanRow]at h;split at h
  .rename_i q;cases h;have:=hs a GU;unfold aW at this;have:=q.1;lia
  .exact scanRow_sign (λc q=>hs c (GR _ q)) h
def kX{f:Int->Int->Bool}:∀{L:List Kq} {j c:Nat},(∀l∈L,∀c∈cs l,aW c)->bR f j L=be c->49<=c/\c<=54
 |[],_,_,_,h=>by cases h
 |a::r,j,c,hs,h=>by
  rw[bR]at h;split at h
  .rename_i q;cases h;exact scanRow_sign (hs a GU) q
  .exact kX (λl q=>hs l (GR _ q)) h
def BW(h:k.toNat<hs.length):cell (hs.map (bI f g)) k=bI f g (cell hs k):=by
 simp[cell,HV,GX,G5 h]
def Leaf.dye_shows(ok:l.Ok)(hf:1<=f)(x y:Int):(l.dye f g).shows x y=bI f g (l.shows x y):=by
 have e:(l.dye f g).hit x y=l.hit x y:=rfl;unfold Leaf.shows;rw[e];cases h:l.hit x y with
 |none=>simp[bI];lia
 |some c=>
  have hc:49<=c/\c<=54:=kX (λl' q=>let ⟨_,_,_,h⟩:=ok.rows;(h l' q).2) h;exact BW (by rw[ok.many];lia)
def ux(hf:1<=f)(hg:1<=g):bI f g h=0↔h=0:=by
 unfold bI;split<;>lia
def uy{f g:Int}(hf:1<=f)(hg:1<=g)(x y:Int):∀ls:List Leaf,(∀l∈ls,l.Ok)->aU (ls.map (λl=>l.dye f g)) x y=bI f g (aU ls x y)
 |[],_=>by simp[aU,bI];lia
 |l::r,h=>by
  rw[G8,aU,aU,Leaf.dye_shows (h l GU) hf,uy hf hg x y r λl q=>h l (GR _ q)];by_cases z:l.shows x y=0
  .rw[if_neg (λq=>q ((ux hf hg).mpr z)),if_neg (λq=>q z)]
  .rw[if_pos (λq=>z ((ux hf hg).mp q)),if_pos z]
def uz(x y:Int):∀(a b:List Leaf),aU (a++b) x y=if aU a x y≠0 then aU a x y else aU b x y
 |[],b=>by simp[aU]
 |l::r,b=>by
  rw[List.cons_append,aU,aU];by_cases z:l.shows x y≠0
  .rw[if_pos z,if_pos z,if_pos z]
  .rw[if_neg z,if_neg z,uz x y r b]
structure Leaf.Near(l:Leaf)(n:Nat):Prop where
 u0:(l.w0.natAbs=1/\l.w1=0/\l.w2=0/\l.w3.natAbs=1)\/(l.w0=0/\l.w1.natAbs=1/\l.w2.natAbs=1/\l.w3=0)
 w4:l.w4.natAbs<=24*n
 w5:l.w5.natAbs<=24*n
variable{n:Nat}
def Leaf.Near.mono{m:Nat}(h:l.Near n)(k:n<=m):l.Near m:=#[h.u0,by have:=h.w4;lia,by have:=h.w5;lia]
def Leaf.Near.unit(h:l.Near n):(l.w0=1\/l.w0=-1\/l.w0=0)/\(l.w1=1\/l.w1=-1\/l.w1=0)/\(l.w2=1\/l.w2=-1\/l.w2=0)/\(l.w3=1\/l.w3=-1\/l.w3=0):=by
 have:=h.u0;lia
def va(h:e.natAbs<=24*n)(hw:w=1\/w=-1\/w=0)(hv:v=1\/v=-1\/v=0)(ha:B12 a)(hb:B12 b):(e+w* -a+v* -b).natAbs<=24*(n+1):=by
 have m:∀{w a:Int},(w=1\/w=-1\/w=0)->B12 a->(w* -a).natAbs<=12:=λhw ha=>by
  unfold B12 at ha;rcases hw with rfl|rfl|rfl<;>lia
 have:=m hw ha;have:=m hv hb;generalize w* -a=x at*;generalize v* -b=y at*;clear m hw hv ha hb;lia
def BX(h:l.Near n)(ha:B12 a)(hb:B12 b):(l.by 1 0 0 1 (-a) (-b)).Near (n+1):=by
 obtain⟨h0,h1,h2,h3⟩:=h.unit;exact#[by simpa[Leaf.by]using h.u0,va h.w4 h0 h1 ha hb,va h.w5 h2 h3 ha hb]
def BY(h:l.Near n):(l.by (-1) 0 0 1 0 0).Near (n+1):=by
 have p:=h.w4;have q:=h.w5;exact#[by simpa[Leaf.by]using h.u0,by simp[Leaf.by];lia,by simp[Leaf.by];lia]
def BZ(h:l.Near n):(l.by 0 1 (-1) 0 0 0).Near (n+1):=by
 have p:=h.w4;have q:=h.w5;refine#[?_,by simp[Leaf.by];lia,by simp[Leaf.by];lia];rcases h.u0 with⟨a,b,c,d⟩|⟨a,b,c,d⟩
 .exact .inr (by simp[Leaf.by,a,b,c,d])
 .exact .inl (by simp[Leaf.by,a,b,c,d])
def vb(h:l.Near n):((l.by 1 0 0 1 0 0).dye f g).Near (n+1):=by
 have p:=h.w4;have q:=h.w5;exact#[by simpa[Leaf.by,Leaf.dye]using h.u0,by simp[Leaf.by,Leaf.dye];lia,by simp[Leaf.by,Leaf.dye];lia]
structure Leaf.Good(l:Leaf):Prop where
 rows:Rows l.rows
 a:B12 l.a
 b:B12 l.b
 c:B12 l.c
 d:B12 l.d
 ne:¬l.a*l.d=l.b*l.c
 many:l.hues.length=7
 hue:∀h∈l.hues,0<=h/\h<=6
def Leaf.ok_of(g:l.Good)(h:l.Near n)(hn:n<=40):l.Ok:=by
 have:=h.u0;have:=h.w4;have:=h.w5;exact#[g.rows,g.a,g.b,g.c,g.d,g.ne,KK,KK,KK,KK,KK,KK,g.many,g.hue]
def Pat.leaf_good:∀{p:Pat},p.Wf->∀l∈p.leaves,l.Good/\l.Near p.depth
 |.mot L a b c d,h,l,q=>by
  have:l=bu L a b c d:=by simpa[Pat.leaves]using q
  subst this;obtain⟨h1,h2,h3,h4,h5,h6⟩:=h;exact#[#[h1,h2,h3,h4,h5,h6,rfl,by intro h q;simp[bu]at q;lia],#[by simp[bu],by simp[bu],by simp[bu]]]
 |.over p r,h,l,q=>by
  rcases Hi.mp q with q|q
  .obtain⟨g,n⟩:=Pat.leaf_good h.1 l q;exact#[g,n.mono (by simp only[Pat.depth];lia)]
  .obtain⟨g,n⟩:=Pat.leaf_good h.2 l q;exact#[g,n.mono (by simp only[Pat.depth];lia)]
 |.sh a b p,h,l,q=>by
  obtain⟨l',q',rfl⟩:=Hd.mp q;obtain⟨g,n⟩:=Pat.leaf_good h.2.2 l' q';exact#[#[g.rows,g.a,g.b,g.c,g.d,g.ne,g.many,g.hue],BX n h.1 h.2.1]
 |.mir p,h,l,q=>by
  obtain⟨l',q',rfl⟩:=Hd.mp q;obtain⟨g,n⟩:=Pat.leaf_good (p:=p) h l' q';exact#[#[g.rows,g.a,g.b,g.c,g.d,g.ne,g.many,g.hue],BY n]
 |.tur p,h,l,q=>by
  obtain⟨l',q',rfl⟩:=Hd.mp q;obtain⟨g,n⟩:=Pat.leaf_good (p:=p) h l' q';exact#[#[g.rows,g.a,g.b,g.c,g.d,g.ne,g.many,g.hue],BZ n]
 |.hue f k p,h,l,q=>by
  obtain⟨l',q',rfl⟩:=Hd.mp q;obtain⟨g,n⟩:=Pat.leaf_good (p:=p) h.2.2 l' q';refine#[#[g.rows,g.a,g.b,g.c,g.d,g.ne,?_,λv hv=>?_],vb n]
  .show(l'.hues.map _).length=7;rw[GQ];exact g.many
  .obtain⟨u,hu,rfl⟩:=Hd.mp hv;have:=g.hue u hu;have:=h.2.1;unfold bI;split<;>lia
variable{p:Pat}
def Pat.leaf_ok(h:p.Wf)(hd:p.depth<=40):∀l∈p.leaves,l.Ok:=λl q=>Leaf.ok_of (Pat.leaf_good h l q).1 (Pat.leaf_good h l q).2 hd
def Pat.show_leaves:∀{p:Pat},p.Wf->p.depth<=40->∀x y,aU p.leaves x y=p.show x y
 |.mot L a b c d,_,_,x,y=>by
  simp only[Pat.leaves,Pat.show,aU];split
  .rfl
  .lia
 |.over p q,h,hd,x,y=>by
  simp only[Pat.depth]at hd;rw[Pat.leaves,uz,Pat.show_leaves h.1 KK,Pat.show_leaves h.2 KK,Pat.show]
 |.sh a b p,h,hd,x,y=>by
  simp only[Pat.depth]at hd;rw[Pat.leaves,gl,Pat.show_leaves h.2.2 KK,Pat.show];congr 1<;>lia
 |.mir p,h,hd,x,y=>by
  simp only[Pat.depth]at hd;rw[Pat.leaves,gl,Pat.show_leaves (p:=p) h KK,Pat.show];congr 1<;>lia
 |.tur p,h,hd,x,y=>by
  simp only[Pat.depth]at hd;rw[Pat.leaves,gl,Pat.show_leaves (p:=p) h KK,Pat.show];congr 1<;>lia
 |.hue f g p,h,hd,x,y=>by
  simp only[Pat.depth]at hd;have e:p.leaves.map (λl=>(l.by 1 0 0 1 0 0).dye f g)=(p.leaves.map (λl=>l.by 1 0 0 1 0 0)).map (λl=>l.dye f g):=by rw[Iq];rfl
  rw[Pat.leaves,e,uy h.1.1 h.2.1.1,gl,Pat.show_leaves h.2.2 KK,Pat.show]
  .congr 2<;>lia
  .intro l q;obtain⟨l',q',rfl⟩:=Hd.mp q;obtain⟨g',n⟩:=Pat.leaf_good h.2.2 l' q';have n':=vb (f:=f) (g:=g) n;have:(l'.by 1 0 0 1 0 0).Near (p.depth+1):=#[n'.u0,n'.w4,n'.w5];exact Leaf.ok_of #[g'.rows,g'.a,g'.b,g'.c,g'.d,g'.ne,g'.many,g'.hue] this KK
def Pat.D(p:Pat):My.D:=.lst [.str p.text,.int p.depth,.lst (p.leaves.map Leaf.D)]
def Leaf.T(dy:Bool)(d7 new b0 b1 b2 b3 b4 b5:Int)(l:Leaf):Leaf:=if dy then(l.by b0 b1 b2 b3 b4 b5).dye d7 new else l.by b0 b1 b2 b3 b4 b5
def fv(h:1<=a/\a<=6):((toString a:String):Kq).length<=3:=bF KK
def Wraps(p:Pat)(H:Prop)(R:My.D->Prop):Prop:=(5<=p.depth->R p.D)/\(p.depth<5->R (Pat.mir p).D/\R (Pat.tur p).D/\(∀a b,B12 a->B12 b->R (Pat.sh a b p).D)/\(H->∀f g:Int,(1<=f/\f<=6)->(1<=g/\g<=6)->R (Pat.hue f g p).D))
variable{A:Int}{R:My.D->Prop}
def B0(h:Wraps p (j=3) R)(hd:p.depth<5){k B d7 new:Int}(hA:B12 A)(hB:B12 B)(ho:1<=d7/\d7<=6)(hn:1<=new/\new<=6)(hj:0<=j/\j<4):
  ∃(hs:Kq) (b0 b1 b2 b3 b4 b5:Int),atI [D.str "m",D.str "t",D.str ((((("s":Kq)++(toString A:String))++",")++(toString B:String))++":"),D.str ((("h":Kq)++(toString d7:String))++(toString new:String))] j=be (.str hs)/\
   atI ([D.tup [.int (-1),.int 0,.int 0,.int 1,.int 0,.int 0],D.tup [.int 0,.int 1,.int (-1),.int 0,.int 0,.int 0]]++[D.tup [.int 1,.int 0,.int 0,.int 1,.int (-A),.int (-B)],D.tup [.int 1,.int 0,.int 0,.int 1,.int 0,.int 0]]) j=be (.tup [.int b0,.int b1,.int b2,.int b3,.int b4,.int b5])/\
   (b0.natAbs<=1/\b1.natAbs<=1/\b2.natAbs<=1/\b3.natAbs<=1/\b4.natAbs<=12/\b5.natAbs<=12)/\hs.length<=20/\
   R (.lst [.str (hs++p.text),.int (p.depth+1),.lst ((p.leaves.map (Leaf.T (decide (j=3)) d7 new b0 b1 b2 b3 b4 b5)).map Leaf.D)]):=by
 obtain⟨h1,h2,h3,h4⟩:=h.2 hd;have l1:("s":Kq).length=1:=rfl;have l2:(",":Kq).length=1:=rfl;have l3:(":":Kq).length=1:=rfl;have l4:("h":Kq).length=1:=rfl;have lA:=bF hA;have lB:=bF hB;have lo:=fv ho;have ln:=fv hn;have eD:∀n:Nat,D.int ((n+1:Nat):Int)=D.int ((n:Int)+1):=λn=>by congr 1
 unfold B12 at hA hB;rcases(KK:j=0\/j=1\/j=2\/j=3)with rfl|rfl|rfl|rfl
 .exact#[_,_,_,_,_,_,_,rfl,rfl,KK,Lj,h1]
 .exact#[_,_,_,_,_,_,_,rfl,rfl,KK,Lj,h2]
 .refine#[_,_,_,_,_,_,_,rfl,rfl,KK,?_,h3 A B hA hB]
  repeat rw[aI]
  lia
 .refine#[_,_,_,_,_,_,_,rfl,rfl,KK,?_,h4 rfl d7 new ho hn]
  repeat rw[aI]
  lia
def B1(h d7 new:Int):atI [D.int h,D.int new] (if decide (h=d7)=true then(1:Int)else 0)=be (.int (bI d7 new h)):=by
 unfold bI;by_cases e:h=d7
 .rw[if_pos e,if_pos (by simpa using e)];rfl
 .rw[if_neg e,if_neg (by simpa using e)];rfl
def kY{α:Type}{xs:List α}{k:Nat}{x:α}(h:xs[k]?=be x):xs.take (k+1)=xs.take k++[x]:=by
 have hk:k<xs.length:=(G1.mp h).1;rw[JJ,h];rfl
def Pat.leaves_len:∀(p:Pat),p.leaves.length<=2^p.depth
 |.mot ..=>GO _
 |.over p q=>by
  have h1:=p.leaves_len;have h2:=q.leaves_len;have m1:2^p.depth<=2^(max p.depth q.depth):=Ic Lj (JU _ _);have m2:2^q.depth<=2^(max p.depth q.depth):=Ic Lj (JV _ _);rw[Pat.leaves,G0,Pat.depth,JW];lia
 |.sh a b p=>by rw[Pat.leaves,GQ,Pat.depth,HI];have:=p.leaves_len;lia
 |.mir p=>by rw[Pat.leaves,GQ,Pat.depth,HI];have:=p.leaves_len;lia
 |.tur p=>by rw[Pat.leaves,GQ,Pat.depth,HI];have:=p.leaves_len;lia
 |.hue f g p=>by rw[Pat.leaves,GQ,Pat.depth,HI];have:=p.leaves_len;lia
def Pat.leaves_32(h:p.depth<=5):p.leaves.length<=32:=GY p.leaves_len (Ic Lj h)
def B2:SpD:=λds R=>∃(p:Pat) (draw:Int),ds=[p.D,.int draw]/\p.Wf/\p.depth<=5/\p.text.length<=100000/\Wraps p (draw%4=3) R
def vc(hn:¬a*d=b*c)(h:(u*d-v*c).fmod (a*d-b*c)=0/\(a*v-b*u).fmod (a*d-b*c)=0):∃i j,u=i*a+j*c/\v=i*b+j*d:=by
 have hz:a*d-b*c≠0:=Lm
 obtain⟨i,ei⟩:(a*d-b*c)∣(u*d-v*c):=#[_,(JX h.1).symm];obtain⟨j,ej⟩:(a*d-b*c)∣(a*v-b*u):=#[_,(JX h.2).symm];refine#[i,j,?_,?_]
 .have:(a*d-b*c)*u=(a*d-b*c)*(i*a+j*c):=by
   have q1:(a*d-b*c)*u=a*(u*d-v*c)+c*(a*v-b*u):=Mt
   rw[q1,ei,ej];grind
  exact Jf hz this
 .have:(a*d-b*c)*v=(a*d-b*c)*(i*b+j*d):=by
   have q1:(a*d-b*c)*v=b*(u*d-v*c)+d*(a*v-b*u):=Mt
   rw[q1,ei,ej];grind
  exact Jf hz this
def Uni.trans{x0 x1 y0 y1:Int}(h:Uni a b c d p0 p1 q0 q1)(k:Uni p0 p1 q0 q1 x0 x1 y0 y1):Uni a b c d x0 x1 y0 y1:=by
 obtain⟨m,n,k1,l,hd,rfl,rfl,rfl,rfl⟩:=h;obtain⟨m',n',k',l',e_,rfl,rfl,rfl,rfl⟩:=k;have dt:(m'*m+n'*k1)*(k'*n+l'*l)-(m'*n+n'*l)*(k'*m+l'*k1)=(m'*l'-n'*k')*(m*l-n*k1):=Mt
 refine#[m'*m+n'*k1,m'*n+n'*l,k'*m+l'*k1,k'*n+l'*l,?_,Mt,Mt,Mt,Mt];rw[dt];rcases hd with e|e<;>rcases e_ with e'|e'<;>rw[e,e']<;>decide
def fz:∀(n:Nat) (a b c d:Int),d.natAbs<=n->∃p0 p1 q0,Lev a b c d p0 p1 q0
 |n,a,b,c,d,hn=>by
  by_cases hd:d=0
  .subst hd;by_cases hb:0<=b
   .exact#[a,b,c,hb,Uni.refl a b c 0]
   .exact#[-a,-b,c,KK,(Uni.refl a b c 0).neg]
  .match n,hn with
   |0,hn=>exact absurd (KK:d=0) hd
   |n+1,hn=>
    have lt:=(fdm b d hd).1;obtain⟨p0,p1,q0,h0,hu⟩:=fz n c d (a-b.fdiv d*c) (b-b.fdiv d*d) KK;exact#[p0,p1,q0,h0,((Uni.refl a b c d).step (b.fdiv d)).trans hu]
def B3(hn:¬a*d=b*c)(g0:0<=g)(g1:g∣b)(g2:g∣d)(g3:∀e,e∣b->e∣d->e∣g):
  ∃w s,FamOf a b c d w g s:=by
 obtain⟨p0,p1,q0,hL⟩:=fz d.natAbs a b c d (GO _);have hF:=gk hn hL;have hp:=hF.2.1;obtain⟨m,n,k,l,_,e1,e2,e3,e4⟩:=hL.2;obtain⟨m',n',k',l',_,f1,f2,f3,f4⟩:=hL.2.inv;have d1:p1∣g:=g3 p1 #[m',by rw[f2];grind] #[k',by rw[f4];grind];have d2:g∣p1:=by
  rw[e2];exact Jg (II g1) (II g2)
 have:p1=g:=JY KK g0 d1 d2;subst this;exact#[_,_,hF]
def FamOf.uniq_lean(f:FamOf a b c d w h s)(e1:x=i*a+j*c)(e2:h=i*b+j*d)(h0:0<=x)(h1:x<=s):x=s:=by
 obtain⟨hw,hh,hs,Kx,hu⟩:=f;obtain⟨m,n,k,l,_,f1,f2,f3,f4⟩:=hu.inv;have ex:x=(i*m+j*k)*w+(i*n+j*l)*s:=by rw[e1,f1,f3];grind
 have eh:h=(i*n+j*l)*h:=by
  have:i*b+j*d=(i*n+j*l)*h:=by rw[f2,f4];grind
  rw[<-this];exact e2
 have one:i*n+j*l=1:=by
  have:(i*n+j*l)*h=1*h:=by lia
  exact Ib KK this
 rw[one]at ex;generalize i*m+j*k=t at ex;have:t*w=x-s:=KK
 rcases(KK:t<=-1\/t=0\/1<=t)with z|z|z
 .have:=Hm z (show 0<=w by lia);lia
 .subst z;lia
 .have:=Hm z (show 0<=w by lia);lia
def notT{c:Prop}[Decidable c](h:(!decide c)=true):¬c:=by
 intro q;rw[decide_eq_true q]at h;cases h
def notF{c:Prop}[Decidable c](h:¬(!decide c)=true):c:=by
 rcases Classical.em c with q|q
 .exact q
 .rw[decide_eq_false q]at h;exact absurd rfl h
def Leaf.o0(l:Leaf):Int:=l.w0*l.a+l.w2*l.b
def Leaf.o1(l:Leaf):Int:=l.w1*l.a+l.w3*l.b
def Leaf.t0(l:Leaf):Int:=l.w0*l.c+l.w2*l.d
def Leaf.t1(l:Leaf):Int:=l.w1*l.c+l.w3*l.d
def dE(h:w=1\/w=-1\/w=0)(ha:B12 a):(w*a).natAbs<=12:=by
 unfold B12 at ha;rcases h with e|e|e<;>rw[e]<;>lia
def mul12(ha:B12 a)(hb:B12 b):(a*b).natAbs<=144:=by
 unfold B12 at ha hb;rw[HR];exact GY (IH (show a.natAbs<=12 by lia) (show b.natAbs<=12 by lia)) Lj
def Leaf.sizes(g:l.Good)(h:l.Near n):l.o0.natAbs<=24/\l.o1.natAbs<=24/\l.t0.natAbs<=24/\l.t1.natAbs<=24/\¬l.o0*l.t1=l.o1*l.t0/\(l.o0*l.t1-l.o1*l.t0).natAbs<=288:=by
 obtain⟨h0,h1,h2,h3⟩:=h.unit;have a0:=dE h0 g.a;have a1:=dE h1 g.a;have b2:=dE h2 g.b;have b3:=dE h3 g.b;have c0:=dE h0 g.c;have c1:=dE h1 g.c;have d2:=dE h2 g.d;have d3:=dE h3 g.d;have dt:l.o0*l.t1-l.o1*l.t0=(l.w0*l.w3-l.w1*l.w2)*(l.a*l.d-l.b*l.c):=by unfold Leaf.o0 Leaf.o1 Leaf.t0 Leaf.t1;grind
 have dw:(l.w0*l.w3-l.w1*l.w2).natAbs=1:=by
  rcases h.u0 with⟨p,q,r,t⟩|⟨p,q,r,t⟩
  .rw[q,JZ,Int.sub_zero,HR,p,t]
  .rw[p,JZ,Int.zero_sub,Int.natAbs_neg,HR,q,r]
 have da:(l.o0*l.t1-l.o1*l.t0).natAbs=(l.a*l.d-l.b*l.c).natAbs:=by rw[dt,HR,dw,Nat.one_mul]
 refine#[ab24 a0 b2,ab24 a1 b3,ab24 c0 d2,ab24 c1 d3,λz=>g.ne ?_,?_]
 .rw[z,Int.sub_self]at da;exact Int.sub_eq_zero.mp (JH.mp da.symm)
 .rw[da];have m1:=mul12 g.a g.d;have m2:=mul12 g.b g.c;generalize l.a*l.d=x at*;generalize l.b*l.c=y at*;clear da dw dt d3 d2 c1 c0 b3 b2 a1 a0 h3 h2 h1 h0 h g;lia
def B4:SpD:=λds R=>∃(l:Leaf) (n:Nat),ds=[l.D]/\l.Good/\l.Near n/\∀w h s:Int,FamOf l.o0 l.o1 l.t0 l.t1 w h s->w*h<=288->R (.tup [.int w,.int h,.int s])
def B5(h1:y%h=0/\(x-y/h*s)%w=0):∃i j,x=i*w+j*s/\y=j*h:=by
 refine#[(x-y/h*s)/w,y/h,?_,?_]
 .have:=Ie (x-y/h*s) w;rw[h1.2]at this;rw[Hf w]at this;lia
 .have:=Ie y h;rw[h1.1,Hf h]at this;lia
def fA(x y:Int):∃g u,Meas x y g u:=by
 obtain⟨p0,p1,q0,hL⟩:=fz y.natAbs 1 x 0 y (GO _);exact#[p1,p0,uj #[hL.1,hL.2]]
def Meas.gcd{G:Int}(h:Meas x y g u)(g0:0<=G)(g1:G∣x)(g2:G∣y)(g3:∀e,e∣x->e∣y->e∣G):G=g:=by
 obtain⟨h0,⟨i,ei⟩,⟨j,ej⟩,n,en⟩:=h;refine JY g0 h0 ?_ (g3 g #[i,by rw[ei,Hf]] #[j,by rw[ej,Hf]]);rw[en];exact Jg (II g1) (II g2)
structure Fm(w h s:Int):Prop where
 w0:0<w
 w1:w<=720
 h0:0<h
 h1:h<=720
 s0:0<=s
 sw:s<w
def B6(f:Fm w1 h1 s1)(k:Fm w2 h2 s2):∃g u w h s A,Meas w1 w2 g u/\w=w1*w2/g/\MetR w1 h1 s1 w2 h2 s2 w h s A:=by
 obtain⟨g,u,M1⟩:=fA w1 w2;obtain⟨k',u',M2⟩:=fA h1 h2;obtain⟨gg,v_,M3⟩:=fA g (h1*h2/k'/h2*s2-h1*h2/k'/h1*s1);exact#[g,u,_,_,_,_,M1,rfl,kS f.w0 k.w0 f.h0 k.h0 M1 M2 M3]
def MetR.high(M:MetR w1 h1 s1 w2 h2 s2 w h s A)(hh:0<h1)(hj:1<=j)(e1:∃i,x=i*w1+j*s1)(e2:∃i k,x=i*w2+k*s2/\j*h1=k*h2):h<=j*h1/\(j*h1=h->0<=x->x<w->x=s):=by
 obtain⟨i,e1⟩:=e1;obtain⟨i',k,e3,e4⟩:=e2;obtain⟨a,b,e5,e6⟩:=M.all x (j*h1) #[i,j,e1,rfl] #[i',k,e3,e4];have hp:0<j*h1:=G6 KK hh;have hb:1<=b:=by
  rcases(KK:b<=0\/1<=b)with z|z
  .have:=HU z (show 0<=h by have:=M.h0;lia);lia
  .exact z
 refine#[?_,λe x0 x1=>?_]
 .have:=Hm hb (show 0<=h by have:=M.h0;lia);lia
 .have ob:b=1:=by
   have:b*h=1*h:=by lia
   exact Ib (by have:=M.h0;lia) this
  rw[ob]at e5;have s0:=M.s0;have sw:=M.sw;have:a*w=x-s:=KK
  rcases(KK:a<=-1\/a=0\/1<=a)with z|z|z
  .have:=Hm z (show 0<=w by lia);lia
  .subst z;lia
  .have:=Hm z (show 0<=w by lia);lia
def B7:SpD:=λds R=>∃w1 h1 s1 w2 h2 s2:Int,ds=[.tup [.int w1,.int h1,.int s1],.tup [.int w2,.int h2,.int s2]]/\Fm w1 h1 s1/\Fm w2 h2 s2/\
 ∀w h s A,MetR w1 h1 s1 w2 h2 s2 w h s A->(w*h<=720->R (.tup [.int w,.int h,.int s]))/\(720<w*h->R .non)
def B8{S:Int}(hw:0<w1)(hx:x<w1)(x0:0<=x)(hS:0<=S)(e:S=i*w1+s)(e2:∃i',x=i'*w1+s):∃k,S=x+k*w1/\0<=k:=by
 obtain⟨i',e2⟩:=e2;refine#[i-i',Mt,?_];rcases(KK:i-i'<=-1\/0<=i-i')with z|z
 .have:=Hm z (show 0<=w1 by lia);have:(i-i')*w1=S-x:=by grind
  lia
 .exact z
def InF(w h s x y:Int):Prop:=∃i j,x=i*w+j*s/\y=j*h
def Leaf.Lat(l:Leaf)(x y:Int):Prop:=∃i j,x=i*l.o0+j*l.t0/\y=i*l.o1+j*l.t1
def FamOf.lat(f:FamOf a b c d w h s)(x y:Int):InF w h s x y↔∃i j,x=i*a+j*c/\y=i*b+j*d:=by
 obtain⟨_,_,_,_,hu⟩:=f;obtain⟨m,n,k,l,_,e1,e2,e3,e4⟩:=id hu;obtain⟨m',n',k',l',_,f1,f2,f3,f4⟩:=hu.inv;constructor
 .rintro⟨i,j,rfl,rfl⟩;refine#[i*m+j*k,i*n+j*l,by rw[e1,e3];grind,?_];have z:i*0+j*h=(i*m+j*k)*b+(i*n+j*l)*d:=by rw[e2,e4];grind
  lia
 .rintro⟨i,j,rfl,rfl⟩;refine#[i*m'+j*k',i*n'+j*l',by rw[f1,f3];grind,by rw[f2,f4];grind]
def MetR.lat(M:MetR w1 h1 s1 w2 h2 s2 w h s A)(x y:Int):InF w h s x y↔InF w1 h1 s1 x y/\InF w2 h2 s2 x y:=by
 constructor
 .rintro⟨i,j,rfl,rfl⟩;obtain⟨a1,e1⟩:=M.in1;obtain⟨a2,e2⟩:=M.in2;obtain⟨b1,c1,e3,e4⟩:=M.up1;obtain⟨b2,c2,e5,e6⟩:=M.up2;refine#[#[i*a1+j*b1,j*c1,?_,?_],#[i*a2+j*b2,j*c2,?_,?_]]
  .rw[e1,e3];grind
  .rw[e4];grind
  .rw[e2,e5];grind
  .rw[e6];grind
 .rintro⟨h1,h2⟩;exact M.all x y h1 h2
variable{w' h' s':Int}
def InF.le(hw:0<w)(hh:0<h)(OZ:0<w')(O0:0<h')(sub:∀x y,InF w' h' s' x y->InF w h s x y):w*h<=w'*h'/\w<=w'/\h<=h':=by
 obtain⟨i,j,e1,e2⟩:=sub w' 0 #[1,0,KK,KK];have j0:j=0:=by
  rcases Ji.mp e2.symm with z|z
  .exact z
  .lia
 subst j0;have i1:1<=i:=by
  rcases(KK:i<=0\/1<=i)with z|z
  .have:=HU z (show 0<=w by lia);lia
  .exact z
 obtain⟨i',j',e3,e4⟩:=sub s' h' #[0,1,KK,KK];have j1:1<=j':=by
  rcases(KK:j'<=0\/1<=j')with z|z
  .have:=HU z (show 0<=h by lia);lia
  .exact z
 have a1:=Hm i1 (show 0<=w by lia);have a2:=Hm j1 (show 0<=h by lia);have b1:w<=w':=KK
 have b2:h<=h':=KK
 exact#[Int.mul_le_mul b1 b2 KK KK,b1,b2]
def InF.uniq(hw:0<w)(hh:0<h)(hs:0<=s)(Kx:s<w)(OZ:0<w')(O0:0<h')(K0:0<=s')(Sg:s'<w')(e:∀x y,InF w h s x y↔InF w' h' s' x y):w=w'/\h=h'/\s=s':=by
 obtain⟨_,a1,a2⟩:=InF.le hw hh OZ O0 (λx y q=>(e x y).mpr q);obtain⟨_,b1,b2⟩:=InF.le OZ O0 hw hh (λx y q=>(e x y).mp q);have ew:w=w':=KK
 have eh:h=h':=KK
 subst ew eh;refine#[rfl,rfl,?_];obtain⟨i,j,e1,e2⟩:=(e s h).mp #[0,1,KK,KK];have j1:j=1:=by
  have:j*h=1*h:=by lia
  exact Ib KK this
 subst j1;have:i*w=s-s':=KK
 rcases(KK:i<=-1\/i=0\/1<=i)with z|z|z
 .have:=Hm z (show 0<=w by lia);lia
 .subst z;lia
 .have:=Hm z (show 0<=w by lia);lia
structure Fam0(w h s:Int):Prop where
 w0:0<w
 h0:0<h
 s0:0<=s
 sw:s<w
def vd(f:Fam0 w1 h1 s1)(k:Fam0 w2 h2 s2):∃w h s,Fam0 w h s/\∀x y,InF w h s x y↔InF w1 h1 s1 x y/\InF w2 h2 s2 x y:=by
 obtain⟨g,u,M1⟩:=fA w1 w2;obtain⟨k',u',M2⟩:=fA h1 h2;obtain⟨gg,v_,M3⟩:=fA g (h1*h2/k'/h2*s2-h1*h2/k'/h1*s1);have M:=kS f.w0 k.w0 f.h0 k.h0 M1 M2 M3;exact#[_,_,_,#[M.w0,M.h0,M.s0,M.sw],M.lat]
def Leaf.fam_ex(g:l.Good)(h:l.Near n):∃w k s,Fam0 w k s/\∀x y,InF w k s x y↔l.Lat x y:=by
 obtain⟨_,_,_,_,ne,_⟩:=Leaf.sizes g h;obtain⟨p0,p1,q0,hL⟩:=fz l.t1.natAbs l.o0 l.o1 l.t0 l.t1 (GO _);have f:=gk ne hL;exact#[_,_,_,#[f.1,f.2.1,f.2.2.1,f.2.2.2.1],f.lat]
def bS(ls:List Leaf)(x y:Int):Prop:=∀l∈ls,l.Lat x y
def ve{n:Nat}:∀(ls:List Leaf) (w h s:Int),Fam0 w h s->(∀l∈ls,l.Good/\l.Near n)->∃w' h' s',Fam0 w' h' s'/\∀x y,InF w' h' s' x y↔InF w h s x y/\bS ls x y
 |[],w,h,s,f,_=>#[w,h,s,f,λx y=>#[λq=>#[q,λl z=>by cases z],λq=>q.1]]
 |l::r,w,h,s,f,g=>by
  obtain⟨w1,h1,s1,f1,e1⟩:=Leaf.fam_ex (g l GU).1 (g l GU).2;obtain⟨w2,h2,s2,f2,e2⟩:=vd f f1;obtain⟨w3,h3,s3,f3,e3⟩:=ve r w2 h2 s2 f2 λl' q=>g l' (GR _ q);refine#[w3,h3,s3,f3,λx y=>?_];rw[e3,e2,e1];constructor
  .rintro⟨⟨a,b⟩,c⟩;exact#[a,λl' q=>(GP.mp q).elim (λz=>z ▸ b) (c l')]
  .rintro⟨a,b⟩;exact#[#[a,b l GU],λl' q=>b l' (GR _ q)]
def cut1(d:D)(ds:List D):cutD (d::ds) (be 1) v7=ds:=by
 unfold cutD;have e1:HT.sIx (d::ds).length 0 (be 1)=1:=by simp[HT.sIx]
 have e2:HT.sIx (d::ds).length (d::ds).length v7=(d::ds).length:=by simp[HT.sIx]
 rw[e1,e2,List.drop_one,List.tail_cons,GV,J0,Ir]
def B9:SpD:=λds R=>∃(ls:List Leaf) (n:Nat),ds=[.lst (ls.map Leaf.D)]/\ls≠[]/\(∀l∈ls,l.Good/\l.Near n)/\
 ∀w h s:Int,Fam0 w h s->(∀x y,InF w h s x y↔bS ls x y)->(w*h<=720->R (.tup [.int w,.int h,.int s]))/\(720<w*h->R .non)
def Pat.Lat:Pat->Int->Int->Prop
 |.mot _ a b c d,x,y=>∃i j,x=i*a+j*c/\y=i*b+j*d
 |.over p q,x,y=>p.Lat x y/\q.Lat x y
 |.sh _ _ p,x,y=>p.Lat x y
 |.mir p,x,y=>p.Lat (-x) y
 |.tur p,x,y=>p.Lat y (-x)
 |.hue _ _ p,x,y=>p.Lat x y
def Leaf.by_lat(l:Leaf)(b0 b1 b2 b3 b4 b5 x y:Int):(l.by b0 b1 b2 b3 b4 b5).Lat x y↔∃u v,l.Lat u v/\x=b0*u+b2*v/\y=b1*u+b3*v:=by
 have e0:(l.by b0 b1 b2 b3 b4 b5).o0=b0*l.o0+b2*l.o1:=by simp only[Leaf.o0,Leaf.o1,Leaf.by];grind
 have e1:(l.by b0 b1 b2 b3 b4 b5).o1=b1*l.o0+b3*l.o1:=by simp only[Leaf.o0,Leaf.o1,Leaf.by];grind
 have e2:(l.by b0 b1 b2 b3 b4 b5).t0=b0*l.t0+b2*l.t1:=by simp only[Leaf.t0,Leaf.t1,Leaf.by];grind
 have e3:(l.by b0 b1 b2 b3 b4 b5).t1=b1*l.t0+b3*l.t1:=by simp only[Leaf.t0,Leaf.t1,Leaf.by];grind
 unfold Leaf.Lat;rw[e0,e1,e2,e3];generalize l.o0=o0;generalize l.o1=o1;generalize l.t0=t0;generalize l.t1=t1;constructor
 .rintro⟨i,j,rfl,rfl⟩;exact#[_,_,#[i,j,rfl,rfl],Mt,Mt]
 .rintro⟨_,_,⟨i,j,rfl,rfl⟩,rfl,rfl⟩;exact#[i,j,Mt,Mt]
def Leaf.dye_lat(l:Leaf)(f g x y:Int):(l.dye f g).Lat x y↔l.Lat x y:=Iff.rfl
def Ca(a b:List Leaf)(x y:Int):bS (a++b) x y↔bS a x y/\bS b x y:=by
 constructor
 .intro h;exact#[λl q=>h l (HY _ q),λl q=>h l (Hb _ q)]
 .rintro⟨h1,h2⟩ l q;rcases Hi.mp q with q|q
  .exact h1 l q
  .exact h2 l q
def latAll_map{f:Leaf->Leaf}(hf:∀l:Leaf,(f l).Lat x y↔l.Lat u v)(ls:List Leaf):bS (ls.map f) x y↔bS ls u v:=by
 constructor
 .intro h l q;exact(hf l).mp (h _ (Hd.mpr #[l,q,rfl]))
 .intro h l q;obtain⟨l',q',rfl⟩:=Hd.mp q;exact(hf l').mpr (h l' q')
def vf(l:Leaf)(e f x y:Int):(l.by 1 0 0 1 e f).Lat x y↔l.Lat x y:=by
 rw[Leaf.by_lat];constructor
 .rintro⟨u,v,h,e1,e2⟩;have e1:x=u:=by lia
  have e2:y=v:=KK
  rw[e1,e2];exact h
 .intro h;exact#[x,y,h,KK,KK]
def Pat.lat_leaves:∀(p:Pat) (x y:Int),bS p.leaves x y↔p.Lat x y
 | .mot L a b c d,x,y=>by
  have e0:(bu L a b c d).o0=a:=by simp[Leaf.o0,bu]
  have e1:(bu L a b c d).o1=b:=by simp[Leaf.o1,bu]
  have e2:(bu L a b c d).t0=c:=by simp[Leaf.t0,bu]
  have e3:(bu L a b c d).t1=d:=by simp[Leaf.t1,bu]
  have e:(bu L a b c d).Lat x y↔(Pat.mot L a b c d).Lat x y:=by
   unfold Leaf.Lat;rw[e0,e1,e2,e3];exact Iff.rfl
  rw[<-e];constructor
  .intro h;exact h _ GU
  .intro h l q;rw[GN.mp q];exact h
 |.over p q,x,y=>by rw[Pat.leaves,Ca,Pat.lat_leaves p,Pat.lat_leaves q,Pat.Lat]
 |.sh a b p,x,y=>by rw[Pat.leaves,latAll_map (λl=>vf l _ _ x y),Pat.lat_leaves p,Pat.Lat]
 | .mir p,x,y=>by
  have e:∀l:Leaf,(l.by (-1) 0 0 1 0 0).Lat x y↔l.Lat (-x) y:=λl=>by
   rw[Leaf.by_lat];constructor
   .rintro⟨u,v,h,e1,e2⟩;have e1:-x=u:=by lia
    have e2:y=v:=KK
    rw[e1,e2];exact h
   .intro h;exact#[-x,y,h,KK,KK]
  rw[Pat.leaves,latAll_map e,Pat.lat_leaves p,Pat.Lat]
 | .tur p,x,y=>by
  have e:∀l:Leaf,(l.by 0 1 (-1) 0 0 0).Lat x y↔l.Lat y (-x):=λl=>by
   rw[Leaf.by_lat];constructor
   .rintro⟨u,v,h,e1,e2⟩;have e1:-x=v:=by lia
    have e2:y=u:=KK
    rw[e1,e2];exact h
   .intro h;exact#[y,-x,h,KK,KK]
  rw[Pat.leaves,latAll_map e,Pat.lat_leaves p,Pat.Lat]
 |.hue f g p,x,y=>by
  rw[Pat.leaves,latAll_map (λl=>(Leaf.dye_lat _ f g x y).trans (vf l _ _ x y)),Pat.lat_leaves p,Pat.Lat]
structure Pat.Fam(p:Pat)(w h s:Int):Prop where
 f:Fam0 w h s
 lat:∀x y,InF w h s x y↔p.Lat x y
def Pat.Fam.uniq(a:p.Fam w h s)(b:p.Fam w' h' s'):w=w'/\h=h'/\s=s':=
 InF.uniq a.f.w0 a.f.h0 a.f.s0 a.f.sw b.f.w0 b.f.h0 b.f.s0 b.f.sw λx y=>(a.lat x y).trans (b.lat x y).symm
def Pat.Fam.mot(k:FamOf a b c d w h s):(Pat.mot L a b c d).Fam w h s:=#[#[k.1,k.2.1,k.2.2.1,k.2.2.2.1],k.lat]
def Pat.Fam.sh(a b:Int)(k:p.Fam w h s):(Pat.sh a b p).Fam w h s:=#[k.f,k.lat]
def Pat.Fam.hue(a b:Int)(k:p.Fam w h s):(Pat.hue a b p).Fam w h s:=#[k.f,k.lat]
def Pat.Fam.mir(k:p.Fam w h s):(Pat.mir p).Fam w h (-s%w):=by
 refine#[#[k.f.w0,k.f.h0,cX k.f.w0,cY k.f.w0],λx y=>?_];show _↔p.Lat (-x) y;rw[<-k.lat];have e:=HS (-s) w;generalize -s%w=r at e;generalize -s/w=t at e;constructor
 .rintro⟨i,j,rfl,rfl⟩;exact#[j*t-i,j,by rw[e];grind,rfl]
 .rintro⟨i,j,ex,rfl⟩;exact#[j*t-i,j,by rw[e];grind,rfl]
def Pat.Fam.tur(k:p.Fam w h s)(f:FamOf 0 w (-h) s w' h' s'):(Pat.tur p).Fam w' h' s':=by
 refine#[#[f.1,f.2.1,f.2.2.1,f.2.2.2.1],λx y=>?_];show _↔p.Lat y (-x);rw[<-k.lat,f.lat];constructor
 .rintro⟨i,j,rfl,rfl⟩;exact#[i,j,Mt,Mt]
 .rintro⟨i,j,ex,ey⟩;exact#[i,j,Mt,Mt]
def Pat.Fam.over{q:Pat}(k1:p.Fam w1 h1 s1)(k2:q.Fam w2 h2 s2)(M:MetR w1 h1 s1 w2 h2 s2 w h s A):(Pat.over p q).Fam w h s:=by
 refine#[#[M.w0,M.h0,M.s0,M.sw],λx y=>?_];rw[M.lat,k1.lat,k2.lat];exact Iff.rfl
def kZ(hw:0<w)(hh:0<h):∃w' h' s',FamOf 0 w (-h) s w' h' s'/\w'*h'=w*h:=by
 have hp:0<w*h:=G6 hw hh;have hn:¬0*s=w* -h:=by rw[IJ];lia
 obtain⟨p0,p1,q0,hL⟩:=fz s.natAbs 0 w (-h) s (GO _);have f:=gk hn hL;refine#[_,_,_,f,?_];have LM:=G6 f.1 f.2.1;have c:=f.cells;rw[IJ]at c;lia
def vg(hn:¬a*d=b*c):∃w h s,FamOf a b c d w h s/\(Pat.mot L a b c d).Fam w h s:=by
 obtain⟨p0,p1,q0,hL⟩:=fz d.natAbs a b c d (GO _);have f:=gk hn hL;exact#[_,_,_,f,.mot f]
def Pat.fam_ex:∀{p:Pat},p.Wf->∃w h s,p.Fam w h s
 |.mot L a b c d,h=>by
  obtain⟨w,k,s,_,f⟩:=vg (L:=L) h.2.2.2.2.2;exact#[w,k,s,f]
 |.over p q,h=>by
  obtain⟨w1,h1,s1,f1⟩:=Pat.fam_ex h.1;obtain⟨w2,h2,s2,f2⟩:=Pat.fam_ex h.2;obtain⟨w,k,s,f,e⟩:=vd f1.f f2.f;refine#[w,k,s,f,λx y=>?_];rw[e,f1.lat,f2.lat];exact Iff.rfl
 |.sh a b p,h=>by
  obtain⟨w,k,s,f⟩:=Pat.fam_ex h.2.2;exact#[w,k,s,f.sh a b]
 |.mir p,h=>by
  obtain⟨w,k,s,f⟩:=Pat.fam_ex (p:=p) h;exact#[w,k,_,f.mir]
 |.tur p,h=>by
  obtain⟨w,k,s,f⟩:=Pat.fam_ex (p:=p) h;obtain⟨w',k',s',f',_⟩:=kZ (s:=s) f.f.w0 f.f.h0;exact#[w',k',s',f.tur f']
 |.hue a b p,h=>by
  obtain⟨w,k,s,f⟩:=Pat.fam_ex h.2.2;exact#[w,k,s,f.hue a b]
def Pat.Fits(p:Pat):Prop:=∃w h s,p.Fam w h s/\w*h<=720
def Pat.fits_mot(ha:B12 a)(hb:B12 b)(hc:B12 c)(hd:B12 d)(hn:¬a*d=b*c):(Pat.mot L a b c d).Fits:=by
 obtain⟨w,h,s,k,f⟩:=vg (L:=L) hn;refine#[w,h,s,f,?_];have kc:=k.cells;unfold B12 at*;have m1:=bQ (a:=a) (d:=d) (A:=12) (B:=12) KK KK;have m2:=bQ (a:=b) (d:=c) (A:=12) (B:=12) KK KK;lia
def Pat.Fits.sh(a b:Int)(k:p.Fits):(Pat.sh a b p).Fits:=by
 obtain⟨w,h,s,f,q⟩:=k;exact#[w,h,s,f.sh a b,q]
def Pat.Fits.hue(a b:Int)(k:p.Fits):(Pat.hue a b p).Fits:=by
 obtain⟨w,h,s,f,q⟩:=k;exact#[w,h,s,f.hue a b,q]
def Pat.Fits.mir(k:p.Fits):(Pat.mir p).Fits:=by
 obtain⟨w,h,s,f,q⟩:=k;exact#[w,h,_,f.mir,q]
def Pat.Fits.tur(k:p.Fits):(Pat.tur p).Fits:=by
 obtain⟨w,h,s,f,q⟩:=k;obtain⟨w',k',s',f',e⟩:=kZ (s:=s) f.f.w0 f.f.h0;exact#[w',k',s',f.tur f',KK]
def Cb(hL:Rows L)(ha:B12 a)(hb:B12 b)(hc:B12 c)(hd:B12 d):(dD L a b c d).length<=100:=by
 have la:=bF ha;have lb:=bF hb;have lc:=bF hc;have ld:=bF hd;have l1:(";":Kq).length=1:=rfl;have l2:(",":Kq).length=1:=rfl;have l3:("[":Kq).length=1:=rfl;have l4:("]":Kq).length=1:=rfl;have ls:=uu hL;have lj:=StrLaws.join_length_le "/" L;have lg:(Txt.join "/" L).length<=72:=by
  have e:Txt.join "/" L=Str.join "/" L:=StrLaws.glued_eq_join _ _;rw[e];exact GY lj ls
 unfold dD
 repeat rw[aI]
 lia
def Pat.text_len:∀{p:Pat},p.Wf->p.text.length+10<=110*2^p.depth
 |.mot L a b c d,h=>by
  have:=Cb h.1 h.2.1 h.2.2.1 h.2.2.2.1 h.2.2.2.2.1;show(dD L a b c d).length+10<=110*2^0;lia
 |.over p q,h=>by
  have h1:=Pat.text_len h.1;have h2:=Pat.text_len h.2;have m1:2^p.depth<=2^(max p.depth q.depth):=Ic Lj (JU _ _);have m2:2^q.depth<=2^(max p.depth q.depth):=Ic Lj (JV _ _);have l1:("(":Kq).length=1:=rfl;have l2:("|":Kq).length=1:=rfl;have l3:(")":Kq).length=1:=rfl;rw[Pat.text,Pat.depth,JW]
  repeat rw[aI]
  lia
 |.sh a b p,h=>by
  have h1:=Pat.text_len h.2.2;have la:=bF h.1;have lb:=bF h.2.1;have l1:("s":Kq).length=1:=rfl;have l2:(",":Kq).length=1:=rfl;have l3:(":":Kq).length=1:=rfl;have:0<2^p.depth:=IK Lj;rw[Pat.text,Pat.depth,HI]
  repeat rw[aI]
  lia
 |.mir p,h=>by
  have h1:=Pat.text_len (p:=p) h;have l1:("m":Kq).length=1:=rfl;have:0<2^p.depth:=IK Lj;rw[Pat.text,Pat.depth,HI,aI];lia
 |.tur p,h=>by
  have h1:=Pat.text_len (p:=p) h;have l1:("t":Kq).length=1:=rfl;have:0<2^p.depth:=IK Lj;rw[Pat.text,Pat.depth,HI,aI];lia
 |.hue f g p,h=>by
  have h1:=Pat.text_len h.2.2;have la:=fv h.1;have lb:=fv h.2.1;have l1:("h":Kq).length=1:=rfl;have:0<2^p.depth:=IK Lj;rw[Pat.text,Pat.depth,HI]
  repeat rw[aI]
  lia
def Pat.leaves_pos:∀p:Pat,0<p.leaves.length
 |.mot ..=>Nat.zero_lt_one
 |.over p q=>by rw[Pat.leaves,G0];have:=p.leaves_pos;lia
 |.sh _ _ p=>by rw[Pat.leaves,GQ];exact p.leaves_pos
 |.mir p=>by rw[Pat.leaves,GQ];exact p.leaves_pos
 |.tur p=>by rw[Pat.leaves,GQ];exact p.leaves_pos
 |.hue _ _ p=>by rw[Pat.leaves,GQ];exact p.leaves_pos
def Pat.text_short(h:p.Wf)(hd:p.depth<=5):p.text.length<=3510:=by
 have h1:=Pat.text_len h;have h2:2^p.depth<=2^5:=Ic Lj hd;lia
structure Pat.Ok(p:Pat):Prop where
 wf:p.Wf
 deep:p.depth<=5
 fits:p.Fits
def Wraps.of{H:Prop}(h:p.Ok)(hR:∀q:Pat,q.Ok->R q.D):Wraps p H R:=by
 refine#[λ_=>hR p h,λhd=>#[hR _ #[h.wf,?_,h.fits.mir],hR _ #[h.wf,?_,h.fits.tur],λa b ha hb=>hR _ #[#[ha,hb,h.wf],?_,h.fits.sh a b],λ_ f g hf hg=>hR _ #[#[hf,hg,h.wf],?_,h.fits.hue f g]]]<;>(simp only[Pat.depth];lia)
def Cd:SpD:=λds R=>∃p q:Pat,ds=[p.D,q.D]/\p.Wf/\q.Wf/\p.depth<=5/\q.depth<=5/\R p.D/\(p.depth<5->q.depth<5->(Pat.over p q).Fits->R (Pat.over p q).D)
def Ce:SpD:=λds R=>∃(ns:List Int) (k:Int),ds=[.rol (ns.map D.int),.int k]/\0<=k/\∀p:Pat,p.Ok->R p.D
end My
end
section
open PySem PySem.Spec PyProof.Rows L2
namespace My
def Cf:TMS:=λ_ _ _=>False
def il{X:Cx}[Jm]{st:SB}:MSt X st Cf:=⟨ps_never.anti λE s H q=>by
 obtain⟨F0,F,z,M,k,rs,ED,h,e⟩:=q;exact h.elim⟩
end My
end
section
namespace My
open PySem PySem.Spec PyProof.Rows L2
abbrev isSg(c:Nat):Bool:=c==46||(49<=c&&c<=54)
def numL(a:Int):List Nat:=cs (toString a:String)
variable{a:Int}
def vh(h:B12 a){P:Int->Prop}(hP:∀k:Fin 25,P (((k.val:Nat):Int)-12)):P a:=by
 unfold B12 at h;have:=hP #[(a+12).toNat,KK];have e:(((a+12).toNat:Nat):Int)-12=a:=KK
 rw[e]at this;exact this
def isNumL(l:List Nat):Prop:=(∃c,(48<=c/\c<=57)/\l=[c])\/(∃c,(48<=c/\c<=50)/\l=[49,c])\/(∃c,(49<=c/\c<=57)/\l=[45,c])\/∃c,(48<=c/\c<=50)/\l=[45,49,c]
def numL_is(h:B12 a):isNumL (numL a):=by
 have key:∀k:Fin 25,(numL (((k.val:Nat):Int)-12))∈([[45,49,50],[45,49,49],[45,49,48],[45,57],[45,56],[45,55],[45,54],[45,53],[45,52],[45,51],[45,50],[45,49],[48],[49],[50],[51],[52],[53],[54],[55],[56],[57],[49,48],[49,49],[49,50]]:List (List Nat)):=Lf
 have h1:=vh (P:=λa=>numL a∈([[45,49,50],[45,49,49],[45,49,48],[45,57],[45,56],[45,55],[45,54],[45,53],[45,52],[45,51],[45,50],[45,49],[48],[49],[50],[51],[52],[53],[54],[55],[56],[57],[49,48],[49,49],[49,50]]:List (List Nat))) h key;revert h1;generalize numL a=l;intro h1;unfold isNumL;simp only[GP,HW,or_false]at h1;rcases h1 with e|e|e|e|e|e|e|e|e|e|e|e|e|e|e|e|e|e|e|e|e|e|e|e|e<;>subst e
 all_goals first
  |exact .inl ⟨_,Lj,rfl⟩
  |exact .inr (.inl ⟨_,Lj,rfl⟩)
  |exact .inr (.inr (.inl ⟨_,Lj,rfl⟩))
  |exact .inr (.inr (.inr ⟨_,Lj,rfl⟩))
def endS(c:Nat):Prop:=c=44\/c=59\/c=58\/c=93
def rowsL:List (List Nat)->List Nat
 |[]=>[]
 |[x]=>x
 |x::y::r=>x++47::rowsL (y::r)
variable{c:Nat}
def Cg(h:aW c):isSg c=true:=by
 unfold aW at h;unfold isSg;rcases h with h|h
 .subst h;rfl
 .have:(decide (49<=c)&&decide (c<=54))=true:=by simp[h]
  rw[this,IF]
def motL(L:List (List Nat))(a b c d:Int):List Nat:=91::(rowsL L++59::(numL a++44::(numL b++59::(numL c++44::(numL d++[93])))))
def Pat.tl:Pat->List Nat
 |.mot L a b c d=>motL (L.map cs) a b c d
 |.over p q=>40::(p.tl++124::(q.tl++[41]))
 |.sh a b p=>115::(numL a++44::(numL b++58::p.tl))
 |.mir p=>109::p.tl
 |.tur p=>116::p.tl
 |.hue f g p=>104::(numL f++(numL g++p.tl))
def vi:∀L:List Kq,cs (Str.join "/" L)=rowsL (L.map cs)
 |[]=>rfl
 |[x]=>rfl
 |x::y::L=>by
  show cs (x++"/"++Str.join "/" (y::L))=cs x++47::rowsL ((y::L).map cs);rw[bD,bD,vi (y::L),HA];rfl
def cv:∀p:Pat,cs p.text=p.tl
 |.mot L a b c d=>by
  show cs (dD L a b c d)=motL (L.map cs) a b c d;unfold dD motL;have e:Txt.join "/" L=Str.join "/" L:=StrLaws.glued_eq_join _ _;rw[e]
  repeat rw[bD]
  rw[vi];simp only[HA];rfl
 |.over p q=>by
  rw[Pat.text,Pat.tl]
  repeat rw[bD]
  rw[cv p,cv q];simp only[HA];rfl
 |.sh a b p=>by
  rw[Pat.text,Pat.tl]
  repeat rw[bD]
  rw[cv p];simp only[HA];rfl
 |.mir p=>by
  rw[Pat.text,Pat.tl,bD,cv p];rfl
 |.tur p=>by
  rw[Pat.text,Pat.tl,bD,cv p];rfl
 |.hue f g p=>by
  rw[Pat.text,Pat.tl]
  repeat rw[bD]
  rw[cv p];simp only[HA];rfl
def hueL{f:Int}(h:1<=f/\f<=6):numL f=[(48+f).toNat]:=by
 have key:∀k:Fin 6,numL (((k.val:Nat):Int)+1)=[49+k.val]:=Lf
 have:=key #[(f-1).toNat,KK];have e:(((f-1).toNat:Nat):Int)+1=f:=KK
 rw[e]at this;rw[this];congr 1;show 49+(f-1).toNat=(48+f).toNat;lia
def rowsT(L:List (List Nat)):List Nat:=L.flatMap λy=>47::y
def vj:∀(x:List Nat) (L:List (List Nat)),rowsL (x::L)=x++rowsT L
 |x,[]=>by simp[rowsL,rowsT]
 |x,y::L=>by
  rw[rowsL,vj y L];simp[rowsT]
def gm{x y:Kq}(h:cs x=cs y):x=y:=by
 obtain⟨a⟩:=x;obtain⟨b⟩:=y;have:a=b:=J1.mp h;rw[this]
variable{x:Int}
def numS(h:B12 x):numL x=[48]\/∃pre c y,(pre=[]\/pre=[45])/\(49<=c/\c<=57)/\numL x=pre++c::y/\(y=[]\/(c=49/\∃d,(48<=d/\d<=50)/\y=[d])):=by
 rcases numL_is h with⟨c,hc,e⟩|⟨c,hc,e⟩|⟨c,hc,e⟩|⟨c,hc,e⟩
 .by_cases z:c=48
  .exact .inl (by rw[e,z])
  .exact .inr #[[],c,[],.inl rfl,KK,e,.inl rfl]
 .exact .inr #[[],49,[c],.inl rfl,Lj,e,.inr #[rfl,c,hc,rfl]]
 .exact .inr #[[45],c,[],.inr rfl,hc,e,.inl rfl]
 .exact .inr #[[45],49,[c],.inr rfl,Lj,e,.inr #[rfl,c,hc,rfl]]
variable{A B:Prop}
def ifT{c:Prop}[Decidable c](h:c)(a:A):if c then A else B:=by rw[if_pos h];exact a
def ifdT{p:Prop}[Decidable p](h:p)(a:A):if decide p=true then A else B:=by rw[if_pos (decide_eq_true h)];exact a
def ifdF{p:Prop}[Decidable p](h:¬p)(b:B):if decide p=true then A else B:=by rw[if_neg (by simpa using h)];exact b
def rdF(t:Kq)(k:Nat):List (Kq×D):=[("text",.str t),("place",.int k)]
def RdM(a:KF)(t:Kq)(k:Nat):MS:=[(a,.ins "Reading" (rdF t k))]
variable{o:MO}
def dR{a:KF}:mget [(a,o)] a=be o:=by unfold mget;rw[if_pos rfl]
def im{a:KF}{o':MO}:mput [(a,o)] a o'=[(a,o')]:=by unfold mput;rw[if_pos rfl]
variable{t:Kq}{k:Nat}
def aV{a:KF}:mget (RdM a t k) a=be (.ins "Reading" (rdF t k)):=dR
def lf:(rdF t k).lookup ("text":Kq)=be (.str t):=rfl
def fB:(rdF t k).lookup ("place":Kq)=be (.int k):=by
 unfold rdF;rw[G4,show(("place":Kq)==("text":Kq))=false by decide+kernel];rfl
def Ch:putD ("place":Kq) (.int ((k:Int)+1)) (rdF t k)=rdF t (k+1):=by
 unfold rdF putD;rw[if_neg Lf];unfold putD;rw[if_pos rfl];rfl
def dF:(rdF t k).lookup ("may_take":Kq)=none:=by
 unfold rdF;rw[G4,show(("may_take":Kq)==("text":Kq))=false by decide+kernel,G4,show(("may_take":Kq)==("place":Kq))=false by decide+kernel];rfl
def cw:(rdF t k).lookup ("take":Kq)=none:=by
 unfold rdF;rw[G4,show(("take":Kq)==("text":Kq))=false by decide+kernel,G4,show(("take":Kq)==("place":Kq))=false by decide+kernel];rfl
structure At(t:Str)(k:Nat)(l:List Nat):Prop where
 eq:(cs t).drop k=l
 le:k<=t.length
 sz:t.length<=100000
def At.nil(h:At t k []):k=t.length:=by
 have h1:=congrArg Ii h.eq;rw[HE,bb]at h1;have:=h.le;simp at h1;lia
variable{l:List Nat}
def At.lt(h:At t k (c::l)):k<t.length:=by
 have h1:=congrArg Ii h.eq;rw[HE,bb]at h1;simp at h1;lia
def At.get(h:At t k (c::l)):(cs t)[k]?=be c:=by
 have h1:=congrArg (·[0]?) h.eq;simpa using h1
def At.next(h:At t k (c::l)):At t (k+1) l:=by
 refine#[?_,h.lt,h.sz];have h1:=congrArg (HP 1) h.eq;rw[List.drop_drop]at h1;simpa using h1
def At.app{t:Kq}:∀{x l:List Nat} {k:Nat},At t k (x++l)->At t (k+x.length) l
 |[],_,_,h=>h
 |c::x,l,k,h=>by
  have h1:At t (k+1+x.length) l:=At.app (At.next h);have e:k+1+x.length=k+(c::x).length:=by rw[GV];lia
  rw[e]at h1;exact h1
variable{al:Kq}
def vk:(!(!(Builtin.Str.occurrences al #[[c].toArray] 0 al.length 1).isEmpty))=!decide (c∈cs al):=by
 rw[StrLaws.found_one]
def mayS(al:Kq):List Nat->Kq|c::_=>if c∈cs al then#[[c].toArray]else ""|[]=>""
def mayN(al:Kq):List Nat->Nat|c::_=>if c∈cs al then 1 else 0|[]=>0
def fC(h:c∈cs al):mayS al (c::l)=#[[c].toArray]:=if_pos h
def fD(h:c∈cs al):mayN al (c::l)=1:=if_pos h
def dS(h:c∉cs al):mayS al (c::l)="":=if_neg h
def dU(h:c∉cs al):mayN al (c::l)=0:=if_neg h
def Ci:SiD:=λds R=>∃t:Kq,ds=[.str t]/\R (rdF t 0)
def Cj:SpM:=λds M R RX=>∃(a:KF) (t:Kq) (k:Nat) (l:List Nat) (al:Kq),ds=[.ptr a,.str al]/\M=RdM a t k/\At t k l/\R (.str (mayS al l)) (RdM a t (k+mayN al l))
def Ck:SpM:=λds M R _=>∃(a:KF) (t:Kq) (k c:Nat) (l:List Nat) (al:Kq),ds=[.ptr a,.str al]/\M=RdM a t k/\At t k (c::l)/\c∈cs al/\R (.str #[[c].toArray]) (RdM a t (k+1))
def Cl(h:B12 x):PySem.intText? #[(numL x).toArray]=be x:=
 vh (P:=λx=>PySem.intText? #[(numL x).toArray]=be x) h Lf
def gp(x y:List Nat):((#[x.toArray]:Kq)++#[y.toArray]:Kq)=#[(x++y).toArray]:=by
 apply gm;rw[bD]
def digits19:c∈cs "123456789"↔49<=c/\c<=57:=by
 have e:cs "123456789"=[49,50,51,52,53,54,55,56,57]:=rfl;rw[e];simp;lia
def digits02:c∈cs "012"↔48<=c/\c<=50:=by
 have e:cs "012"=[48,49,50]:=rfl;rw[e];simp;lia
def Cm(w:List Nat)(c:Nat):Txt.endswith #[(w++[c]).toArray] "1"=decide (c=49):=by
 unfold Txt.endswith;have e1:("1":Kq).length=1:=rfl;have e2:(#[(w++[c]).toArray]:Kq).length=w.length+1:=by simp[Str.length]
 rw[e1,e2];have e3:decide (0+1<=w.length+1)=true:=Ln
 rw[e3,Bool.true_and,J0];unfold Builtin.Str.subAt;have e4:(#[(w++[c]).toArray]:Kq).cps.extract w.length (w.length+("1":Kq).length)=[c].toArray:=by
  apply J1.mp;simp[Array.toList_extract,e1]
 rw[e4];have e5:("1":Kq).cps=[49].toArray:=rfl;rw[e5];by_cases h:c=49
 .subst h;rfl
 .simp[h]
def Cn:SpM:=λds M R _=>∃(a:KF) (t:Kq) (k:Nat) (x:Int) (e:Nat) (l:List Nat),ds=[.ptr a]/\M=RdM a t k/\B12 x/\endS e/\At t k (numL x++e::l)/\R (.int x) (RdM a t (k+(numL x).length))
def Co:SpM:=λds M R _=>∃(a:KF) (t:Kq) (k:Nat) (x y:Int) (e:Nat) (l:List Nat),ds=[.ptr a]/\M=RdM a t k/\B12 x/\B12 y/\endS e/\At t k (numL x++44::(numL y++e::l))/\R (.tup [.int x,.int y]) (RdM a t (k+(numL x).length+1+(numL y).length))
def signs_is:c∈cs ".123456"↔isSg c=true:=by
 have e:cs ".123456"=[46,49,50,51,52,53,54]:=rfl;rw[e];simp;lia
def fE(x:List Nat):(#[x.toArray]:Kq).length=x.length:=by simp[Str.length]
def vm(h:isSg c=false):c∉cs ".123456":=λz=>by rw[signs_is.mp z]at h;cases h
def S_line_from:SpM:=λds M R _=>∃(a:KF) (t:Kq) (k n m:Nat) (x l:List Nat),ds=[.ptr a,.int n,.int m]/\M=RdM a t k/\At t k (x++l)/\(∀c∈x,aW c)/\n<=x.length/\x.length<=m/\m<=8/\(x.length=m\/∃c l',l=c::l'/\isSg c=false)/\R (.str #[x.toArray]) (RdM a t (k+x.length))
def Cp{p a:KF}(h:p≠a):mget ((p,o)::RdM a t k) a=be (.ins "Reading" (rdF t k)):=by
 unfold mget;rw[if_neg h];exact dR
variable{M:MS}
def cZ{p:KF}:mget ((p,o)::M) p=be o:=by unfold mget;rw[if_pos rfl]
def vn{p:KF}{o':MO}:mput ((p,o)::M) p o'=(p,o')::M:=by unfold mput;rw[if_pos rfl]
def lh{p:KF}:mdel ((p,o)::M) p=M:=by unfold mdel;rw[if_pos rfl]
structure RowsL(L:List (List Nat))(w:Nat):Prop where
 many:1<=L.length/\L.length<=8
 w1:1<=w
 w8:w<=8
 each:∀x∈L,x.length=w/\∀c∈x,aW c
def lstD(L:List (List Nat)):List D:=L.map λx=>D.str #[x.toArray]
def Cq:SpM:=λds M R _=>∃(a:KF) (t:Kq) (k:Nat) (L:List (List Nat)) (w:Nat) (l:List Nat),ds=[.ptr a]/\M=RdM a t k/\RowsL L w/\At t k (rowsL L++59::l)/\R (.lst (lstD L)) (RdM a t (k+(rowsL L).length))
def hmX(w h s:Int)(i j:Int):Int:=(i-j/h*s)%w
def hRow(w h s:Int)(j:Nat):Nat->List Nat->List ((Int×Int)×Int)->List ((Int×Int)×Int)
 |_,[],kv=>kv
 |i,c::r,kv=>hRow w h s j (i+1) r (if c=46 then kv else sdD kv (hmX w h s i j) ((j:Int)%h) ((c:Int)-48))
def hAll(w h s:Int):Nat->List (List Nat)->List ((Int×Int)×Int)->List ((Int×Int)×Int)
 |_,[],kv=>kv
 |j,x::r,kv=>hAll w h s (j+1) r (hRow w h s j 0 x kv)
def vo(kv:List ((Int×Int)×Int))(x y v:Int):(sdD kv x y v).length<=kv.length+1:=by
 unfold sdD;split
 .lia
 .rw[G0];simp
def Cr(h:49<=c/\c<=54):∃i rest,Builtin.Str.occurrences ".123456" #[[c].toArray] 0 (".123456":Kq).length 1=i::rest/\((i:Nat):Int)=(c:Int)-48:=by
 rcases(KK:c=49\/c=50\/c=51\/c=52\/c=53\/c=54)with e|e|e|e|e|e<;>subst e
 .exact#[1,[],Lf,Lj]
 .exact#[2,[],Lf,Lj]
 .exact#[3,[],Lf,Lj]
 .exact#[4,[],Lf,Lj]
 .exact#[5,[],Lf,Lj]
 .exact#[6,[],Lf,Lj]
def Cs{x:List Nat}(h:∀c∈x,aW c):(#[x.toArray]:Kq).cps.all (·<128)=true:=by
 rw[<-Ja,HF];intro c hc;have:=h c hc;unfold aW at this;simp;lia
def Ct{L:List (List Nat)}{j:Nat}{d:D}(h:(lstD L)[j]?=be d):∃x,L[j]?=be x/\d=.str #[x.toArray]:=by
 unfold lstD at h;rw[GX]at h;cases e:L[j]? with
 |none=>rw[e]at h;cases h
 |some x=>rw[e]at h;cases h;exact#[x,rfl,rfl]
variable{i:Nat}
def Cu{x:List Nat}{d:D}(h:(bP #[x.toArray])[i]?=be d):∃c,x[i]?=be c/\d=.str #[[c].toArray]:=by
 unfold bP at h;rw[GX]at h;cases e:x[i]? with
 |none=>simp[e]at h
 |some c=>simp[e]at h;exact#[c,rfl,h.symm]
def vp{α:Type}{l:List α}{x:α}(h:l[i]?=be x):l.drop i=x::l.drop (i+1):=by
 have hi:i<l.length:=(G1.mp h).1;rw[HX hi];congr 1;rw[G5 hi]at h;exact Option.some.inj h
def Cw:SpM:=λds M R RX=>∃(L:List (List Nat)) (wd:Nat) (w h s:Int),ds=[.lst (lstD L),.tup [.int w,.int h,.int s]]/\RowsL L wd/\0<w/\0<h/\h<1073741824/\0<=s/\s<1073741824/\R (.dti (hAll w h s 0 L [])) M
def moF(k:Nat)(sh:D)(hu:List ((Int×Int)×Int)):List (Kq×D):=[("place",.int k),("shifts",sh),("hues",.dti hu)]
def Cy:SiD:=λds R=>∃(k:Nat) (L:List (List Nat)) (wd:Nat) (a b c d:Int),ds=[.int k,.lst (lstD L),.tup [.int a,.int b],.tup [.int c,.int d]]/\RowsL L wd/\B12 a/\B12 b/\B12 c/\B12 d/\¬a*d=b*c/\
 ∀w h s,FamOf a b c d w h s->R (moF k (.tup [.int w,.int h,.int s]) (hAll w h s 0 L []))
variable{v:My.D}
def Cz:putD ("place":Kq) v []=([("place",v)]:List (Kq×D)):=rfl
variable{u:My.D}
def CA:putD ("shifts":Kq) v [("place",u)]=([("place",u),("shifts",v)]:List (Kq×D)):=by
 unfold putD;rw[if_neg Lf];rfl
def CB{t:D}:putD ("hues":Kq) v [("place",t),("shifts",u)]=([("place",t),("shifts",u),("hues",v)]:List (Kq×D)):=by
 unfold putD;rw[if_neg Lf];unfold putD;rw[if_neg Lf];rfl
def vq:([("place",u),("shifts",v)]:List (Kq×D)).lookup ("shifts":Kq)=be v:=by
 rw[G4,show(("shifts":Kq)==("place":Kq))=false by decide+kernel];rfl
def CC:SiD:=λds R=>∃(x y:Kq) (fs gs:List (Kq×D)),ds=[.obj x fs,.obj y gs]/\R [("above",.obj x fs),("below",.obj y gs)]
def CD:SiD:=λds R=>∃(x:Kq) (fs:List (Kq×D)) (a b:Int),ds=[.obj x fs,.int a,.int b]/\R [("form",.obj x fs),("x",.int a),("y",.int b)]
def CF:SiD:=λds R=>∃(x:Kq) (fs:List (Kq×D)),ds=[.obj x fs]/\R [("form",.obj x fs)]
def CG:SiD:=λds R=>∃(x:Kq) (fs:List (Kq×D)),ds=[.obj x fs]/\R [("form",.obj x fs)]
def CH:SiD:=λds R=>∃(x:Kq) (fs:List (Kq×D)) (a b:Int),ds=[.obj x fs,.int a,.int b]/\R [("form",.obj x fs),("old",.int a),("new",.int b)]
def FormOf:Pat->D->Prop
 |.mot L a b c d,v=>∃(k:Nat) (w h s:Int),v=.obj "Motif" (moF k (.tup [.int w,.int h,.int s]) (hAll w h s 0 (L.map cs) []))/\FamOf a b c d w h s
 |.over p q,v=>∃u u',v=.obj "Over" [("above",u),("below",u')]/\FormOf p u/\FormOf q u'
 |.sh a b p,v=>∃u,v=.obj "Shifted" [("form",u),("x",.int a),("y",.int b)]/\FormOf p u
 |.mir p,v=>∃u,v=.obj "Mirror" [("form",u)]/\FormOf p u
 |.tur p,v=>∃u,v=.obj "Turn" [("form",u)]/\FormOf p u
 |.hue f g p,v=>∃u,v=.obj "Rehue" [("form",u),("old",.int f),("new",.int g)]/\FormOf p u
def Pat.cls:Pat->Kq
 |.mot ..=>"Motif"|.over ..=>"Over"|.sh ..=>"Shifted"|.mir ..=>"Mirror"|.tur ..=>"Turn"|.hue ..=>"Rehue"
variable{f g:Kq}{r:List (Kq×My.D)}
def bT(h:(f==g)=false)(hr:r.lookup f=v7):(((g,v)::r:List (Kq×D))).lookup f=none:=by
 rw[G4,h];exact hr
structure ObjM(p:Pat)(fs:List (Str×D)):Prop where
 nl:noLF fs=true
 fam:fs.lookup ("family":Kq)=v7
 shw:fs.lookup ("shows":Kq)=v7
variable{p:Pat}
def FormOf.objm:∀{v:D},FormOf p v->∃fs,v=.obj p.cls fs/\ObjM p fs:=by
 have n1 {g:Kq} {u:D} {f:Kq} (h:(f==g)=false):([(g,u)]:List (Kq×D)).lookup f=none:=bT h rfl;have nn {fs:List (Kq×D)} {x:Kq} (h:noLF fs=true):noL (.obj x fs)=true:=by simp[noL,h]
 induction p with
 |mot L a b c d=>
  rintro _⟨k,w,h,s,rfl,_⟩;exact#[_,rfl,by simp[noL,noLF,noLs,moF],bT Lf (bT Lf (n1 Lf)),bT Lf (bT Lf (n1 Lf))]
 |over p q i j=>
  rintro _⟨u,u',rfl,h1,h2⟩;obtain⟨fs,rfl,o1⟩:=i h1;obtain⟨gs,rfl,o2⟩:=j h2;exact#[_,rfl,by simp[noLF,nn o1.nl,nn o2.nl],bT Lf (n1 Lf),bT Lf (n1 Lf)]
 |sh a b p i=>
  rintro _⟨u,rfl,h1⟩;obtain⟨fs,rfl,o1⟩:=i h1;exact#[_,rfl,by simp[noL,noLF,o1.nl],bT Lf (bT Lf (n1 Lf)),bT Lf (bT Lf (n1 Lf))]
 |mir p i=>
  rintro _⟨u,rfl,h1⟩;obtain⟨fs,rfl,o1⟩:=i h1;exact#[_,rfl,by simp[noLF,nn o1.nl],n1 Lf,n1 Lf]
 |tur p i=>
  rintro _⟨u,rfl,h1⟩;obtain⟨fs,rfl,o1⟩:=i h1;exact#[_,rfl,by simp[noLF,nn o1.nl],n1 Lf,n1 Lf]
 |hue f g p i=>
  rintro _⟨u,rfl,h1⟩;obtain⟨fs,rfl,o1⟩:=i h1;exact#[_,rfl,by simp[noL,noLF,o1.nl],bT Lf (bT Lf (n1 Lf)),bT Lf (bT Lf (n1 Lf))]
variable{L:List Kq}
def CI(h:Rows L):∃w,RowsL (L.map cs) w:=by
 obtain⟨h1,w,h2,h3⟩:=h;refine#[w,by rw[GQ];exact h1,h2.1,h2.2,λx hx=>?_];obtain⟨l,hl,rfl⟩:=Hd.mp hx;rw[bb];exact h3 l hl
def vt{f:Int}(h:1<=f/\f<=6):(48+f).toNat∈cs "123456":=by
 have e:cs "123456"=[49,50,51,52,53,54]:=rfl;rw[e];simp;lia
def CJ:SpM:=λds M R _=>∃(g:KF) (t:Kq) (k:Nat) (L:List Kq) (a b c d:Int) (l:List Nat),ds=[.ptr g]/\M=RdM g t k/\At t k (motL (L.map cs) a b c d++l)/\(Pat.mot L a b c d).Wf/\∀v,FormOf (.mot L a b c d) v->R v (RdM g t (k+(motL (L.map cs) a b c d).length))
def dG(j:Nat):SpM:=λds M R _=>∃(a:KF) (t:Kq) (k:Nat) (p:Pat) (l:List Nat) (d:Nat),ds=[.ptr a,.int d]/\M=RdM a t k/\At t k (p.tl++l)/\d+j=6/\1<=j/\p.Wf/\p.depth+d<=5/\∀v,FormOf p v->R v (RdM a t (k+p.tl.length))
variable{ds:List My.D}{R:My.D->MS->Prop}{RX:XDM}
def CK:¬dG 0 ds M R RX:=by
 rintro⟨_,_,_,_,_,_,_,_,_,_,h,_⟩;exact absurd h Lj
def vw(j:Nat):SpM:=λds M R _=>∃(a:KF) (t:Kq) (k:Nat) (p q:Pat) (l:List Nat) (d:Nat),ds=[.ptr a,.int d]/\M=RdM a t k/\At t k (p.tl++124::(q.tl++41::l))/\d+j=6/\1<=j/\p.Wf/\q.Wf/\p.depth+d<=5/\q.depth+d<=5/\∀u u',FormOf p u->FormOf q u'->R (.obj "Over" [("above",u),("below",u')]) (RdM a t (k+p.tl.length+1+q.tl.length+1))
def vx(j:Nat):SpM:=λds M R _=>∃(a:KF) (t:Kq) (k:Nat) (x y:Int) (p:Pat) (l:List Nat) (d:Nat),ds=[.ptr a,.int d]/\M=RdM a t k/\At t k (numL x++44::(numL y++58::(p.tl++l)))/\d+j=6/\1<=j/\B12 x/\B12 y/\p.Wf/\p.depth+d<=5/\∀u,FormOf p u->R (.obj "Shifted" [("form",u),("x",.int x),("y",.int y)]) (RdM a t (k+(numL x).length+1+(numL y).length+1+p.tl.length))
def vy(j:Nat):SpM:=λds M R _=>∃(a:KF) (t:Kq) (k:Nat) (f g:Int) (p:Pat) (l:List Nat) (d:Nat),ds=[.ptr a,.int d]/\M=RdM a t k/\At t k ((48+f).toNat::(48+g).toNat::(p.tl++l))/\d+j=6/\1<=j/\(1<=f/\f<=6)/\(1<=g/\g<=6)/\p.Wf/\p.depth+d<=5/\∀u,FormOf p u->R (.obj "Rehue" [("form",u),("old",.int f),("new",.int g)]) (RdM a t (k+2+p.tl.length))
def Pat.cls_mem(p:Pat):p.cls∈(["Motif","Over","Shifted","Mirror","Turn","Rehue"]:List Kq):=by
 cases p<;>simp[Pat.cls]
variable{hu:List ((Int×Int)×Int)}
def mo_shifts{sh:D}:(moF k sh hu).lookup ("shifts":Kq)=be sh:=by
 unfold moF;rw[G4,show(("shifts":Kq)==("place":Kq))=false by decide+kernel];rfl
def CL{sh:D}:(moF k sh hu).lookup ("hues":Kq)=be (.dti hu):=by
 unfold moF;rw[G4,show(("hues":Kq)==("place":Kq))=false by decide+kernel,G4,show(("hues":Kq)==("shifts":Kq))=false by decide+kernel];rfl
def fF(h:(g==f)=false):(((f,u)::(g,v)::r:List (Kq×D))).lookup g=be v:=by
 rw[G4,h,G4,beq_self_eq_true]
def lm{e:Kq}{t:D}(h1:(g==e)=false)(h2:(g==f)=false):(((e,t)::(f,u)::(g,v)::r:List (Kq×D))).lookup g=be v:=by
 rw[G4,h1];exact fF h2
variable{w s:Int}
def Pat.Fits.small(h:p.Fits){k:Int}(f:p.Fam w k s):0<w/\w<=720/\0<k/\k<=720/\0<=s/\s<w:=by
 obtain⟨w',k',s',f',hb⟩:=h;obtain⟨rfl,rfl,rfl⟩:=f.uniq f';obtain⟨h1,h2⟩:=dB f.f.w0 f.f.h0;exact#[f.f.w0,KK,f.f.h0,KK,f.f.s0,f.f.sw]
def Pat.Fits.over_parts{q:Pat}(hp:p.Wf)(hq:q.Wf)(h:(Pat.over p q).Fits):p.Fits/\q.Fits:=by
 obtain⟨w,k,s,f,hb⟩:=h;obtain⟨w1,k1,s1,f1⟩:=Pat.fam_ex hp;obtain⟨w2,k2,s2,f2⟩:=Pat.fam_ex hq;have l1:=(InF.le f1.f.w0 f1.f.h0 f.f.w0 f.f.h0 (λx y z=>(f1.lat x y).mpr ((f.lat x y).mp z).1)).1;have l2:=(InF.le f2.f.w0 f2.f.h0 f.f.w0 f.f.h0 (λx y z=>(f2.lat x y).mpr ((f.lat x y).mp z).2)).1;exact#[#[w1,k1,s1,f1,KK],#[w2,k2,s2,f2,KK]]
variable{b:Int}
def Pat.Fits.of_sh(h:(Pat.sh a b p).Fits):p.Fits:=by
 obtain⟨w,k,s,f,hb⟩:=h;exact#[w,k,s,#[f.f,f.lat],hb]
def Pat.Fits.of_hue(h:(Pat.hue a b p).Fits):p.Fits:=by
 obtain⟨w,k,s,f,hb⟩:=h;exact#[w,k,s,#[f.f,f.lat],hb]
def Pat.Fits.of_mir(hp:p.Wf)(h:(Pat.mir p).Fits):p.Fits:=by
 obtain⟨w,k,s,f,hb⟩:=h;obtain⟨w1,k1,s1,f1⟩:=Pat.fam_ex hp;obtain⟨rfl,rfl,_⟩:=f.uniq f1.mir;exact#[_,_,_,f1,hb]
def Pat.Fits.of_tur(hp:p.Wf)(h:(Pat.tur p).Fits):p.Fits:=by
 obtain⟨w,k,s,f,hb⟩:=h;obtain⟨w1,k1,s1,f1⟩:=Pat.fam_ex hp;obtain⟨w',k',s',f',e⟩:=kZ (s:=s1) f1.f.w0 f1.f.h0;obtain⟨rfl,rfl,_⟩:=f.uniq (f1.tur f');exact#[_,_,_,f1,KK]
def bZ(j:Nat)(x:Kq):SpX:=λds R _=>∃(p:Pat) (v:D),ds=[v]/\FormOf p v/\p.Wf/\p.depth<j/\p.cls=x/\p.Fits/\∀w h s,p.Fam w h s->R (.tup [.int w,.int h,.int s])
def fG{x:Kq}:¬ofX (bZ 0 x) ds M R RX:=by
 rintro⟨_,_,_,_,_,h,_⟩;exact absurd h (IL _)
def lookD_app(x y v X Y:Int):∀kv:List ((Int×Int)×Int),lookD (kv++[((x,y),v)]) X Y=match lookD kv X Y with|some u=>be u|none=>if x=X/\y=Y then be v else v7
 |[]=>rfl
 |((a,b),h)::r=>by
  show lookD (((a,b),h)::(r++[((x,y),v)])) X Y=_;unfold lookD;by_cases e:a=X/\b=Y
  .rw[if_pos e,if_pos e]
  .rw[if_neg e,if_neg e];exact lookD_app x y v X Y r
def CM(kv:List ((Int×Int)×Int))(x y v X Y:Int):lookD (sdD kv x y v) X Y=match lookD kv X Y with|some u=>be u|none=>if x=X/\y=Y then be v else none:=by
 unfold sdD;split
 .rename_i hs;cases e:lookD kv X Y with
  |some u=>rfl
  |none=>
   show v7=_;rw[if_neg];rintro⟨rfl,rfl⟩;rw[e]at hs;cases hs
 .exact lookD_app x y v X Y kv
def look_row(w h s:Int)(j:Nat)(X Y:Int):∀(x:List Nat) (i:Nat) (kv:List ((Int×Int)×Int)),lookD (hRow w h s j i x kv) X Y=match lookD kv X Y with|some u=>be u|none=>(scanRow (λi=>decide (hmX w h s i j=X/\(j:Int)%h=Y)) i x).map λc=>(c:Int)-48
 |[],i,kv=>by
  rw[hRow,scanRow];cases lookD kv X Y<;>rfl
 |c::r,i,kv=>by
  rw[hRow,look_row w h s j X Y r (i+1),scanRow];by_cases w6:c=46
  .rw[if_pos w6,if_neg (c:=c≠46/\_) (λz=>z.1 w6)]
  .rw[if_neg w6,CM];cases lookD kv X Y with
   |some u=>rfl
   |none=>
    by_cases e:hmX w h s i j=X/\(j:Int)%h=Y
    .rw[if_pos (c:=c≠46/\_) #[w6,decide_eq_true e]];show(match (if hmX w h s i j=X/\(j:Int)%h=Y then be ((c:Int)-48)else v7)with|some u=>be u|none=>_)=_;rw[if_pos e];rfl
    .rw[if_neg (c:=c≠46/\_) (λz=>e (of_decide_eq_true z.2))];show(match (if hmX w h s i j=X/\(j:Int)%h=Y then be ((c:Int)-48)else v7)with|some u=>be u|none=>_)=_;rw[if_neg e]
def vz(w h s X Y:Int):∀(L:List Kq) (j:Nat) (kv:List ((Int×Int)×Int)),lookD (hAll w h s j (L.map cs) kv) X Y=match lookD kv X Y with|some u=>be u|none=>(bR (λi j=>decide (hmX w h s i j=X/\j%h=Y)) j L).map λc=>(c:Int)-48
 |[],j,kv=>by
  rw[HZ,hAll,bR];cases lookD kv X Y<;>rfl
 |x::r,j,kv=>by
  rw[G8,hAll,vz w h s X Y r (j+1),look_row,bR];cases lookD kv X Y with
  |some u=>rfl
  |none=>
   show(match (scanRow (λi=>decide (hmX w h s i j=X/\(j:Int)%h=Y)) 0 (cs x)).map (λc=>(c:Int)-48)with|some u=>be u|none=>_)=_;cases scanRow (λi=>decide (hmX w h s i j=X/\(j:Int)%h=Y)) 0 (cs x)<;>rfl
variable{h:Int}
def CN{c d:Int}(F:FamOf a b c d w h s)(hn:¬a*d=b*c)(x y i j:Int):decide (hmX w h s i j=hmX w h s x y/\j%h=y%h)=onB a b c d (x-i) (y-j):=by
 have hw:=F.1;have hh:=F.2.1;have key:(hmX w h s i j=hmX w h s x y/\j%h=y%h)↔InF w h s (x-i) (y-j):=by
  unfold hmX;constructor
  .rintro⟨e1,e2⟩;have dy:=Ie y h;have dj:=Ie j h;have m1:=Ie (x-y/h*s) w;have m2:=Ie (i-j/h*s) w;refine#[(x-y/h*s)/w-(i-j/h*s)/w,y/h-j/h,?_,?_]
   .rw[Jj,Jj,Hf ((x-y/h*s)/w) w,Hf ((i-j/h*s)/w) w];lia
   .rw[Jj,Hf (y/h) h,Hf (j/h) h];lia
  .rintro⟨m,q,ex,ey⟩;have Sh:y=j+q*h:=by lia
   have Qh:x=i+(m*w+q*s):=KK
   subst Qh Sh;rw[J2,J3 _ _ KK];refine#[?_,rfl];have e:i+(m*w+q*s)-(j/h+q)*s=i-j/h*s+m*w:=by rw[Jk];lia
   rw[e,J2]
 unfold onB;congr 1;apply propext;rw[key,F.lat];constructor
 .rintro⟨m,q,eu,ev⟩;exact ui eu ev
 .exact λz=>vc hn z
def CO(h:49<=c/\c<=54):cell [0,1,2,3,4,5,6] ((c:Int)-48)=(c:Int)-48:=by
 rcases(KK:c=49\/c=50\/c=51\/c=52\/c=53\/c=54)with e|e|e|e|e|e<;>subst e<;>rfl
def motif_shows{c d:Int}(hL:Rows L)(F:FamOf a b c d w h s)(hn:¬a*d=b*c)(x y:Int):(lookD (hAll w h s 0 (L.map cs) []) (hmX w h s x y) (y%h)).getD 0=(bu L a b c d).shows x y:=by
 rw[vz];show((bR (λi j=>decide (hmX w h s i j=hmX w h s x y/\j%h=y%h)) 0 L).map λc=>(c:Int)-48).getD 0=_;have e:(λi j=>decide (hmX w h s i j=hmX w h s x y/\j%h=y%h))=λi j=>onB a b c d (1*x+0*y+0-i) (0*x+1*y+0-j):=by
  funext i j;rw[CN F hn];congr 1<;>lia
 rw[e];show _=match bR (λi j=>onB a b c d (1*x+0*y+0-i) (0*x+1*y+0-j)) 0 L with|some c=>cell [0,1,2,3,4,5,6] ((c:Int)-48)|none=>0
 cases q:bR (λi j=>onB a b c d (1*x+0*y+0-i) (0*x+1*y+0-j)) 0 L with
 |none=>rfl
 |some c=>
  have hc:49<=c/\c<=54:=kX (λl' q=>let ⟨_,_,_,h⟩:=hL;(h l' q).2) q;exact(CO hc).symm
def ca(j:Nat)(x:Kq):SpX:=λds R _=>∃(p:Pat) (v:D) (X Y:Int),ds=[v,.int X,.int Y]/\FormOf p v/\p.Wf/\p.depth<j/\p.cls=x/\R (.int (p.show X Y))
def fH{x:Kq}:¬ofX (ca 0 x) ds M R RX:=by
 rintro⟨_,_,_,_,_,_,_,h,_⟩;exact absurd h (IL _)
structure PatOf(p:Pat)(w h s:Int)(fs:List (Str×D)):Prop extends Pat.Fam p w h s where
 form:∃v,fs.lookup ("form":Kq)=be v/\FormOf p v
 nl:noLF fs=true
def bp(p:Pat)(d:D):Prop:=∃w h s fs,d=.obj "Pattern" fs/\fs.lookup ("text":Kq)=be (.str p.text)/\fs.lookup ("shifts":Kq)=be (.tup [.int w,.int h,.int s])/\PatOf p w h s fs
def bc(x:Int):Prop:=-1000000000000<=x/\x<=1000000000000
def Pat.show_le(h:p.Wf)(hd:p.depth<=40)(x y:Int):0<=p.show x y/\p.show x y<=6:=by
 rw[<-Pat.show_leaves h hd];exact uw x y (Pat.leaf_ok h hd)
def aP(h:Int):Nat:=if h=0 then 46 else(48+h).toNat
def aK(p:Pat)(x y:Int)(n:Nat):Str:=#[((GS n).map λ(k:Nat)=>aP (p.show (x+(k:Int)) y)).toArray]
def cA(p:Pat)(x y:Int)(n:Nat):(aK p x y n).length=n:=by simp[aK,Str.length]
def vA(h0:0<=h)(h6:h<=6):atI (cs ".123456") h=be (aP h):=by
 rcases(KK:h=0\/h=1\/h=2\/h=3\/h=4\/h=5\/h=6)with e|e|e|e|e|e|e<;>subst e<;>decide+kernel
def range2_int{i j:Int}{x:D}(h:((GS (j-i).toNat).map λk=>D.int (i+((k:Nat):Int)))[k]?=be x):k<(j-i).toNat/\x=.int (i+(k:Int)):=by
 have hk:k<(j-i).toNat:=by simpa using(G1.mp h).1
 refine#[hk,?_];simp[hk]at h;exact h.symm
def vB:∀L:List Kq,cs (Str.join "" L)=L.flatMap cs
 |[]=>rfl
 |[x]=>by simp[Str.join]
 |x::y::r=>by
  show cs (x++""++Str.join "" (y::r))=_;rw[bD,bD,vB (y::r),uq];simp
def CP(f:Nat->Nat)(n:Nat):Str.join "" ((GS n).map λi=>(#[[f i].toArray]:Kq))=#[((GS n).map f).toArray]:=by
 apply gm;rw[vB,List.flatMap_map];show(GS n).flatMap (λi=>[f i])=(GS n).map f;rw[List.map_eq_flatMap]
def CQ:SiD:=λds R=>∃(t:Kq) (w h s:Int) (x:Kq) (fs:List (Kq×D)),ds=[.str t,.tup [.int w,.int h,.int s],.obj x fs]/\R [("text",.str t),("shifts",.tup [.int w,.int h,.int s]),("form",.obj x fs)]
def S_read:SpX:=λds R _=>∃p:Pat,ds=[.str p.text]/\p.Ok/\∀d,bp p d->R d
def S_read.mono{R R':D->Prop}{RX RX':XD}(h:S_read ds R RX)(hR:∀d,R d->R' d):S_read ds R' RX':=by
 obtain⟨p,e,ok,h⟩:=h;exact#[p,e,ok,λd i=>hR d (h d i)]
def vC{R:D->Prop}{RX:XD}(ok:p.Ok)(h:∀d,bp p d->R d):S_read [.str p.text] R RX:=#[p,rfl,ok,h]
def CS:SpX:=λds R RX=>∃x y:Int,ds=[.int x,.int y]/\(bc x/\bc y->R .non)/\(¬(bc x/\bc y)->RX "TooFar" [])
def CT:SpX:=λds R RX=>∃(p:Pat) (d:D) (x y:Int),ds=[d,.int x,.int y]/\bp p d/\p.Ok/\(bc x/\bc y->R (.int (p.show x y)))/\(¬(bc x/\bc y)->RX "TooFar" [])
def CU:SpD:=λds R=>∃(p:Pat) (d:D) (x y:Int) (n:Nat),ds=[d,.int x,.int y,.int n]/\bp p d/\p.Ok/\n<=1000/\bc x/\bc (x+n-1)/\bc y/\R (.str (aK p x y n))
def rowD(p:Pat)(x y:Int)(n:Nat):List D:=(GS n).map λ(i:Nat)=>D.str #[[aP (p.show (x+(i:Int)) y)].toArray]
def vD(p:Pat)(x y:Int)(k:Nat):rowD p x y k++[D.str #[[aP (p.show (x+(k:Int)) y)].toArray]]=rowD p x y (k+1):=by
 unfold rowD;rw[Im,Hl];rfl
variable{n:Nat}
def vE(p:Pat)(x y:Int)(hn:n<=1000):∃ys,cU (rowD p x y n)=be ys/\(ys.map (·.length)).sum+ys.length*("":Kq).length<=1000000/\Txt.join "" ys=aK p x y n:=by
 have e1:rowD p x y n=((GS n).map λ(i:Nat)=>(#[[aP (p.show (x+(i:Int)) y)].toArray]:Kq)).map D.str:=by unfold rowD;rw[Iq];rfl
 rw[e1];refine#[_,kW _,?_,(StrLaws.glued_eq_join _ _).trans (CP (λi=>aP (p.show (x+(i:Int)) y)) n)];rw[ut (w:=1) (λl hl=>by obtain⟨i,_,rfl⟩:=Hd.mp hl;rfl),GQ,Jl,show("":Kq).length=0 from rfl];lia
def CV{n:Int}:x.fmod n=0↔n∣x:=#[Int.dvd_of_fmod_eq_zero,Jc]
def CW(a b c d u v i j:Int):onB a b c d (u+(i*a+j*c)) (v+(i*b+j*d))=onB a b c d u v:=by
 unfold onB;have e1:(u+(i*a+j*c))*d-(v+(i*b+j*d))*c=(u*d-v*c)+(a*d-b*c)*i:=Mt
 have e2:a*(v+(i*b+j*d))-b*(u+(i*a+j*c))=(a*v-b*u)+(a*d-b*c)*j:=Mt
 rw[e1,e2];simp only[CV];have h1:(a*d-b*c∣u*d-v*c+(a*d-b*c)*i)↔a*d-b*c∣u*d-v*c:=J4 (J5 _ _);have h2:(a*d-b*c∣a*v-b*u+(a*d-b*c)*j)↔a*d-b*c∣a*v-b*u:=J4 (J5 _ _);simp only[h1,h2]
def Pat.Keeps(p:Pat)(X Y:Int):Prop:=∀x y,p.show (x+X) (y+Y)=p.show x y
def Pat.lat_keeps:∀{p:Pat} {X Y:Int},p.Lat X Y->p.Keeps X Y
 | .mot L a b c d,_,_,⟨i,j,rfl,rfl⟩,x,y=>by
  have e:∀u v:Int,onB a b c d (1*(x+(i*a+j*c))+0*(y+(i*b+j*d))+0-u) (0*(x+(i*a+j*c))+1*(y+(i*b+j*d))+0-v)=onB a b c d (1*x+0*y+0-u) (0*x+1*y+0-v):=λu v=>by
   rw[<-CW a b c d (1*x+0*y+0-u) (0*x+1*y+0-v) i j];congr 1<;>lia
  show Leaf.shows _ _ _=Leaf.shows _ _ _;unfold Leaf.shows Leaf.hit;simp only[bu,e]
 |.over p q,X,Y,h,x,y=>by
  simp only[Pat.show];rw[Pat.lat_keeps h.1 x y,Pat.lat_keeps h.2 x y]
 |.sh a b p,X,Y,h,x,y=>by
  have:=Pat.lat_keeps (p:=p) h (x-a) (y-b);simp only[Pat.show];rw[<-this];congr 1<;>lia
 |.mir p,X,Y,h,x,y=>by
  have:=Pat.lat_keeps (p:=p) h (-x) y;simp only[Pat.show];rw[<-this];congr 1;lia
 |.tur p,X,Y,h,x,y=>by
  have:=Pat.lat_keeps (p:=p) h y (-x);simp only[Pat.show];rw[<-this];congr 1;lia
 |.hue f g p,X,Y,h,x,y=>by
  simp only[Pat.show];rw[Pat.lat_keeps (p:=p) h x y]
def InF.one(w h s:Int):InF w h s w 0:=#[1,0,KK,KK]
def Pat.Fam.keeps{y:Int}(f:p.Fam w h s)(q:InF w h s x y):p.Keeps x y:=Pat.lat_keeps ((f.lat x y).mp q)
structure Pat.Kfam(p:Pat)(w h s:Int):Prop where
 f:Fam0 w h s
 keeps:∀{x y},InF w h s x y->p.Keeps x y
structure Pat.Least(p:Pat)(w h s:Int):Prop where
 f:Fam0 w h s
 lat:∀x y,InF w h s x y↔p.Keeps x y
def CY(hw:0<w)(hh:0<h)(x y:Int):InF w h s (x-hmX w h s x y) (y-y%h):=by
 have e1:=HS y h;have e2:=HS (x-y/h*s) w;refine#[(x-y/h*s)/w,y/h,?_,by rw[e1,Hf];lia];unfold hmX;rw[e2,Hf w];lia
def Pat.show_home(hw:0<w)(hh:0<h)(k:∀x y,InF w h s x y->p.Keeps x y)(x y:Int):p.show (hmX w h s x y) (y%h)=p.show x y:=by
 have:=k _ _ (CY (s:=s) hw hh x y) (hmX w h s x y) (y%h);rw[<-this];congr 1<;>lia
def CZ(f:Nat->Nat){w:Nat}(h:c<w):((GS w).map f).drop c++((GS w).map f).take c=(GS w).map λk=>f ((c+k)%w):=by
 apply HN;intro i;by_cases h1:i<w-c
 .rw[Hv (by simp;exact h1),Jn,GX,GX,Hs KK,Hs KK];simp[J6 (show c+i<w by lia)]
 .rw[HD Ta];simp only[HE,GQ,Jl];by_cases h2:i<w
  .rw[IC KK,GX,GX,Hs KK,Hs KK];have e:(c+i)%w=i-(w-c):=by
    rw[show c+i=(i-(w-c))+w by lia,Nat.add_mod_right,J6 KK]
   simp[e]
  .rw[Hr Ta,Hr Ta]
def gq(l:List Nat):cs (#[l.toArray]:Kq)=l:=Ln
def C0{c:Int}(ht:cs t=l)(c0:0<=c)(cl:c<l.length):Txt.slice t (be c) v7++Txt.slice t v7 (be c)=(#[(l.drop c.toNat++l.take c.toNat).toArray]:Kq):=by
 have hl:t.length=l.length:=by rw[<-ht,bb]
 apply gm;rw[bD,slice_cps,slice_cps,gq,gq,gq,show t.cps.toList=l from ht,hl];have e1:HT.sIx l.length 0 (be c)=c.toNat:=by show(if c<0 then _ else min c.toNat l.length)=_;rw[if_neg KK];lia
 have e2:HT.sIx l.length l.length v7=l.length:=rfl;have e3:HT.sIx l.length 0 v7=0:=rfl;have e4:HT.sIx l.length l.length (be c)=c.toNat:=by show(if c<0 then _ else min c.toNat l.length)=_;rw[if_neg KK];lia
 rw[e1,e2,e3,e4,IM,HQ Ln];rfl
def db(p:Pat)(x y:Int)(n:Nat):cs (aK p x y n)=(GS n).map λ(k:Nat)=>aP (p.show (x+(k:Int)) y):=gq _
def C1(hw:0<w)(hh:0<h)(k:∀x y,InF w h s x y->p.Keeps x y)(x y:Int):
  Txt.slice (aK p 0 (y%h) w.toNat) (be (hmX w h s x y)) v7++Txt.slice (aK p 0 (y%h) w.toNat) v7 (be (hmX w h s x y))=aK p x y w.toNat:=by
 have c0:0<=hmX w h s x y:=HG _ KK;have c1:hmX w h s x y<w:=HH _ hw;rw[C0 (db p 0 (y%h) w.toNat) c0 Ta,CZ _ KK];unfold aK;congr 2;apply Io;intro i _;have e:=Pat.show_home hw hh k (x+(i:Int)) y;rw[<-e];congr 2;have q:hmX w h s (x+(i:Int)) y=(hmX w h s x y+i)%w:=by
  unfold hmX;rw[Int.emod_add_emod];congr 1;lia
 rw[q,Ig,J7,Iu,Hg c0,Hg KK]
def gu(p:Pat)(w h:Int):D:=.lst ((GS h.toNat).map λ(y:Nat)=>D.str (aK p 0 (y:Int) w.toNat))
def C3:SpD:=λds R=>∃(p:Pat) (d:D),ds=[d]/\bp p d/\p.Ok/\∀w h s,p.Fam w h s->w*h<=720->w<=720->h<=720->R (gu p w h)
def C4:SpD:=λds R=>∃(p:Pat) (w h s x y:Int),ds=[.tup [.int w,.int h,.int s],gu p w h,.int x,.int y]/\p.Fam w h s/\w<=720/\h<=720/\R (.str (aK p x y w.toNat))
def C5(a0:0<=a)(a6:a<=6)(b0:0<=b)(b6:b<=6)(e:aP a=aP b):a=b:=by
 unfold aP at e;split at e<;>split at e<;>lia
structure Pat.LeastW(p:Pat)(w m:Int):Prop where
 lo:1<=m
 hi:m<=w
 md:w%m=0
 k:p.Keeps m 0
 l:∀d,1<=d->d<=w->w%d=0->p.Keeps d 0->m<=d
def C6:SpD:=λds R=>∃xs:List Int,ds=[.tup (xs.map D.int),.tup (xs.map D.int)]/\xs.length<=1000/\R (.bl true)
def sumN(g:Nat->Int):Nat->Int
 |0=>0
 |n+1=>sumN g n+g n
def dW{g f:Nat->Int}:∀{n:Nat},(∀k,k<n->g k=f k)->sumN g n=sumN f n
 |0,_=>rfl
 |n+1,h=>by rw[sumN,sumN,dW λk hk=>h k KK,h n KK]
def io(g:Nat->Int)(n:Nat):∀m:Nat,sumN g (n+m)=sumN g n+sumN (λk=>g (n+k)) m
 |0=>by simp[sumN]
 |m+1=>by rw[<-Nat.add_assoc,sumN,sumN,io g n m];lia
def vF(g f:Nat->Int):∀n:Nat,sumN (λk=>g k+f k) n=sumN g n+sumN f n
 |0=>rfl
 |n+1=>by simp only[sumN,vF g f n];lia
variable{N:Nat}
def C7{g:Nat->Int}(hN:0<N)(LQ:∀k,g (k+N)=g k)(n:Nat):sumN (λj=>(((n:Int)-1-j)/N+1)*g j) (min n N)=sumN g n:=by
 induction n using Nat.strongRecOn with
 |ind n ih=>
  by_cases h:n<=N
  .rw[Ih h];refine dW λk hk=>?_;rw[J8 KK KK];simp
  .have e1:n=N+(n-N):=by lia
   have i:=ih (n-N) KK;have O1:sumN (λk=>g (N+k)) (n-N)=sumN g (n-N):=dW λk _=>by rw[Jh];exact LQ k
   rw[IN KK];have e2:sumN g n=sumN g N+sumN g (n-N):=by
    conv=>lhs;rw[e1]
    rw[io,O1]
   rw[e2,<-i];have e3:min (n-N) N+(N-min (n-N) N)=N:=KK
   have split:∀f:Nat->Int,sumN f N=sumN f (min (n-N) N)+sumN (λk=>f (min (n-N) N+k)) (N-min (n-N) N):=λf=>by
    conv=>lhs;rw[<-e3]
    exact io _ _ _
   rw[split,split g];have a:sumN (λj=>(((n:Int)-1-j)/N+1)*g j) (min (n-N) N)=sumN g (min (n-N) N)+sumN (λj=>((((n-N:Nat):Int)-1-j)/N+1)*g j) (min (n-N) N):=by
    rw[<-vF];refine dW λk hk=>?_;have q:((n:Int)-1-k)/N=(((n-N:Nat):Int)-1-k)/N+1:=by
     rw[show((n:Int)-1-k)=(((n-N:Nat):Int)-1-k)+1*N by lia,J3 _ _ KK]
    rw[q,Jk];lia
   have b:sumN (λk=>(((n:Int)-1-((min (n-N) N+k:Nat):Int))/N+1)*g (min (n-N) N+k)) (N-min (n-N) N)=sumN (λk=>g (min (n-N) N+k)) (N-min (n-N) N):=by
    refine dW λk hk=>?_;rw[J8 KK KK];simp
   rw[a,b];lia
def cntN(f:Nat->Int)(v:Int)(n:Nat):Int:=sumN (λk=>if f k=v then 1 else 0) n
def vG(f:Nat->Int)(v:Int):∀n,0<=cntN f v n/\cntN f v n<=n
 |0=>by simp[cntN,sumN]
 |n+1=>by
  have:=vG f v n;unfold cntN at this ⊢;rw[sumN];split<;>lia
def C8{f:Nat->Int}{w:Nat}(hw:0<w)(LQ:∀k,f (k+w)=f k)(v:Int)(m:Nat):((m/w:Nat):Int)*cntN f v w+cntN f v (m%w)=cntN f v m:=by
 have key:∀q r:Nat,cntN f v (w*q+r)=(q:Int)*cntN f v w+cntN f v r:=λq=>by
  have sh:∀q k,f (w*q+k)=f k:=λq=>by
   induction q with
   |zero=>intro k;rw[Nat.mul_zero,Jo]
   |succ q ih=>intro k;rw[J9,show w*q+w+k=w*q+k+w by lia,LQ];exact ih k
  induction q with
  |zero=>intro r;simp
  |succ q ih=>
   intro r;rw[J9,show w*q+w+r=w*q+(w+r)by lia,ih,Iu,Jk];have e:cntN f v (w+r)=cntN f v w+cntN f v r:=by
    unfold cntN;rw[io];congr 1;refine dW λk _=>?_;rw[Jh w k,LQ]
   rw[e];simp;lia
 have:=key (m/w) (m%w);rw[Nat.div_add_mod]at this;exact this.symm
def ip(y:Kq)(c:Nat):∀(m a:Nat) (st:Array Nat×Nat),a+m=y.length+1->st.2<=a->st.1.size<=a->(forIn (List.range' a m) st (StrLaws.occBody y #[[c].toArray] y.length (y.length+1))).run.fst.size=st.1.size+(((cs y).drop a).filter (·==c)).length
 |0,a,st,h,_,_=>by
  rw[Jp (by rw[bb];lia)];rfl
 |m+1,a,st,h,h1,h2=>by
  have l1:(#[[c].toArray]:Kq).length=1:=rfl;have q:=StrLaws.subAt_eq y #[[c].toArray] a;rw[List.range'_succ,IW];by_cases ha:a<y.length
  .have hd:(cs y).drop a=(cs y)[a]'(by rw[bb];exact ha)::(cs y).drop (a+1):=HX (by rw[bb];exact ha);rw[show y.cps.toList.drop a=_ from hd,l1]at q;rw[hd,List.filter_cons];by_cases e:(cs y)[a]'(by rw[bb];exact ha)=c
   .have eb:StrLaws.occBody y #[[c].toArray] y.length (y.length+1) a st=pure (.yield (st.1.push a,a+1)):=by
     unfold StrLaws.occBody;rw[if_pos #[#[#[KK,h1],by rw[l1];lia],by rw[q];simp[e]],l1]
    rw[eb];have:=ip y c m (a+1) (st.1.push a,a+1) KK (GO _) Ta;simp only[e,beq_self_eq_true,if_true,GV];refine Eq.trans this ?_;simp only[Array.size_push];lia
   .have eb:StrLaws.occBody y #[[c].toArray] y.length (y.length+1) a st=pure (.yield (st.1,st.2)):=by
     unfold StrLaws.occBody;rw[if_neg];rintro⟨_,z⟩;rw[q]at z;simp at z;exact e z
    rw[eb];have:=ip y c m (a+1) st KK KK KK;rw[if_neg (by simpa using e)];exact this
  .have eb:StrLaws.occBody y #[[c].toArray] y.length (y.length+1) a st=pure (.yield (st.1,st.2)):=by
    unfold StrLaws.occBody;rw[if_neg];rintro⟨⟨_,z⟩,_⟩;rw[l1]at z;lia
   rw[eb];have:=ip y c m (a+1) st KK KK KK;rw[Jp (by rw[bb];lia)];rw[Jp (by rw[bb];lia)]at this;exact this
def C9(y:Kq)(c:Nat):(Builtin.Str.occurrences y #[[c].toArray] 0 y.length (y.length+1)).length=((cs y).filter (·==c)).length:=by
 rw[StrLaws.occ_eq,Iz,ip y c _ 0 _ KK (GO _) (GO _)];simp
def vH(f:Nat->Int)(b:∀k,0<=f k/\f k<=6){v:Int}(v0:0<=v)(v6:v<=6):∀n:Nat,(((((GS n).map λk=>aP (f k)).filter (·==aP v)).length:Nat):Int)=cntN f v n
 |0=>rfl
 |n+1=>by
  rw[Im,Hl,List.filter_append,G0,Iu,vH f b v0 v6 n];show _=cntN f v n+_;congr 1;by_cases e:f n=v
  .simp[e]
  .have:¬aP (f n)=aP v:=λz=>e (C5 (b n).1 (b n).2 v0 v6 z);simp[this,e]
def Da(ok:p.Ok)(x y:Int){v:Int}(v0:0<=v)(v6:v<=6)(n:Nat):(((cs (aK p x y n)).filter (·==aP v)).length:Int)=cntN (λk=>p.show (x+k) y) v n:=by
 rw[db];exact vH _ (λk=>Pat.show_le ok.wf (by have:=ok.deep;lia) _ _) v0 v6 n
def Db(p:Pat)(x y:Int){r:Nat}(h:r<=n):Txt.slice (aK p x y n) v7 (be (r:Int))=aK p x y r:=by
 apply gm;rw[slice_cps,gq,db,show(aK p x y n).cps.toList=_ from db p x y n,cA];have e1:HT.sIx n 0 v7=0:=rfl;have e2:HT.sIx n n (be (r:Int))=r:=by show(if(r:Int)<0 then((r:Int)+n).toNat else min (r:Int).toNat n)=r;rw[if_neg KK];lia
 rw[e1,e2,IM,Jq,<-Ka,Kb,Ih h]
def occC(t:Kq)(c:Nat):Int:=((Builtin.Str.occurrences t #[[c].toArray] 0 t.length (t.length+1)).length:Nat)
def vI(ok:p.Ok)(x y:Int){v:Int}(v0:0<=v)(v6:v<=6)(n:Nat):occC (aK p x y n) (aP v)=cntN (λk=>p.show (x+k) y) v n:=by
 unfold occC;rw[C9,Da ok x y v0 v6]
def cK(p:Pat)(v left top:Int)(m n:Nat):Int:=sumN (λj=>cntN (λk=>p.show (left+k) (top+j)) v m) n
def cL(p:Pat)(left top:Int)(m n:Nat):List Int:=(GS 7).map λ(v:Nat)=>cK p v left top m n
def Dc:SpD:=λds R=>∃(p:Pat) (x y v m:Int) (w:Nat),ds=[.str (aK p x y w),.str #[[aP v].toArray],.int m]/\p.Ok/\0<=v/\v<=6/\0<w/\w<=720/\0<=m/\m<2^63/\p.Keeps w 0/\R (.int (cntN (λk=>p.show (x+k) y) v m.toNat))
def Pat.Fam.across(F:p.Fam w h s):p.Keeps w 0:=F.keeps (InF.one w h s)
def Pat.Fam.down(F:p.Fam w h s):p.Keeps 0 (w*h):=F.keeps #[-s,w,by rw[Je,Hf w s];lia,rfl]
def Dd(hN:0<N)(k:p.Keeps 0 N)(v left top:Int)(m n:Nat):sumN (λj=>(((n:Int)-1-j)/N+1)*cntN (λk=>p.show (left+k) (top+j)) v m) (min n N)=cK p v left top m n:=by
 refine C7 (g:=λj=>cntN (λk=>p.show (left+k) (top+j)) v m) hN (λj=>?_) n;unfold cntN;refine dW λi _=>?_;have e:p.show (left+i) (top+((j+N:Nat):Int))=p.show (left+i) (top+j):=by
  have:=k (left+i) (top+j);rw[Iv]at this;rw[<-this,Iu,Jr]
 simp only[e]
def vJ{α:Type}(f g:Nat->α)(h:∀v,v<n->v≠i->g v=f v):((GS n).map f).set i (g i)=(GS n).map g:=by
 apply HN;intro k;rw[HM];by_cases hk:i=k
 .subst hk;simp only[if_true,GQ,Jl];by_cases hi:i<n
  .simp[hi]
  .simp[hi]
 .rw[if_neg hk];by_cases hi:k<n
  .simp[hi,h k hi (Ne.symm hk)]
  .simp[hi]
def De:bP ".123456"=(GS 7).map λ(v:Nat)=>D.str #[[aP (v:Int)].toArray]:=by
 unfold bP;rw[show(".123456":Kq).cps.toList=[46,49,50,51,52,53,54]by decide+kernel];rfl
def cj(p:Pat)(left top:Int)(m n N k:Nat)(v:Int):Int:=sumN (λj=>(((n:Int)-1-j)/N+1)*cntN (λi=>p.show (left+i) (top+j)) v m) k
variable{top a_:Int}
def Df{W:Int}(hn:(a_-top+1).toNat=n)(wN:W=(N:Int)):((if top+W<a_+1 then top+W else a_+1)-top).toNat=min n N:=by split<;>lia
def Dg{W:Int}(a:-1000000000000<=top/\top<=1000000000000)(c:-1000000000000<=a_/\a_<=1000000000000)(w0:0<W)(w1:W<=720):-(2^62)<=top/\top<2^62/\-(2^62)<=(if top+W<a_+1 then top+W else a_+1)/\(if top+W<a_+1 then top+W else a_+1)<2^62:=by split<;>lia
def Dh(hn:(a_-top+1).toNat=n)(hk:k<min n N):a_-(top+k)=(n:Int)-1-k:=KK
def vK{l r:Int}{m:Nat}(a:-1000000000000<=l/\l<=1000000000000)(b:-1000000000000<=r/\r<=1000000000000)(h:(r-l+1).toNat=m):m<=2000000000001:=KK
def Di(x:Int):(if 0>x then 0 else x)=(x.toNat:Int):=by split<;>lia
def Dj:SpX:=λds R RX=>∃(p:Pat) (d:D) (left top right a_:Int),ds=[d,.int left,.int top,.int right,.int a_]/\bp p d/\p.Ok/\(bc left/\bc top/\bc right/\bc a_->R (.lst ((cL p left top (right-left+1).toNat (a_-top+1).toNat).map D.int)))/\(¬(bc left/\bc top/\bc right/\bc a_)->RX "TooFar" [])
structure Mv(p q:Pat)(b0 b1 b2 b3:Int):Prop where
 keeps:∀X Y,q.Keeps X Y↔p.Keeps (b0*X+b1*Y) (b2*X+b3*Y)
 leaf:∀l ls,p.leaves=l::ls->∃l' ls',q.leaves=l'::ls'/\l'.w0=l.w0*b0+l.w1*b2/\l'.w1=l.w0*b1+l.w1*b3/\l'.w2=l.w2*b0+l.w3*b2/\l'.w3=l.w2*b1+l.w3*b3
 area:∀w h s,p.Least w h s->∃w' h' s',q.Least w' h' s'/\w'*h'=w*h
structure Side(a w:Int)(A t:Nat):Prop where
 n:bc a
 A4:A<=4000000000000
 t1:t<=1000
 e:bc (a+A*w+t-1)
end My
end
section
open PySem PySem.Spec PyProof.Rows L2
namespace My
open Exc
section
variable {X:Cx}[J:Jm]{a b c e:SZ}{ta tb te:TME}{pos:Ub}
def mTru(te:TME):TMT:=λz M R=>te z M λd M1=>match d with|.bl k=>R k M1|_=>False
abbrev TMO:=SD->MS->(Option Int->MS->Prop)->Prop
def Dk:TMO:=λ_ M R=>R v7 M
def Dl(te:TME):TMO:=λz M R=>te z M λx M1=>match x with|.int i=>R (be i) M1|_=>False
def mO(K:Ex)[J:Jm](t:TMO):TO:=λs H Q=>∃F z M,Kept J.B J.F0 F H/\RepZ K J.B F H z s M/\∃R:Option Int->MS->Prop,t z M R/\∀o M' F' H',GrowM M M' F H F' H'->R o M'->RepM K F' H' M'->Q o H'
structure MPO(X:Cx)[Jm](e:Option SZ)(t:TMO):Prop where
 out:PO X e (mO X.K t)
def vL:MPO X v7 Dk:=⟨PO.anti jU λs H Q q=>by
 obtain⟨F,z,M,k,rs,R,h1,h2⟩:=q;exact h2 v7 M F H (GrowM.refl k.fh) h1 rs.rm⟩
def vM(he:ME X e te):MPO X (be e) (Dl te):=⟨PO.anti (jV he.out) λs H Q q=>by
 obtain⟨F,z,M,k,rs,R,h1,h2⟩:=q;refine#[F,z,M,k,rs,_,h1,λx u M1 F1 H1 g1 hx rx m1=>?_];split at hx
 .exact#[_,rep_int.mp rx,h2 _ M1 F1 H1 g1 hx m1]
 .exact hx.elim⟩
def mSl(ta:TME)(tl th:TMO):TME:=λz M R=>ta z M λx M1=>tl z M1 λlo M2=>th z M2 λhi M3=>rdSl x lo hi λd=>R d M3
def Dm{lo hi:Option SZ}{tl th:TMO}{p2:Ub}(ha:ME X a ta)(hl:MPO X lo tl)(hu:MPO X hi th):ME X (.Subscript a (.Slice lo hi v7 p2) pos) (mSl ta tl th):=⟨(gL (SlR.or tG (SlR.or gM rq)) ha.out hl.out hu.out).anti λs H Q q=>by
 obtain⟨F,z,M,k,rs,R,h1,h2⟩:=q;refine#[F,z,M,k,rs,_,h1,λx u M1 F1 H1 g1 hx rx m1=>?_];have k1:=k.growM rs.mb g1;have r1:=rs.growM k.bh g1 m1;refine#[F1,z,M1,k1,r1,_,hx,λlo M2 F2 H2 g2 hy m2=>?_];refine#[F2,z,M2,k1.growM r1.mb g2,r1.growM k1.bh g2 m2,_,hy,λhi M3 F3 H3 g3 hw m3=>?_];have g:=g1.trans (g2.trans g3);have KI:=(rx.mono g2.ff).mono g3.ff;unfold rdSl at hw;split at hw
 .exact .inl #[_,rep_str.mp KI,GY hw.1 Lj,h2 _ _ M3 F3 H3 g hw.2 (rep_str.mpr rfl) m3]
 .obtain⟨l,vs,rfl,hq,rr⟩:=rep_lst.mp KI;refine .inr (.inl #[l,vs,rfl,SqL.of (g3.fh _ _ hq),λp hp=>?_]);exact h2 _ _ M3 _ _ (g.trans (Grow.new g3.fh hp _).toM) hw (rep_lst.mpr #[p,_,rfl,aA,(rr.cut _ _).mono (aO (g3.fh.free hp) _)]) (m3.grow (Grow.new g3.fh hp _))
 .obtain⟨l,vs,rfl,hq,rr⟩:=rep_rol.mp KI;refine .inr (.inl #[l,vs,rfl,g3.fh.seq hq,λp hp=>?_]);exact h2 _ _ M3 _ _ (g.trans (Grow.new g3.fh hp _).toM) hw (rep_lst.mpr #[p,_,rfl,aA,(rr.cut _ _).mono (aO (g3.fh.free hp) _)]) (m3.grow (Grow.new g3.fh hp _))
 .obtain⟨l,vs,rfl,hq,rr⟩:=rep_tup_mp KI;refine .inr (.inr #[l,vs,rfl,g3.fh.tup hq,by rw[rr.length];exact hw.1,λp hp=>?_]);exact h2 _ _ M3 _ _ (g.trans (Grow.new g3.fh hp _).toM) hw.2 (rep_tupS.mpr #[p,_,rfl,aA,(rr.cut _ _).mono (aO (g3.fh.free hp) _)]) (m3.grow (Grow.new g3.fh hp _))
 .exact hw.elim⟩
end
end My
namespace Exc
open PySem PySem.Spec PyProof.Rows PySem.W L2
section
variable {prog:T3}{w:T5}{A:T6}{E:KB->Os->Prop}{s:Os}{K:Ex}{x C dx:KF}{ox:Uj}{cd:Vq}{name:Kq}{v:KB}{vs:Array KB}{mA:Kq->Option KB}{ns:List Kq}
def Dn{Q:Unit->Os->Prop}(X:K.In s.heap)(hx:s.heap.get? x=be ox)(g9:ox.cls=.ref C)(z8:ox.data=.fields vs)(hd:ox.dict=be dx)(QR:s.heap.Ns1 dx mA)(hw:PySem.Within mA ns)(hz:ns.length<=1000)(hc:clsIn K C=be cd)(hm:aN cd.mro=true)(hh:cd.hasDict=true)
  (hs:findIn K (.ref C) "__setattr__"=be (be (.builtin "object.__setattr__"))) (hf:findIn K (.ref C) name=be v7)
  (h:∀h',h'.Ns1 dx (λy=>if y=name then be v else mA y)->Heap.SameBut dx s.heap h'->∀tk,Q () {s with heap:=h',toks:=tk}):
  T4 (SL prog w) A (VS (.ref x) name v) Q E s:=by
 have hn:notCls ox=true:=by unfold notCls;rw[z8]
 obtain⟨od,es,ep,O2,K2⟩:=id QR;have I:InstAt s.heap x ox C (be od):=#[hx,g9,hn,by rw[hd];exact O2];refine set_plain X I hs ?_;have SF:=PySem.F.store_object;have ne:cd.mro.isEmpty=false:=Oi
 have sub:Looks (SL prog w) s.heap (U5 (.ref x) (.type "object")) true:=I.type.andThen (looks_mroIn X Tb);refine UJ SF.slot.plain SF.entry (@check_slot (SL prog w) _ _ _ "object.__setattr__" "object" "__setattr__" (.ref x) [.str name s.toks,v] [] _ SF.kind SF.split sub (SF.args (.ref x) (.str name s.toks) v) ?_);have Lk:Looks (SL prog w) s.heap (mroOf (.ref C)) cd.mro:=(looks_clsIn X hc).andThen .now;rw[osa_eq,refuse_eq];refine KM (KM (I.type.here (s:={s with toks:=s.toks+1}) (KM (Lk.here (s:={s with toks:=s.toks+1}) ?_))));rw[kd _ hm];refine P3 (KM (I.type.here (s:={s with toks:=s.toks+1}) (KM ((looks_findIn X hf).here (s:={s with toks:=s.toks+1}) (KM (Looks.now.here (s:={s with toks:=s.toks+1}) ?_))))));obtain⟨oc,Qz,QA,osl⟩:=ox;dsimp only at g9 hd z8;subst g9 hd z8;refine KM (P3 (KM (KM (Vf hx (KM ((looks_clsIn X hc).here (s:={s with toks:=s.toks+1}) ?_))))));rw[hh];rw[if_neg Lj];refine P3 ?_;show T4 _ _ (Builtin.ObjectAttr.storeInDict dx (.str name s.toks) name v) _ _ _;unfold Builtin.ObjectAttr.storeInDict Builtin.ObjectAttr.newKeyGuard;refine KM (P3 (KM (Vr QR λh' g8 hs=>?_)));obtain⟨oD,Qo,Qp,Mi,Mj,Ml⟩:=g8.count (PySem.Within.cons name v hw);refine KM (U9 Mi (by rw[Mj];exact U_ (GY Ml (by rw[GV,US];lia))) ?_);exact P3 (h h' g8 hs _)
end
end Exc
namespace My
open Exc
section
variable {X:Cx}[J:Jx]{x f:Kq}{e:SZ}{te:TD}{pos b_ p:Ub}{rest:List SB}{tr:TID}
def vN{β:Type}{y:Kq}{z:β}:∀{ws:List (Kq×β)},ws.lookup y=be z->y∈ws.map (·.1)
 |[],h=>nomatch h
 |(g,d)::ws,h=>by
  rw[G4]at h;split at h
  .rename_i hg;rw[G8,show y=g by simpa using hg];exact GU
  .exact GR _ (vN h)
def Do(f:Kq)(te:TD)(tr:TID):TID:=λz fs R=>(fs≠[]/\fs.length<=100)/\te z λd=>tr z ((f,d)::fs) R
def Dp{sx:Kq}{ps:Ub}(hA:∃C cd,ErrA X.K x C cd)(hf:∀C,nsIn X.K Pi x=be (be (.ref C))->GT X.K (.ref C) f=be v7)(he:WDE X e te)(hr:WDX X x rest tr)(hN:autoParam (X.N[0]?=be sx) zA0)(hv:autoParam (Vis X.env.scope sx) zA5)(hd:autoParam (zND sx) zA1)
  (gt:autoParam (zNC sx) zA1) (hs:autoParam (Uh e (be (.Attribute (.Name sx ps) f b_)) pos.line X.env=pure false) zA0):WDX X x (.Assign [.Attribute (.Name sx ps) f b_] e pos::rest) (Do f te tr):=⟨by
 have he:=he.out;have hr:=hr.out;obtain⟨C,cd,er⟩:=hA;have Ls:=hf C er.ns;have step:PS X (.Assign [.Attribute (.Name sx ps) f b_] e pos) (λE σ H=>∃e b ws,σ[0]?=be (be (.ref e))/\
   lE X.K te σ H (λv H1=>H1 e=be (XN e C (be b))/\H1 b=be (.xd ws)/\ws.length<=100/\E.nx σ (upd H1 b (.xd ((f,v)::ws))))):=by
  intro pins s σ H D I h;obtain⟨ea,b,ws,h0,h⟩:=h;refine UE (thn (he pins s σ H _ I h) λu s1 ⟨y,H1,I1,ry,t_,hb,hl,Lr⟩=>thn (cO (i:=0) hN hv hd gt pins s1 σ H1 (λv H'=>v=.ref ea/\H'=H1) I1 #[.ref ea,h0,rfl,rfl]) λov s2 hh=>?_) hs;obtain⟨v0,H2,I2,r0,e1,e2⟩:=hh;subst e1 e2;obtain rfl:ov=Value.ref ea:=r0;obtain⟨t0,sl,j3⟩:=XN.get I2.hok t_;obtain⟨mA,hns,rel⟩:=(show ObjOk X.prog X.w H2 s2.heap b (.xd ws)from I2.hok b _ hb);have hw:PySem.Within mA (ws.map (·.1)):=λy' hy=>by
   have:=rel y';cases hq:ws.lookup y' with
   |none=>
    rw[hq]at this;cases hm:mA y' with
    |none=>exact absurd hm hy
    |some z=>rw[hm]at this;exact this.elim
   |some z=>exact vN hq
  refine Dn (K:=X.K) (C:=C) (cd:=cd) I2.kIn j3 rfl rfl rfl hns hw (by rw[GQ];lia) er.cl er.mro er.hd er.sa Ls λh' g1 g2 tk=>?_;obtain⟨od,es,ep,O2,Ts⟩:=id g1;have O3:∀c,H2 c=v7->c≠b:=λc q z=>by rw[z,hb]at q;cases q
  have z_:∀c o,H2 c=be o->(∀fs,o≠.xd fs)->upd H2 b (.xd ((f,y)::ws)) c=be o:=λc o q n=>by
   have n1:c≠b:=λz=>by rw[z,hb]at q;cases q;exact n _ rfl
   rw[ar n1];exact q
  refine#[σ,_,?_,Lr];refine I2.un (h':=h') (t':=tk) #[λc o q n _ _=>(g2.2 c (O3 c n)).trans q,λc o q n _ _=>#[o.slots,(g2.2 c (O3 c n)).trans q],λc o q n _=>?_,λc o q _=>?_,λc xs q=>z_ c _ q (λφ z=>nomatch z),λc o u q=>z_ c _ q (λφ z=>nomatch z),λc ps q=>#[[].toArray,by rw[z_ c _ q (λφ z=>nomatch z)];simp]] λa o q=>?_
  .rw[ar (O3 c n)];exact n
  .by_cases hc:c=b
   .rw[hc];exact#[od,O2]
   .exact#[o,(g2.2 c hc).trans q]
  .by_cases hc:a=b
   .subst hc;rw[aA]at q;cases q;refine#[_,g1,λg=>?_];rw[G4];by_cases hg:g=f
    .subst hg;simp;exact ry
    .have:(g==f)=false:=by simpa using hg
     rw[this,if_neg hg];exact rel g
   .rw[ar hc]at q;refine(I2.hok a o q).stay (λc u gV r=>?_) (λc r=>z_ c _ r (λφ z=>nomatch z)) λc xs r=>z_ c _ r (λφ z=>nomatch z);refine(g2.2 c λz=>?_).trans r;rcases gV with e1|e1
    .exact hc (e1 ▸ z)
    .rw[z,hb]at e1;cases e1
 refine(eI step hr).anti λE s H q=>?_;obtain⟨C',a,od,ws,F,z,fs,hn,h0,e8,hB,i8,k,rs,rf,e_,R,⟨⟨j9,hl⟩,hR⟩,kk⟩:=q;rw[er.ns]at hn;cases hn;rcases e_ with⟨_,rfl⟩|⟨b,rfl,h1,h2,h3,h4,h5⟩
 .cases fs with
  |nil=>exact absurd rfl j9
  |cons c fs=>obtain⟨g,d⟩:=c;obtain⟨v,r,h,_⟩:=repf_cons.mp rf;cases h
 refine#[a,b,ws,h0,_,F,z,k,rs,_,hR,λd v F1 H1 g hx rv=>#[g.hh a _ e8,g.hh b _ h1,?_,?_]]
 .have:∀{fs:List (Kq×D)} {ws:List (Kq×V)},RepF X.K F fs ws->ws.length=fs.length:=λ{fs}=>by
   induction fs with
   |nil=>intro ws r;rw[repf_nil.mp r];rfl
   |cons c fs ih=>obtain⟨g,d⟩:=c;intro ws r;obtain⟨v,r',rfl,_,h⟩:=repf_cons.mp r;rw[GV,GV,ih h]
  rw[this rf];exact hl
 .have Si:=g.hh b _ h1;have Lq:F1 b=none:=g.out b h3 (by rw[h1];exact λz=>nomatch z);have KE:F1 a=none:=g.out a i8 (by rw[e8];exact λz=>nomatch z);have k1:=k.grow g;have n4:=rs.grow g;have Vc:∀{G:Hp},G b=v7->Same G H1->Same G (upd H1 b (.xd ((f,v)::ws))):=λ{G} gb gs c o q=>by
   have n2:c≠b:=λz=>by rw[z,gb]at q;cases q
   rw[ar n2];exact gs c o q
  refine#[C,a,be b,(f,v)::ws,F1,z,(f,d)::fs,er.ns,h0,by rw[ar (Ne.symm h4)];exact g.hh a _ e8,hB,KE,#[Vc h2 k1.bh,Vc Lq k1.fh,k1.f0,k1.out,k1.eb,k1.jf,k1.jo],?_,repf_cons.mpr #[v,ws,rfl,rv,RepF.mono g.ff fs ws rf],.inr #[b,rfl,aA,h2,Lq,h4,λz=>nomatch z],R,hx,kk];refine#[n4.len,n4.val,λi ds e'=>?_,n4.apart];obtain⟨c,vs,q1,q2,q⟩:=n4.own i ds e';have n2:c≠b:=λz=>by rw[z,Si]at q2;cases q2
  exact#[c,vs,q1,by rw[ar n2];exact q2,q]⟩
end
def subM(N M:MS):Prop:=(∀e,e∈N->e∈M)/\(au N).Nodup
variable{M:MS}
def subM.keys{N:MS}(s:subM N M){a:KF}(h:a∈au N):a∈au M:=by
 obtain⟨⟨b,o⟩,h1,rfl⟩:=Hd.mp h;exact bW (s.1 _ h1)
variable{H:Hp}
def RepM.sub{K:Ex}{F:Hp}{N:MS}(r:RepM K F H M)(s:subM N M):RepM K F H N:=#[s.2,λa o h=>r.ok a o (s.1 _ h),λa h=>r.fr a (s.keys h)]
def GrowM.sub{F F' H':Hp}{N M':MS}(g:GrowM M M' F H F' H')(s:subM N M'):GrowM M N F H F' H':=#[g.ff,g.fh,g.hh,g.out,λb h=>g.ks b (s.keys h)]
def gv(S:SpM):SpM:=λds M R RX=>∃(R0:D->MS->Prop) (KJ:XDM),S ds M R0 KJ/\R=(λd M'=>∃N,subM N M'/\R0 d N)/\RX=λx fs M'=>∃N,subM N M'/\KJ x fs N
def vO{K:Ex}{S:SpM}{vs:List V}{Q:VK}{E:XK}(h:lSpM K S vs H Q E):lSpM K (gv S) vs H Q E:=by
 obtain⟨F,ds,M,fh,rs,rm,R,RX,hS,q,qx⟩:=h;refine#[F,ds,M,fh,rs,rm,_,_,#[R,RX,hS,rfl,rfl],λd v M' F' H' g hd rd m'=>?_,λx fs C od M' F' H' g hR er m'=>?_]
 .obtain⟨N,s,hd⟩:=hd;exact q d v N F' H' (g.sub s) hd rd (m'.sub s)
 .obtain⟨N,s,hR⟩:=hR;exact qx x fs C od N F' H' (g.sub s) hR er (m'.sub s)
section
variable {P:T3}{w:T5}{K:Ex}{mg:Kq->Option KB}{base:Heap}{n:Nat}{x m:Kq}{ps:List Kq}{S:SpM}
def CalMth.drop(C:CalMth P w K mg base n x m ps (lSpM K (gv S))):CalMth P w K mg base n x m ps (lSpM K S):=C.imp λ_ _ _ _ h=>vO h
def CalMth.lendD{S:SpD}(C:CalMth P w K mg base n x m ps (lSp K S)):CalMth P w K mg base n x m ps (lSpM K (My.lend λds R _=>S ds R)):=C.imp λ_ _ _ _ h=>by
 obtain⟨F,ds,fh,rs,R,RX,hS,q,_⟩:=A7 h;exact#[F,ds,fh,rs,R,hS,q]
def Txm.okDW{qual:Kq}{st:SB}{N:List Kq}{k:Nat}{S:SpD}(T:Txm K x m qual st ps)(F:FnScope N ps (ah st))(len:∀ds R,S ds R->ds.length=ps.length)
  (a8:∀(f:KF) (cdv:KB) (A:T6) (outer:List UP) (s:Os) (H:Hp) (E:XK) (J:Jx),Room k (A.deeper (Ud qual (ah st) s.heap.objs.size f cdv))->
   ∃t,WDSs (cxOf (CX1 P w) P w K mg base N qual (ah st) f cdv A outer s H E).nox (aJ st) t/\∀ds R,S ds R->t {nx:=λ_=>R .non,rt:=R} (startD N ds)):CalMth P w K mg base (k+1) x m ps (lSp K S):=by
 obtain⟨C,f,fd,h1,h2,h3,T,hb⟩:=T;exact#[C,f,fd,h1,h2,h3,L2.Fun.okDW T F len (a8 f),hb]
end
def iq(P:T3)(w:T5)(K:Ex)(mg:Kq->Option KB)(base:Heap)(n:Nat)(x m:Kq)(ps:List Kq)(dd:List D)(sp:Sp):Prop:=
 ∃C f fd f_ q_,nsIn K Pi x=be (be (.ref C))/\Cls K C/\Meth K C m f/\FnOk P w K mg base (CX1 P w) n f fd ps sp/\Binds K fd ps q_/\Vals f_ q_/\∀F,Reps K F dd f_
section
variable {X:Cx}{k:Nat}{f:KF}{fd:Ua}{ps:List Kq}{sp:Sp}{E:XK}
def Dq{pins:List (KF×Uj)}{σ:L2.St}{H:Hp}{s:Os}{Q:VK}{us q_:List KB}{vs f_:List V}(F:FnOk X.prog X.w X.K X.mg X.base (CX1 X.prog X.w) k f fd ps sp)(hr:Room k X.A)(hb:Binds X.K fd ps q_)(hd:Vals f_ q_)
  (hx:∀e s',CX1 X.prog X.w X.stack H s E e s'->X.xe e s') (I:Inv X pins σ H s) (r:Vals vs us) (h:sp (vs++f_) H Q E):T4 (SL X.prog X.w) X.A (call (.ref f) us) (EP X pins σ Q) X.xe s:=by
 have r2:=r.append hd;have hl:(us++q_).length=ps.length:=by rw[<-L2.Vals.length r2];exact F.len _ _ _ _ h
 have gV:=hb s us I.kIn hl;refine UF (UC (F.run X.A X.stack s H #[us,[]] (us++q_) (vs++f_) Q E hr I.env0 gV r2 h) λr s' hq=>?_);cases r with
 |error e=>exact hx e s' hq
 |ok fl=>
  cases fl with
  |ret u=>exact I.after hq
  |next=>exact False.elim hq
  |brk=>exact False.elim hq
  |cont=>exact False.elim hq
end
section
variable {X:Cx}[J:Jm]{a b c e o:SZ}{ta tb te:TME}{pos p apos cpos:Ub}{n m:Nat}{ps:List Kq}{S:SpM}{x:Kq}{es:List SZ}{t:TMA}
def Dr(x m:Kq)(dd:List D)(S:SpM)(to:TME):TME:=λz M R=>to z M λd M1=>∃fs,dz M1 d x fs/\fs.lookup m=v7/\S (d::dd) M1 R λx fs M'=>J.RM z M' x fs
def Ds{nm:Kq}{dd:List D}{pl:Vz Bool}(C:iq X.prog X.w X.K X.mg X.base n x nm ps dd (lSpM X.K S))(hx:XOkM X)(hr:Room m X.A)(ho:ME X o te)(d9:autoParam (X.ex=[]) zA0)(hn:autoParam (n<=m) zA1)
  (ht:T_ (.Call (.Attribute o nm apos) [] [] pos) X.env=(do
   let ov <-T_ o X.env
   UO apos.atName
   let (f,first) <-Uu [ov] (U2 ov nm pl)
   VF pos f first (UD pos (T7 [] X.env)) (UW pos (UB [] X.env))):=by rfl):
  ME X (.Call (.Attribute o nm apos) [] [] pos) (Dr x nm dd S te):=by
 refine#[λpins s σ H Q I h=>?_];obtain⟨Fr,z,M,k,rs,R,h1,h2⟩:=h;refine methodCall_KW (pl:=pl) (thn (ho.out pins s σ H (λv H1=>∃d M1 F1,GrowM M M1 Fr H F1 H1/\Rep X.K F1 d v/\RepM X.K F1 H1 M1/\∃fs,dz M1 d x fs/\fs.lookup nm=v7/\S (d::dd) M1 R λx fs M'=>J.RM z M' x fs) I #[Fr,z,M,k,rs,_,h1,λd v M1 F1 H1 g1 hd rd m1=>#[d,M1,F1,g1,rd,m1,hd]]) λu s1 hh=>?_) ht;obtain⟨v,H1,I1,rv,d,M1,F1,g1,rd,m1,fs,hi,hl,hq⟩:=hh;obtain⟨C',f,fd,f_,q_,hns,g9,K1,F,hb,hd,Sj⟩:=C;obtain⟨a,C2,dx,ws,rfl,n5,hH,rf⟩:=ig g1.fh m1 rd hi;rw[hns]at n5;cases n5;obtain rfl:u=Value.ref a:=rv;refine jR I1 hH g9 K1 (rf.none hl) ?_;refine callWith_K0 (first:=[.ref a]) I1.kIn K1.kp (Dq (E:=EX X z σ) (us:=[.ref a]) (vs:=[.ref a]) F (hr.mono hn) hb hd (λe s' hq=>hx.out d9 I1 hq) I1 (.cons rfl .nil) ?_);exact ii k rs g1 m1 (reps_cons.mpr #[_,_,rfl,rd,Sj F1]) hq h2
def Dt(ta tb:TME):TME:=λz M R=>ta z M λx M1=>tb z M1 λy M2=>match x,y with|.ptr a,.ptr b=>∃ds es,mget M2 a=be (.lst ds)/\mget M2 b=be (.lst es)/\ds.length+es.length<=100000/\∀p,p∉au M2->R (.ptr p) ((p,.lst (ds++es))::M2)|_,_=>False
def Du(ha:ME X a ta)(hb:ME X b tb):ME X (.BinOp a .Add b pos) (Dt ta tb):=⟨(jN rG ha.out hb.out).anti λs H Q h=>by
 obtain⟨F,z,M,k,rs,R,h1,h2⟩:=h;refine#[F,z,M,k,rs,_,h1,λx u M1 F1 H1 g1 hx rx m1=>?_];refine#[F1,z,M1,k.growM rs.mb g1,rs.growM k.bh g1 m1,_,hx,λy v M2 F2 H2 g2 hy ry m2=>?_];split at hy
 .rename_i p q;obtain⟨ds,es,hm,Lk,hl,hR⟩:=hy;obtain⟨us,hH,ru⟩:=m2.ok _ _ (bA hm);obtain⟨vs,Sk,rv⟩:=m2.ok _ _ (bA Lk);refine#[p,q,us,vs,rep_ptr.mp rx,rep_ptr.mp ry,hH,Sk,by rw[ru.length,rv.length];exact GY hl Lj,λr hr=>?_];exact h2 _ _ _ F2 _ ((g1.trans g2).trans (GrowM.new g2.fh hr)) (hR r λz=>m2.here z hr) (rep_ptr.mpr rfl) (m2.new g2.fh hr #[_,aA,ru.append rv])
 .exact hy.elim⟩
def mSlP(ta:TME)(tl th:TMO):TME:=λz M R=>ta z M λx M1=>tl z M1 λlo M2=>th z M2 λhi M3=>match x with|.ptr a=>∃ds,mget M3 a=be (.lst ds)/\∀p,p∉au M3->R (.ptr p) ((p,.lst (cutD ds lo hi))::M3)|_=>False
def Dv{lo hi:Option SZ}{tl th:TMO}{p2:Ub}(ha:ME X a ta)(hl:MPO X lo tl)(hu:MPO X hi th):ME X (.Subscript a (.Slice lo hi v7 p2) pos) (mSlP ta tl th):=⟨(gL gM ha.out hl.out hu.out).anti λs H Q q=>by
 obtain⟨F,z,M,k,rs,R,h1,h2⟩:=q;refine#[F,z,M,k,rs,_,h1,λx u M1 F1 H1 g1 hx rx m1=>?_];have k1:=k.growM rs.mb g1;have r1:=rs.growM k.bh g1 m1;refine#[F1,z,M1,k1,r1,_,hx,λlo M2 F2 H2 g2 hy m2=>?_];refine#[F2,z,M2,k1.growM r1.mb g2,r1.growM k1.bh g2 m2,_,hy,λhi M3 F3 H3 g3 hw m3=>?_];have g:=g1.trans (g2.trans g3);split at hw
 .rename_i l;obtain⟨ds,hm,hR⟩:=hw;obtain⟨us,hH,ru⟩:=m3.ok _ _ (bA hm);refine#[l,us,rep_ptr.mp rx,SqL.of hH,λr hr=>?_];exact h2 _ _ _ F3 _ (g.trans (GrowM.new g3.fh hr)) (hR r λz=>m3.here z hr) (rep_ptr.mpr rfl) (m3.new g3.fh hr #[_,aA,ru.cut _ _])
 .exact hw.elim⟩
end
abbrev SiM:=KF->List D->(MS->Prop)->Prop
def lSiM(K:Ex)(C:KF)(S:SiM):Sp:=λvs H Q _=>∃a dx us H1 F ds,vs=.ref a::us/\H=upd (upd H1 dx (.own a)) a (.ins C dx [])/\H1 a=v7/\H1 dx=v7/\dx≠a/\Same F H1/\Reps K F ds us/\
 ∃R:MS->Prop,S a ds R/\∀M' F' H',GrowM [] M' F H1 F' H'->R M'->RepM K F' H' M'->Q .non H'
def CalN(P:T3)(w:T5)(K:Ex)(mg:Kq->Option KB)(base:Heap)(n:Nat)(x:Kq)(ps:List Kq)(S:SiM):Prop:=
 ∃C f fd,nsIn K Pi x=be (be (.ref C))/\mg x=be (.ref C)/\Mk K C f/\FnOk P w K mg base (Exc.CX1 P w) n f fd ps (lSiM K C S)/\Binds K fd ps []
section
variable {P:T3}{w:T5}{K:Ex}{mg:Kq->Option KB}{base:Heap}
open Classical in
def Txi.okIN{x qual:Kq}{st:SB}{N:List Kq}{p0:Kq}{ps:List Kq}{k:Nat}{S:SiM}(T:Txi K mg x qual st (p0::ps))(F:FnScope N (p0::ps) (ah st))(len:∀a ds R,S a ds R->ds.length=ps.length)
  (a8:∀(f:KF) (cdv:KB) (A:T6) (outer:List UP) (s:Os) (H:Hp) (E:XK) (J:Jm),Room k (A.deeper (Ud qual (ah st) s.heap.objs.size f cdv))->XOkM (cxOf (CX1 P w) P w K mg base N qual (ah st) f cdv A outer s H E).nox->
   ∃t,MSs (cxOf (CX1 P w) P w K mg base N qual (ah st) f cdv A outer s H E).nox (aJ st) t/\∀a ds R,(∀z M x fs,¬J.RM z M x fs)->S a ds R->t {nx:=λ_ M'=>R M',rt:=λ_ _=>False} (startD N (.ptr a::ds)) [(a,.ins x [])]):CalN P w K mg base (k+1) x (p0::ps) S:=by
 obtain⟨C,f,fd,hns,j_,mk,T,hb⟩:=T;refine#[C,f,fd,hns,j_,mk,Fun.okC T F (λvs H Q E h=>?_) (λcdv A outer s H vs Q E hr h=>?_),hb]
 .obtain⟨a,dx,us,H1,F,ds,rfl,_,_,_,_,_,rs,R,h,_⟩:=h;rw[GV,GV,rs.length,len a ds R h]
 .obtain⟨a,dx,us,H1,F1,ds,rfl,rfl,ha,p_,j9,fh,rs,R,h,q⟩:=h
  let H:Hp:=upd (upd H1 dx (.own a)) a (.ins C dx [])
  let B:Hp:=λb=>if b=a then v7 else H b
  have MP:B a=none:=if_pos rfl;have hB:∀{b:KF},b≠a->B b=H b:=λ{b} h=>if_neg h;have m9:∀{b:KF} {o:HO},H1 b=be o->b≠a/\H b=be o:=λ{b o} e=>by
   have n1:b≠a:=bE e ha;exact#[n1,by show upd _ _ _ b=_;rw[ar n1,ar (bE e p_)];exact e]
  letI:Jm:={B:=B,F0:=F1,RX:=λ_ _ _=>False,RM:=λ_ _ _ _=>False}
  have hx:XOkM (cxOf (CX1 P w) P w K mg base N qual (ah st) f cdv A outer s H E).nox:=λσ z M' F' H' s' e C od y fs I kk rr hR er _=>hR.elim;obtain⟨t,ht,hq⟩:=a8 f cdv A outer s H E inferInstance hr hx;have Fa:F1 a=none:=fh.free ha;have k0:Kept B F1 F1 H:=⟨λb o e=>by
   by_cases n:b=a
   .rw[n,MP]at e;cases e
   .rw[hB n]at e;exact e,λb o e=>(m9 (fh b o e)).2,Same.refl F1,λ_ h _=>h,rfl,Same.refl F1,λ_ h _=>h⟩
  have C_:Reps K F1 (.ptr a::ds) (.ref a::us):=reps_cons.mpr #[_,_,rfl,rep_ptr.mpr rfl,rs];have OV:RepM K F1 H [(a,.ins x [])]:=⟨by simp[au],λb o hb=>by
   have e:=GN.mp hb;cases e;exact#[C,dx,[],hns,aA,repf_nil.mpr rfl],λb hb=>by
   have e:b=a:=by simpa[au]using hb
   rw[e];exact Fa⟩
  have r0:RepZ K B F1 H (startD N (.ptr a::ds)) (L2.start N (.ref a::us)) [(a,.ins x [])]:=⟨dL C_,kK C_,OV,λb hb=>by
   have e:b=a:=by simpa[au]using hb
   rw[e];exact MP⟩
  refine#[_,ht.out.nox,F1,F1,_,_,k0,r0,_,hq a ds R (λ_ _ _ _ z=>z) h,#[λz' s' M' F' H' kk hn r=>?_,λd v M' F' H' kk hd rd OP mb=>hd.elim,λ_ _ _ _ _ _ h _=>h.elim,λ_ _ _ _ _ _ h _=>h.elim]];refine q M' F' H' ⟨kk.f0,kk.fh,λb o _ e=>kk.bh b o (by show B b=be o;rw[hB (m9 e).1];exact(m9 e).2),λb _ h1 h2=>kk.out b h1 (by
   show B b≠v7;cases e:H1 b with
   |none=>exact absurd e h2
   |some o=>rw[hB (m9 e).1,(m9 e).2];exact λz=>nomatch z),λb hb=>?_⟩ hn r.rm
  cases e:H1 b with
  |none=>exact .inr rfl
  |some o=>
   have h0:B b=none:=r.mb b hb;rw[hB (m9 e).1,(m9 e).2]at h0;cases h0
end
section
variable {X:Cx}[J:Jm]{e:SZ}{es:List SZ}{pos p:Ub}{n m:Nat}{ps:List Kq}{S:SiM}{x:Kq}{t:TMA}
def Dw(S:SiM)(t:TMA):TME:=λz M R=>t z M λds M1=>∀a,a∉au M1->S a ds λM'=>R (.ptr a) (M'++M1)
def Dx(M:CalN X.prog X.w X.K X.mg X.base n x ps S)(hr:Room m X.A)(ha:MA X (e::es) t)(hg:autoParam (Gl X x) zA0)(hn:autoParam (n+1<=m) zA1)(d5:autoParam (zND x) zA1)
  (he:autoParam (zSE X e es) zA0) (c7:autoParam (zPL X pos es) zA0):
  ME X (.Call (.Name x p) (e::es) [] pos) (Dw S t):=by
 obtain⟨C,f,fd,hns,j_,mk,F,hb⟩:=M;refine#[(gK mk F (hr.mono hn) hg j_ hb .nil eO ha.out d5 he c7).anti λs H Q q=>?_];obtain⟨F,z,M,k,rs,R,h1,h2⟩:=q;refine#[F,z,M,k,rs,_,h1,λds vs M1 F1 H1 g1 hx rx m1=>?_];intro a dx ha p_ j9;have na:a∉au M1:=λz=>m1.here z ha;refine#[a,dx,vs,H1,F1,ds,by rw[Hn],rfl,ha,p_,j9,g1.fh,rx,_,hx a na,λM' F' H' g hR m'=>#[rfl,?_]];have hh:∀b o,H1 b=be o->H' b=be o:=λb o e=>g.hh b o (λz=>nomatch z) e;have nk:∀b,b∈au M'->H1 b=none:=λb hb=>(g.ks b hb).elim (λz=>nomatch z) id;refine h2 (.ptr a) (.ref a) _ F' H' (g1.trans #[g.ff,g.fh,λb o _ e=>hh b o e,λb _=>g.out b (λz=>nomatch z),λb hb=>?_]) hR (rep_ptr.mpr rfl) #[?_,λb o hb=>?_,λb hb=>?_]
 .rcases keys_app.mp hb with z|z
  .exact .inr (nk b z)
  .exact .inl z
 .unfold au;rw[Hl];exact Ia.mpr #[m'.nd,m1.nd,λb h1 c h2 e=>m1.here (e ▸ h2) (nk b h1)]
 .rcases Hi.mp hb with z|z
  .exact m'.ok b o z
  .exact(m1.ok b o z).mono g.ff λo e=>hh b o e
 .rcases keys_app.mp hb with z|z
  .exact m'.fr b z
  .exact g.out b (λz=>nomatch z) (m1.fr b z) (m1.here z)
end
section
variable {K:Ex}{x m q:Kq}{st:SB}{ps:List Kq}
def MdIn(K:Ex)(x m q:Kq)(st:SB)(i:Int):Prop:=∃C f fd T,NsC K x C/\Meth K C m f/\FunG K (.ref T) m q st f fd/\∃tc td n ts t,K.lookup T=be #[tc,td,.seq [.int i t].toArray n,ts]
def mdIn_mk{C f T:KF}{i:Int}{oc tc:KB}{od an td:Option KF}{sl ts:Array (Option KB)}{n:Nat}{t:VX}{kV dc pm cd ct:KB}(a:nsIn K Pi x=be (be (.ref C)))(b:GT K (.ref C) m=be (be (.ref f)))(j:isFn K (.ref f)=true)(l:K.lookup f=be #[oc,od,.func (fnOf m q (bw st) (aJ st) (ah st) (.ref T) kV dc pm an cd ct),sl])(c:codeIn K cd q=true)(k:keepIn K (.ref f)=true)
  (d:K.lookup T=be #[tc,td,.seq [.int i t].toArray n,ts]):MdIn K x m q st i:=#[C,f,_,T,a,#[b,j,k],#[#[_,_,_,_,_,_,_,_,_,rfl,l,c],k],_,_,_,_,_,d]
def Dy(m q:Kq)(st:SB)(x0 x1:Kq):Prop:=∀(s:Os) (T:KF) (o:Uj) (its:Array KB) (n:Nat) (v:KB) (kV doc pm:KB) (an:Option KF) (cdv ct u0 u1:KB),s.heap.get? T=be o->o.data=.seq [v].toArray n->
 UY s (fnOf m q (bw st) (aJ st) (ah st) (.ref T) kV doc pm an cdv ct) #[[u0,u1],[]] [(x0,u0),(x1,u1)]/\UY s (fnOf m q (bw st) (aJ st) (ah st) (.ref T) kV doc pm an cdv ct) #[[u0],[]] [(x0,u0),(x1,v)]
def Txd(K:Ex)(x m qual:Kq)(st:SB)(ps:List Kq)(dd:List D):Prop:=
 ∃C f fd dV f_ q_,nsIn K Pi x=be (be (.ref C))/\Cls K C/\Meth K C m f/\FunG K dV m qual st f fd/\Binds K fd ps []/\Binds K fd ps q_/\Vals f_ q_/\∀F,Reps K F dd f_
def MdIn.txd{i:Int}{x0 x1:Kq}(T:MdIn K x m q st i)(c:ClIn K x)(b:Dy m q st x0 x1):Txd K x m q st [x0,x1] [.int i]:=by
 obtain⟨C,k⟩:=c;obtain⟨D,f,fd,T,a,mt,F,tc,td,n,ts,t,hT⟩:=T;cases NsC.uniq k.ns a;have F':=F;obtain⟨oc,od,kV,doc,pm,an,cdv,ct,osl,rfl,lk,gt⟩:=F'.ex;refine#[C,f,_,_,[.int i],[.int i t],a,k.cl,mt,F,λs us hK hl=>?_,λs us hK hl=>?_,.cons #[t,rfl] .nil,λF=>reps_cons.mpr #[_,_,rfl,rep_int.mpr rfl,reps_nil.mpr rfl]]
 .rw[Hn]at hl ⊢;obtain⟨u0,t0,rfl,h0⟩:=bn hl;obtain⟨u1,t1,rfl,h1⟩:=bn h0;cases len_0 h1;exact(b s T _ [].toArray n (.int i t) kV doc pm an cdv ct u0 u1 (hK _ _ hT) rfl).1
 .rw[G0]at hl;have Oe:us.length=[x0].length:=Nat.succ.inj hl;obtain⟨u0,t0,rfl,h0⟩:=bn Oe;cases len_0 h0;exact(b s T _ [].toArray n (.int i t) kV doc pm an cdv ct u0 u0 (hK _ _ hT) rfl).2
end
section
variable {P:T3}{w:T5}{K:Ex}{mg:Kq->Option KB}{base:Heap}
variable{N ps:List Kq}{dd:List My.D}
def Txd.okM{x m qual:Kq}{st:SB}{k:Nat}{S:SpM}(T:Txd K x m qual st ps dd)(F:FnScope N ps (ah st))(len:∀ds M R RX,S ds M R RX->ds.length=ps.length)
  (a8:∀(f:KF) (cdv:KB) (A:T6) (outer:List UP) (s:Os) (H:Hp) (E:XK) (J:Jm),Room k (A.deeper (Ud qual (ah st) s.heap.objs.size f cdv))->XOkM (cxOf (CX1 P w) P w K mg base N qual (ah st) f cdv A outer s H E)->
   ∃t,MSs (cxOf (CX1 P w) P w K mg base N qual (ah st) f cdv A outer s H E) (aJ st) t/\∀ds M R RX,(∀z,J.RM z=λM' x fs=>RX x fs M')->S ds M R RX->t {nx:=λ_ M'=>R .non M',rt:=R} (startD N ds) M):CalMth P w K mg base (k+1) x m ps (lSpM K S)/\iq P w K mg base (k+1) x m ps dd (lSpM K S):=by
 obtain⟨C,f,fd,dV,f_,q_,h1,h2,h3,T,hb,gV,hv,hd⟩:=T;have ok:=Fun.okM (P:=P) (w:=w) (mg:=mg) (base:=base) T F len λcdv A outer s H E J hr hx=>a8 f cdv A outer s H E J hr hx;exact#[#[C,f,fd,h1,h2,h3,ok,hb],C,f,fd,f_,q_,h1,h2,h3,ok,gV,hv,hd]
def Txd.okMd{x m qual:Kq}{st:SB}{k:Nat}{S:SpM}(T:Txd K x m qual st ps dd)(F:FnScope N ps (ah st))(len:∀ds M R RX,gv S ds M R RX->ds.length=ps.length)
  (a8:∀(f:KF) (cdv:KB) (A:T6) (outer:List UP) (s:Os) (H:Hp) (E:XK) (J:Jm),Room k (A.deeper (Ud qual (ah st) s.heap.objs.size f cdv))->XOkM (cxOf (CX1 P w) P w K mg base N qual (ah st) f cdv A outer s H E)->
   ∃t,MSs (cxOf (CX1 P w) P w K mg base N qual (ah st) f cdv A outer s H E) (aJ st) t/\∀ds M R RX,(∀z,J.RM z=λM' x fs=>RX x fs M')->gv S ds M R RX->t {nx:=λ_ M'=>R .non M',rt:=R} (startD N ds) M):CalMth P w K mg base (k+1) x m ps (lSpM K S)/\iq P w K mg base (k+1) x m ps dd (lSpM K S):=by
 obtain⟨a,C,f,fd,f_,q_,h1,h2,h3,ok,hb,hv,hd⟩:=Txd.okM (S:=gv S) T F len a8;exact#[a.drop,C,f,fd,f_,q_,h1,h2,h3,ok.imp λ_ _ _ _ h=>vO h,hb,hv,hd]
def nilD(S:SpD):SpM:=λds M R _=>M=[]/\∃R0:D->Prop,S ds R0/\R=λd _=>R0 d
def Dz{n:Nat}{f:KF}{fd:Ua}{S:SpD}(F:FnOk P w K mg base (CX1 P w) n f fd ps (lSpM K (nilD S))):FnOk P w K mg base (CX1 P w) n f fd ps (lSp K S):=F.imp λvs H Q E q=>by
 obtain⟨F,ds,fh,rs,R,hS,q1⟩:=q;exact#[F,ds,[],fh,rs,RepM.nil,_,λ_ _ _=>False,#[rfl,R,hS,rfl],λd v M' F' H' g hd rd _=>q1 d v F' H' (growM_nil g) hd rd,λ_ _ _ _ _ _ _ _ z=>z.elim]
end
section
variable {X:Cx}[J:Jm]{a:SZ}{ta:TME}{tA:TMT}{pos:Ub}
def dX(ha:ME X a ta)(he:autoParam (∀f6,isTrue a X.env f6=(do let v <-f6;UO a.pos;Uu [v] (truthy v))) zA3):MT X a (mTru ta):=⟨(qT ha.out he).anti λs H Q q=>by
 obtain⟨F,z,M,k,rs,R,h1,h2⟩:=q;refine#[F,z,M,k,rs,_,h1,λx u M1 F1 H1 g1 hx rx m1=>?_];split at hx
 .rw[rep_bl.mp rx];exact#[_,rfl,h2 _ M1 F1 H1 g1 hx m1]
 .exact hx.elim⟩
def mNot(tA:TMT):TMT:=λz M R=>tA z M λk M1=>R (!k) M1
def dY(ha:MT X a tA):MT X (.UnaryOp .Not a pos) (mNot tA):=⟨(qA ha.out).anti λs H Q q=>by
 obtain⟨F,z,M,k,rs,R,h1,h2⟩:=q;exact#[F,z,M,k,rs,_,h1,λk M1 F1 H1 g1 hx m1=>h2 _ M1 F1 H1 g1 hx m1]⟩
end
abbrev Bx.N(V:Bx)(n:Nat)(x:Kq)(ps:List Kq)(S:SiM):Prop:=CalN V.P V.w V.K V.mg V.base n x ps S
abbrev Bx.QD(V:Bx)(n:Nat)(x m:Kq)(ps:List Kq)(S:SpD):Prop:=CalMth V.P V.w V.K V.mg V.base n x m ps (lSp V.K S)
abbrev Bx.Qd(V:Bx)(n:Nat)(x m:Kq)(ps:List Kq)(dd:List My.D)(S:SpM):Prop:=iq V.P V.w V.K V.mg V.base n x m ps dd (lSpM V.K S)
abbrev Bx.Td(V:Bx)(x m q:Kq)(st:SB)(ps:List Kq)(dd:List My.D):Prop:=Txd V.K x m q st ps dd
section
variable {X:Cx}[J:Jm]{a b c e o:SZ}{ta tb te:TME}{pos:Ub}
variable{p:Ub}
def DB{p2:Ub}{y:Kq}{t:String}(hm:X.mg "isinstance"=v7)(Og:X.mg y=v7)(ha:ME X a ta)(hv:Ui y=be (.type t))
  (hk:∀x:D,cH x=true->kitOne X.K (.type (tyD x)) (.type t)=be (cG t x)) (hg:autoParam (Gl X "isinstance") zA0) (Oh:autoParam (Gl X y) zA0) (hn:autoParam (y≠"__name__") zA1) (d5:autoParam (zND y) zA1)
  (l_:autoParam (T7 [a,.Name y p2] X.env=(false,T_ a X.env)::T7 [.Name y p2] X.env) zA0) (l8:autoParam (T7 [.Name y p2] X.env=(false,T_ (.Name y p2) X.env)::T7 [] X.env) zA0) (c7:autoParam ((UD pos (T7 [.Name y p2] X.env)).any (·.1)=false) zA0):ME X (.Call (.Name "isinstance" p) [a,.Name y p2] [] pos) (mUn (ko t) ta):=⟨(fP sB hg hm PyProof.Rows.boot_isinstance (bv ha.out (bv (qu (v:=.ty t) Oh Og hv rfl hn d5) pa_nil l8) l_) Lj Lj l_ c7).anti λs H Q q=>by
 obtain⟨F,z,M,k,rs,R,h1,h2⟩:=q;refine#[F,z,M,k,rs,_,h1,λx u M1 F1 H1 g1 hx rx m1=>?_];have no:cH x=true/\R (.bl (cG t x)) M1:=by
  cases x with
  |obj C b=>exact False.elim hx
  |exc C b=>exact False.elim hx
  |ptr b=>exact False.elim hx
  |dti b=>exact False.elim hx
  |_=>exact#[rfl,hx]
 exact#[u,tyD x,t,_,rfl,sC g1.fh rx no.1,hk x no.1,h2 _ _ M1 F1 H1 g1 no.2 (rep_bl.mpr rfl) m1]⟩
def mItL(t:TME):TMI:=λz M R=>t z M λx M1=>match x with|.lst ds=>R ds M1|_=>False
def DC(i:Nat){x:Kq}{body:List SB}{tb:TMS}(hp:Um (SL X.prog X.w) X.A X.env X.xe)(hc:X.calm=true)(hN:X.N.Nodup)(he:ME X e te)(hb:MSs X body tb)(hi:autoParam (X.N[i]?=be x) zA0)(hx:autoParam (Loc X.env.scope x) zA4)
  (hf:autoParam (zFN X x) zA2) (hs:autoParam (∀y,zFS X e y) zA3):MSt X (.For (.Name x p) e body [] pos) (mFor i (mItL te) tb):=⟨(cP hp hc (jJ he.out) (dJ hN hi hx hf) hb.out hs).anti λE s H q=>by
 obtain⟨F0,F,z,M,kp,rs,ED,h,e⟩:=q;refine#[F,z,M,kp.kf,rs,_,h,λd v M1 F1 H1 g1 hd rd m1=>?_];split at hd
 .obtain⟨p,vs,rfl,hq,rr⟩:=rep_lst.mp rd;obtain⟨W,w0,c5,out⟩:=hd;refine#[p,rfl,#[vs,g1.fh.seq (SqL.of hq)],jL (K:=X.K) (a:=p) (xs:=vs) (λk s' H'=>∃F' z' M',Kept J.B F0 F' H'/\Same F1 F'/\RepZ X.K J.B F' H' z' s' M'/\W k z' M') #[F1,z,M1,kp.growM rs.mb g1,Same.refl F1,rs.growM kp.bh g1 m1,w0] (λk s' H' _ hh=>?_) ?_ ?_]
  .obtain⟨F',z',M',k',g',r',w'⟩:=hh;exact k'.fh.seq (g'.seq (SqL.of hq))
  .rintro k y s' H' hk⟨F',z',M',k',g',r',w'⟩;obtain⟨d,hd,ry⟩:=rr.get' hk;refine#[F',F',_,M',#[k'.bh,k'.fh,Same.refl F',λb h1 _=>h1,k'.eb,k'.jf.trans k'.f0,λb h1 h2=>k'.out b (k'.jo b h1 h2) h2],r'.set (ry.mono g'),_,c5 k d z' M' hd w',?_];have up:∀{F2 H2:Hp},Kept J.B F' F2 H2->Kept J.B F0 F2 H2:=λk2=>#[k2.bh,k2.fh,k'.f0.trans k2.f0,λb h1 h2=>k2.out b (k'.out b h1 h2) h2,k'.eb,k'.jf,k'.jo];exact#[λz3 s3 M3 F3 H3 k3 h3 r3=>#[F3,z3,M3,up k3,g'.trans k3.f0,r3,h3],λd v M3 F3 H3 k3=>e.rt d v M3 F3 H3 (up k3),λz3 s3 M3 F3 H3 k3=>e.nx z3 s3 M3 F3 H3 (up k3),λz3 s3 M3 F3 H3 k3 h3 r3=>#[F3,z3,M3,up k3,g'.trans k3.f0,r3,h3]]
  .rintro s' H'⟨F',z',M',k',g',r',w'⟩;exact e.nx z' s' M' F' H' k' (out z' M' (by rw[<-rr.length];exact w')) r'
 .exact hd.elim⟩
def DD(is:List Nat)(te:TME):TMS:=λE z M=>te z M λx M1=>match x with|.lst ds=>ds.length=is.length/\E.nx (aT is ds z) M1|_=>False
def DF{es:List SZ}{k:Nat}{is:List Nat}(hc:X.calm=true)(he:ME X e te)(hg:DGs X es is)(hn:autoParam ((T8 es X.env).length=is.length) zA0)(k9:autoParam ((T8 es X.env).findIdx? (·.1)=none) zA0)
  (hs:autoParam (Ux [.Tuple es k p] e pos.line X.env=pure false) zA0) (hw:autoParam (Uy [.Tuple es k p] e X.env=pure none) zA0) (h1:autoParam ((T8 [.Tuple es k p] X.env).map (·.2)=[UG (.Tuple es k p) X.env]) zA0):MSt X (.Assign [.Tuple es k p] e pos) (DD is te):=⟨by
 obtain⟨u,hu,kk⟩:=hg;refine(gG he.out (sK hc hu hn k9) hs hw h1).anti λE s H q=>?_;obtain⟨F0,F,z,M,k,rs,ED,h,e⟩:=q;refine#[F,z,M,k.kf,rs,_,h,λd v M1 F1 H1 g hd rd m1=>?_];have r1:=rs.growM k.bh g m1;split at hd
 .obtain⟨p,vs,rfl,hq,rr⟩:=rep_lst.mp rd;exact#[p,vs,rfl,SqL.of (g.fh _ _ hq),by rw[rr.length];exact hd.1,kk _ vs z s J.B F1 H1 _ hd.1 rr r1.rs λs' r'=>e.nx _ _ M1 F1 H1 (k.growM rs.mb g) hd.2 #[r',kL is _ _ z rr r1.no,m1,r1.mb]]
 .exact hd.elim⟩
end
end My
end
section
namespace My
local macro_rules | `(tactic| k_memK) => `(tactic| exact⟨rfl, rfl, rfl, by decide +kernel, rfl, by decide +kernel, by decide +kernel⟩)
local macro_rules | `(tactic| k_places) => `(tactic| try simp only[G7, G9, My.aT])
open PySem PySem.Spec PyProof.Rows L2
def top(i:Nat):Stmt:=PySem.Challenge.pw_motiffield_k43_whole_changed_text.main.body.getD i (.Pass #[0,0,0,0])
abbrev lr:SB:=top 58
abbrev lu:List Str:=["_law_script","_law_k"]
def DG:FnScope ["_law_script","_law_k"] lu (ah lr):=Mh
abbrev lv:SB:=top 60
abbrev lx:List Str:=["_law_script","_law_k","_law_many"]
def sc__law_draws:FnScope ["_law_script","_law_k","_law_many","_law_left","_law_drawn","_law_turn","_law_seed"] lx (ah lv):=Mh
abbrev ly:SB:=top 63
abbrev lz:List Str:=["_law_draws_here"]
def sc__law_lines:FnScope ["_law_draws_here","_law_wide","_law_tall","_law_signs","_law_lines_here","_law_j","_law_line","_law_i","_law_place","_law_value"] lz (ah ly):=Mh
abbrev lC:SB:=top 61
abbrev lD:List Str:=["_law_draws_here"]
def sc__law_shift_pair:FnScope ["_law_draws_here","_law_a","_law_b","_law_c","_law_d"] lD (ah lC):=Mh
abbrev lF:SB:=top 62
abbrev lG:List Str:=["_law_lines_here","_law_one","_law_two"]
def sc__law_motif_text:FnScope ["_law_lines_here","_law_one","_law_two","_law_tail"] lG (ah lF):=Mh
abbrev lH:SB:=top 64
abbrev lJ:List Str:=["_law_script","_law_k"]
def sc__law_motif:FnScope ["_law_script","_law_k","_law_draws_here","_law_lines_here","_law_one","_law_two","_law_leaf"] lJ (ah lH):=Mh
abbrev ir:SB:=top 65
abbrev lK:List Str:=["_law_part","_law_draw"]
def sc__law_wrapped:FnScope ["_law_part","_law_draw","_law_across","_law_down","_law_old","_law_new","_law_shift","_law_head","_law_ways","_law_by","_law_leaves","_law_leaf","_law_a","_law_b","_law_c","_law_d","_law_e","_law_f","_law_way","_law_hues"] lK (ah ir):=Mh
abbrev lL:SB:=top 69
abbrev lM:List Str:=["_law_a","_law_b"]
def sc__law_gcd:FnScope ["_law_a","_law_b"] lM (ah lL):=Mh
abbrev lN:SB:=top 66
abbrev lP:List Str:=["_law_one","_law_two","_law_u","_law_v"]
def sc__law_on:FnScope ["_law_one","_law_two","_law_u","_law_v","_law_size"] lP (ah lN):=Mh
abbrev lQ:SB:=top 71
abbrev lR:List Str:=["_law_leaf"]
def sc__law_leaf_family:FnScope ["_law_leaf","_law_a","_law_b","_law_c","_law_d","_law_e","_law_f","_law_one","_law_two","_law_high","_law_wide","_law_lean"] lR (ah lQ):=Mh
abbrev lU:SB:=top 70
abbrev lV:List Str:=["_law_three","_law_x","_law_y"]
def DJ:FnScope ["_law_three","_law_x","_law_y"] lV (ah lU):=Mh
abbrev lW:SB:=top 72
abbrev lY:List Str:=["_law_one","_law_two"]
def sc__law_both:FnScope ["_law_one","_law_two","_law_wide","_law_high","_law_x"] lY (ah lW):=Mh
abbrev lZ:SB:=top 73
abbrev me:List Str:=["_law_leaves"]
def sc__law_family:FnScope ["_law_leaves","_law_both_here","_law_leaf"] me (ah lZ):=Mh
abbrev mf:SB:=top 74
abbrev mi:List Str:=["_law_upper","_law_lower"]
def sc__law_over:FnScope ["_law_upper","_law_lower","_law_leaves"] mi (ah mf):=Mh
abbrev mj:SB:=top 75
abbrev ml:List Str:=["_law_script","_law_k"]
def sc__law_pattern:FnScope ["_law_script","_law_k","_law_plan","_law_part","_law_turn","_law_step","_law_other"] ml (ah mj):=Mh
abbrev mm:SB:=top 77
abbrev mn:List Str:=["_law_part","_law_place","_law_sign"]
def sc__law_respelled:FnScope ["_law_part","_law_place","_law_sign","_law_first","_law_wide","_law_j","_law_i","_law_lines_here","_law_spot","_law_text"] mn (ah mm):=Mh
abbrev mo:SB:=top 86
abbrev mv:List Str:=["_law_script"]
def sc__law_six:FnScope ["_law_script","_law_part","_law_motif_here","_law_draws_here","_law_six_here"] mv (ah mo):=Mh
abbrev mx:SB:=top 67
abbrev my:List Str:=["_law_leaf","_law_x","_law_y"]
def sc__law_leaf_shows:FnScope ["_law_leaf","_law_x","_law_y","_law_way","_law_u","_law_v","_law_j","_law_i"] my (ah mx):=Mh
abbrev mz:SB:=top 68
abbrev mB:List Str:=["_law_leaves","_law_x","_law_y"]
def sc__law_shows:FnScope ["_law_leaves","_law_x","_law_y","_law_leaf","_law_hue"] mB (ah mz):=Mh
abbrev iu:SB:=top 80
abbrev mC:List Str:=["_law_leaves","_law_wide","_law_high"]
def sc__law_floor_rows:FnScope ["_law_leaves","_law_wide","_law_high","_law_lines_here","_law_y"] mC (ah iu):=Mh
abbrev mD:SB:=aR (top 56) 1
abbrev mF:List Str:=["self","word"]
def DK:FnScope ["self","word"] mF (ah mD):=Mh
abbrev mG:SB:=top 31
abbrev mH:List Str:=["x","y"]
def DL:FnScope ["x","y"] mH (ah mG):=Mh
abbrev mI:SB:=top 13
abbrev mJ:List Str:=["family","x","y"]
def sc_home:FnScope ["family","x","y","width","height","slant"] mJ (ah mI):=Mh
abbrev iy:SB:=aR (top 20) 2
abbrev cB:List Str:=["self","x","y"]
def DM:FnScope ["self","x","y"] cB (ah iy):=Mh
abbrev iz:SB:=aR (top 21) 2
abbrev iA:List Str:=["self","x","y"]
def sc_Over_shows:FnScope ["self","x","y","hue"] iA (ah iz):=Mh
abbrev iB:SB:=aR (top 22) 2
abbrev iC:List Str:=["self","x","y"]
def DN:FnScope ["self","x","y"] iC (ah iB):=Mh
abbrev iD:SB:=aR (top 23) 2
abbrev iE:List Str:=["self","x","y"]
def DO:FnScope ["self","x","y"] iE (ah iD):=Mh
abbrev iF:SB:=aR (top 24) 2
abbrev iG:List Str:=["self","x","y"]
def DP:FnScope ["self","x","y"] iG (ah iF):=Mh
abbrev iH:SB:=aR (top 25) 2
abbrev iI:List Str:=["self","x","y"]
def sc_Rehue_shows:FnScope ["self","x","y","hue"] iI (ah iH):=Mh
abbrev mK:SB:=top 32
abbrev mL:List Str:=["pattern","x","y"]
def DQ:FnScope ["pattern","x","y"] mL (ah mK):=Mh
abbrev iJ:SB:=top 33
abbrev mM:List Str:=["pattern","x","y","many"]
def DR:FnScope ["pattern","x","y","many"] mM (ah iJ):=Mh
abbrev iK:SB:=aR (top 56) 7
abbrev mN:List Str:=["self"]
def DU:FnScope ["self"] mN (ah iK):=Mh
abbrev mQ:SB:=aR (top 56) 3
abbrev iL:List Str:=["self","many"]
def sc_Floor_lay:FnScope ["self","many","ahead"] iL (ah mQ):=Mh
abbrev mR:SB:=top 83
abbrev mU:List Str:=["_law_floor","_law_many","_law_bare"]
def sc__law_lay:FnScope ["_law_floor","_law_many","_law_bare","_law_found","_law_refused"] mU (ah mR):=Mh
abbrev mV:SB:=top 79
abbrev mW:List Str:=["_law_found","_law_due"]
def sc__law_texts:FnScope ["_law_found","_law_due","_law_k"] mW (ah mV):=Mh
abbrev mY:SB:=aR (top 44) 1
abbrev mZ:List Str:=["self","allowed"]
def DV:FnScope ["self","allowed"] mZ (ah mY):=Mh
abbrev ng:SB:=aR (top 44) 2
abbrev nh:List Str:=["self","allowed"]
def sc_Reading_take:FnScope ["self","allowed","sign"] nh (ah ng):=Mh
abbrev nj:SB:=top 47
abbrev nq:List Str:=["reading","least","most"]
def sc_line_from:FnScope ["reading","least","most","line","column"] nq (ah nj):=Mh
abbrev nt:SB:=top 48
abbrev nu:List Str:=["reading"]
def sc_lines_from:FnScope ["reading","lines","width"] nu (ah nt):=Mh
abbrev nv:SB:=top 45
abbrev nw:List Str:=["reading"]
def sc_number_from:FnScope ["reading","written"] nw (ah nv):=Mh
abbrev ny:SB:=top 46
abbrev nz:List Str:=["reading"]
def sc_shift_from:FnScope ["reading","x"] nz (ah ny):=Mh
abbrev nA:SB:=top 10
abbrev nB:List Str:=["first","second"]
def sc_levelled:FnScope ["first","second","times","rest"] nB (ah nA):=Mh
abbrev nC:SB:=top 12
abbrev nD:List Str:=["first","second"]
def sc_spread:FnScope ["first","second","pair","width"] nD (ah nC):=Mh
abbrev nE:SB:=top 19
abbrev nF:List Str:=["lines","family"]
def sc_hues_by_home:FnScope ["lines","family","hues","row","line","column","sign"] nF (ah nE):=Mh
abbrev nG:SB:=aR (top 20) 0
abbrev nH:List Str:=["self","place","lines","first","second"]
def DY:FnScope ["self","place","lines","first","second"] nH (ah nG):=Mh
abbrev nI:SB:=top 49
abbrev nJ:List Str:=["reading"]
def sc_motif_from:FnScope ["reading","place","lines","first","second"] nJ (ah nI):=Mh
abbrev nK:SB:=aR (top 23) 0
abbrev nM:List Str:=["self","form"]
def DZ:FnScope ["self","form"] nM (ah nK):=Mh
abbrev nN:SB:=aR (top 24) 0
abbrev nO:List Str:=["self","form"]
def D0:FnScope ["self","form"] nO (ah nN):=Mh
abbrev nP:SB:=aR (top 21) 0
abbrev nQ:List Str:=["self","above","below"]
def D1:FnScope ["self","above","below"] nQ (ah nP):=Mh
abbrev nR:SB:=aR (top 22) 0
abbrev nS:List Str:=["self","form","x","y"]
def D2:FnScope ["self","form","x","y"] nS (ah nR):=Mh
abbrev nU:SB:=aR (top 25) 0
abbrev nV:List Str:=["self","form","old","new"]
def D3:FnScope ["self","form","old","new"] nV (ah nU):=Mh
abbrev iM:SB:=top 50
abbrev gw:List Str:=["reading","around"]
def sc_over_from:FnScope ["reading","around","above","below"] gw (ah iM):=Mh
abbrev iN:SB:=top 51
abbrev gx:List Str:=["reading","around"]
def sc_shifted_from:FnScope ["reading","around","shift"] gx (ah iN):=Mh
abbrev iO:SB:=top 52
abbrev gy:List Str:=["reading","around"]
def sc_rehue_from:FnScope ["reading","around","old","new"] gy (ah iO):=Mh
abbrev iP:SB:=top 53
abbrev cM:List Str:=["reading","around"]
def sc_form_from:FnScope ["reading","around","sign"] cM (ah iP):=Mh
abbrev nW:SB:=aR (top 44) 0
abbrev nX:List Str:=["self","text"]
def D4:FnScope ["self","text"] nX (ah nW):=Mh
abbrev nY:SB:=aR (top 43) 0
abbrev nZ:List Str:=["self","text","shifts","form"]
def D5:FnScope ["self","text","shifts","form"] nZ (ah nY):=Mh
abbrev oa:SB:=top 11
abbrev og:List Str:=["one","two"]
def sc_measure:FnScope ["one","two","last"] og (ah oa):=Mh
abbrev oh:SB:=top 14
abbrev oi:List Str:=["one","two"]
def sc_met:FnScope ["one","two","common","width","rise","start","gap","climbs","steps"] oi (ah oh):=Mh
abbrev oj:SB:=top 15
abbrev ol:List Str:=["family"]
def D6:FnScope ["family"] ol (ah oj):=Mh
abbrev om:SB:=top 16
abbrev oq:List Str:=["family"]
def D7:FnScope ["family"] oq (ah om):=Mh
abbrev iQ:SB:=aR (top 20) 1
abbrev cC:List Str:=["self"]
def D8:FnScope ["self"] cC (ah iQ):=Mh
abbrev iR:SB:=aR (top 21) 1
abbrev iS:List Str:=["self"]
def sc_Over_family:FnScope ["self","first"] iS (ah iR):=Mh
abbrev iT:SB:=aR (top 22) 1
abbrev iU:List Str:=["self"]
def D9:FnScope ["self"] iU (ah iT):=Mh
abbrev iV:SB:=aR (top 23) 1
abbrev iW:List Str:=["self"]
def Ea:FnScope ["self"] iW (ah iV):=Mh
abbrev iX:SB:=aR (top 24) 1
abbrev iY:List Str:=["self"]
def Eb:FnScope ["self"] iY (ah iX):=Mh
abbrev iZ:SB:=aR (top 25) 1
abbrev ja:List Str:=["self"]
def Ec:FnScope ["self"] ja (ah iZ):=Mh
abbrev ot:SB:=top 54
abbrev ou:List Str:=["text"]
def sc_read:FnScope ["text","reading","form","family"] ou (ah ot):=Mh
abbrev ow:SB:=top 37
abbrev oy:List Str:=["one","two","width","height"]
def sc_first_unlike:FnScope ["one","two","width","height","y","x"] oy (ah ow):=Mh
abbrev oz:SB:=aR (top 8) 0
abbrev oA:List Str:=["self","x","y"]
def Ed:FnScope ["self","x","y"] oA (ah oz):=Mh
abbrev oB:SB:=aR (top 56) 2
abbrev oC:List Str:=["self","pattern"]
def Ee:FnScope ["self","pattern"] oC (ah oB):=Mh
abbrev oE:SB:=aR (top 56) 4
abbrev oF:List Str:=["self","text"]
def sc_Floor_change:FnScope ["self","text","pattern","cell"] oF (ah oE):=Mh
abbrev oG:SB:=top 84
abbrev oH:List Str:=["_law_floor","_law_text"]
def sc__law_change:FnScope ["_law_floor","_law_text","_law_found","_law_e"] oH (ah oG):=Mh
abbrev oI:SB:=top 85
abbrev oJ:List Str:=["_law_laid","_law_lines_here"]
def sc__law_parted:FnScope ["_law_laid","_law_lines_here","_law_y","_law_x"] oJ (ah oI):=Mh
abbrev oK:SB:=top 59
abbrev oM:List Str:=["_law_found"]
def Ef:FnScope ["_law_found"] oM (ah oK):=Mh
abbrev oN:SB:=top 76
abbrev oO:List Str:=["_law_found","_law_due"]
def sc__law_numbers:FnScope ["_law_found","_law_due","_law_k"] oO (ah oN):=Mh
abbrev oP:SB:=top 78
abbrev oQ:List Str:=["_law_found","_law_due"]
def sc__law_seven:FnScope ["_law_found","_law_due","_law_k"] oQ (ah oP):=Mh
abbrev oR:SB:=top 81
abbrev oS:List Str:=["_law_lines_here"]
def sc__law_counts:FnScope ["_law_lines_here","_law_found","_law_line","_law_sign"] oS (ah oR):=Mh
abbrev jb:SB:=top 34
abbrev oU:List Str:=["pattern"]
def Eg:FnScope ["pattern"] oU (ah jb):=Mh
abbrev oV:SB:=top 35
abbrev oW:List Str:=["family","rows","x","y"]
def sc_round_row:FnScope ["family","rows","x","y","cell","row"] oW (ah oV):=Mh
abbrev oX:SB:=top 39
abbrev oY:List Str:=["row","sign","many"]
def Eh:FnScope ["row","sign","many"] oY (ah oX):=Mh
abbrev jc:SB:=top 40
abbrev oZ:List Str:=["pattern","left","top","right","bottom"]
def sc_count_all:FnScope ["pattern","left","top","right","bottom","family","rows","many","again","counts","y","times","row","hue","sign"] oZ (ah jc):=Mh
abbrev pd:SB:=aR (top 56) 8
abbrev pe:List Str:=["self"]
def Ei:FnScope ["self"] pe (ah pd):=Mh
abbrev pf:SB:=aR (top 56) 9
abbrev ph:List Str:=["self"]
def Ej:FnScope ["self"] ph (ah pf):=Mh
abbrev pi:SB:=aR (top 56) 6
abbrev pj:List Str:=["self"]
def El:FnScope ["self"] pj (ah pi):=Mh
abbrev pk:SB:=top 82
abbrev pp:List Str:=["_law_floor","_law_text","_law_size","_law_laid","_law_rest","_law_many"]
def sc__law_view:FnScope ["_law_floor","_law_text","_law_size","_law_laid","_law_rest","_law_many","_law_found"] pp (ah pk):=Mh
abbrev pq:SB:=aR (top 56) 0
abbrev pr:List Str:=["self","text","width","height"]
def Em:FnScope ["self","text","width","height"] pr (ah pq):=Mh
abbrev gz:SB:=top 87
abbrev pv:List Str:=["_law_script"]
def sc_law:FnScope ["_law_script","_law_six_here","_law_size","_law_lines_here","_law_floor","_law_stands","_law_laid","_law_deeds","_law_draw","_law_many","_law_refused","_law_found","_law_new","_law_due","_law_rest"] pv (ah gz):=Mh
variable{c i:Nat}
def atC{t:Kq}:StrLaws.At t #[[c].toArray] t.length i↔(cs t)[i]?=be c:=by
 have e:Builtin.Str.subAt t #[[c].toArray] i=(((cs t).drop i).take 1==[c]):=StrLaws.subAt_eq t #[[c].toArray] i;have e2:((cs t).drop i).take 1=[c]↔(cs t)[i]?=be c:=by
  rw[List.take_one,List.head?_drop];cases(cs t)[i]?<;>simp
 unfold StrLaws.At;rw[e,beq_iff_eq,e2];refine#[λh=>h.2,λh=>#[?_,h]];have:=(G1.mp h).1;rw[bb]at this;exact this
variable{A B:List Nat}
def En{t:Kq}(ht:cs t=A++c::B)(no:c∉A):∃i rest,Builtin.Str.occurrences t #[[c].toArray] 0 t.length 1=i::rest/\i=A.length:=by
 have a0:StrLaws.At t #[[c].toArray] t.length A.length:=atC.mpr (by rw[ht,HD (GO _),Nat.sub_self];rfl);rcases StrLaws.occ_head t #[[c].toArray] 1 (GO _)with⟨_,h⟩|⟨i,r,e,h1,h2⟩
 .exact absurd a0 (h _)
 .refine#[i,r,e,?_];rcases Nat.lt_trichotomy i A.length with q|q|q
  .have:=atC.mp h1;rw[ht,Hv q]at this;exact absurd (Hz this) no
  .exact q
  .exact absurd a0 (h2 _ q)
def gA(x:List Nat){l:List (List Nat)}(h:l≠[]):rowsL (x::l)=x++47::rowsL l:=by
 cases l with
 |nil=>exact absurd rfl h
 |cons y r=>rfl
def Eo{w:Nat}(hi:i<w):∀(L:List (List Nat)) (j:Nat) (h:j<L.length),(∀x∈L,x.length=w)->rowsL (L.set j (L[j].set i c))=(rowsL L).set (j*(w+1)+i) c:=by
 intro L;induction L with
 |nil=>intro j h;exact absurd h (IL j)
 |cons x L ih=>
  intro j h hw;have xw:=hw x GU;by_cases e:L=[]
  .subst e;have:j=0:=by simp at h;lia
   subst this;simp[rowsL]
  .cases j with
   |zero=>
    show rowsL (x.set i c::L)=_;rw[gA _ e,gA _ e,Nat.zero_mul,Jo,Kc _ _ KK]
   |succ j=>
    have h':j<L.length:=Nat.lt_of_succ_lt_succ h;show rowsL (x::L.set j (L[j].set i c))=_;rw[gA _ (λz=>e (by have:=congrArg Ii z;simpa using this)),gA _ e,ih j h' (λy hy=>hw y (GR _ hy))];rw[Kd _ _ (by rw[xw,Ip];lia),xw,show(j+1)*(w+1)+i-w=(j*(w+1)+i)+1 by rw[Ip];lia];rfl
def jd{a:Int}(h:B12 a):91∉numL a:=by
 have hs:=numL_is h;intro hy;unfold isNumL at hs;rcases hs with⟨c,h1,h2⟩|⟨c,h1,h2⟩|⟨c,h1,h2⟩|⟨c,h1,h2⟩<;>rw[h2]at hy<;>simp at hy<;>lia
structure Pat.Re(p:Pat)(A B:List Nat)(l:Leaf)(ls:List Leaf):Prop where
 leaves:p.leaves=l::ls
 no:91∉A
 tl:p.tl=A++91::(rowsL (l.rows.map cs)++B)
 rows:Rows l.rows
 re:∀L':List Kq,Rows L'->∃q:Pat,q.leaves={l with rows:=L'}::ls/\q.tl=A++91::(rowsL (L'.map cs)++B)/\q.depth=p.depth/\(∀x y,q.Lat x y↔p.Lat x y)/\q.Wf
def Pat.re_ex:∀{p:Pat},p.Wf->∃A B l ls,p.Re A B l ls:=by
 intro p;induction p with
 |mot L a b c d=>
  intro h;exact#[[],_,_,[],rfl,HW,rfl,h.1,λL' h'=>#[.mot L' a b c d,rfl,rfl,rfl,λx y=>Iff.rfl,h',h.2]]
 |over p q Sl Tt=>
  intro h;obtain⟨A,B,l,ls,r⟩:=Sl h.1;refine#[40::A,B++124::(q.tl++[41]),l,ls++q.leaves,by rw[Pat.leaves,r.leaves];rfl,λz=>?_,by rw[Pat.tl,r.tl];simp,r.rows,λL' h'=>?_]
  .rcases GP.mp z with z|z
   .exact absurd z Lj
   .exact r.no z
  .obtain⟨p',e1,e2,e3,e4,e5⟩:=r.re L' h';exact#[.over p' q,by rw[Pat.leaves,e1];rfl,by rw[Pat.tl,e2];simp,by rw[Pat.depth,Pat.depth,e3],λx y=>by simp only[Pat.Lat,e4],e5,h.2]
 |sh a b p ih=>
  intro h;obtain⟨A,B,l,ls,r⟩:=ih h.2.2;refine#[115::(numL a++44::(numL b++58::A)),B,l.by 1 0 0 1 (-a) (-b),ls.map λl=>l.by 1 0 0 1 (-a) (-b),by rw[Pat.leaves,r.leaves];rfl,λz=>?_,by rw[Pat.tl,r.tl];simp[Leaf.by],r.rows,λL' h'=>?_]
  .have n1:=jd h.1;have n2:=jd h.2.1;have n3:=r.no;simp[n1,n2,n3]at z
  .obtain⟨p',e1,e2,e3,e4,e5⟩:=r.re L' h';exact#[.sh a b p',by rw[Pat.leaves,e1];rfl,by rw[Pat.tl,e2];simp,by rw[Pat.depth,Pat.depth,e3],λx y=>by simp only[Pat.Lat,e4],h.1,h.2.1,e5]
 |mir p ih=>
  intro h;obtain⟨A,B,l,ls,r⟩:=ih h;refine#[109::A,B,l.by (-1) 0 0 1 0 0,ls.map λl=>l.by (-1) 0 0 1 0 0,by rw[Pat.leaves,r.leaves];rfl,λz=>?_,by rw[Pat.tl,r.tl];rfl,r.rows,λL' h'=>?_]
  .rcases GP.mp z with z|z
   .exact absurd z Lj
   .exact r.no z
  .obtain⟨p',e1,e2,e3,e4,e5⟩:=r.re L' h';exact#[.mir p',by rw[Pat.leaves,e1];rfl,by rw[Pat.tl,e2];rfl,by rw[Pat.depth,Pat.depth,e3],λx y=>by simp only[Pat.Lat,e4],e5]
 |tur p ih=>
  intro h;obtain⟨A,B,l,ls,r⟩:=ih h;refine#[116::A,B,l.by 0 1 (-1) 0 0 0,ls.map λl=>l.by 0 1 (-1) 0 0 0,by rw[Pat.leaves,r.leaves];rfl,λz=>?_,by rw[Pat.tl,r.tl];rfl,r.rows,λL' h'=>?_]
  .rcases GP.mp z with z|z
   .exact absurd z Lj
   .exact r.no z
  .obtain⟨p',e1,e2,e3,e4,e5⟩:=r.re L' h';exact#[.tur p',by rw[Pat.leaves,e1];rfl,by rw[Pat.tl,e2];rfl,by rw[Pat.depth,Pat.depth,e3],λx y=>by simp only[Pat.Lat,e4],e5]
 |hue f g p ih=>
  intro h;obtain⟨A,B,l,ls,r⟩:=ih h.2.2;refine#[104::(numL f++(numL g++A)),B,(l.by 1 0 0 1 0 0).dye f g,ls.map λl=>(l.by 1 0 0 1 0 0).dye f g,by rw[Pat.leaves,r.leaves];rfl,λz=>?_,by rw[Pat.tl,r.tl];simp[Leaf.by,Leaf.dye],r.rows,λL' h'=>?_]
  .have h1:1<=f/\f<=6:=h.1;have h2:1<=g/\g<=6:=h.2.1;have n1:=jd (a:=f) #[KK,KK];have n2:=jd (a:=g) #[KK,KK];have n3:=r.no;simp[n1,n2,n3]at z
  .obtain⟨p',e1,e2,e3,e4,e5⟩:=r.re L' h';exact#[.hue f g p',by rw[Pat.leaves,e1];rfl,by rw[Pat.tl,e2];simp,by rw[Pat.depth,Pat.depth,e3],λx y=>by simp only[Pat.Lat,e4],h.1,h.2.1,e5]
def Ep{w:Nat}:∀(L:List (List Nat)),L≠[]->(∀x∈L,x.length=w)->(rowsL L).length+1=L.length*(w+1):=by
 intro L;induction L with
 |nil=>intro h;exact absurd rfl h
 |cons x L ih=>
  intro _ hw;have xw:=hw x GU;by_cases e:L=[]
  .subst e;show x.length+1=1*(w+1);lia
  .have:=ih e λy hy=>hw y (GR _ hy);rw[gA _ e,G0,GV,GV,Ip];lia
variable{k:Nat}
def vP{y:Kq}(h:k<y.length):cs ((Txt.slice y v7 (be (k:Int))++#[[c].toArray])++Txt.slice y (be ((k:Int)+1)) v7)=(cs y).set k c:=by
 have e1:HT.sIx y.length y.length (be (k:Int))=k:=by rw[HT.sIx_nat];lia
 have e2:HT.sIx y.length 0 (be ((k:Int)+1))=k+1:=by
  have:=HT.sIx_nat y.length 0 (k+1);rw[show((k:Int)+1)=(((k+1:Nat)):Int)by lia,this];lia
 rw[bD,bD,slice_cps,slice_cps,e1,e2,HT.sIx_none,HT.sIx_none,Jq,IM,List.set_eq_take_append_cons_drop,if_pos (by rw[bb];exact h)];show((cs y).take k++[c])++(HP (k+1) (cs y)).take (y.length-(k+1))=_;rw[HQ (l:=HP (k+1) (cs y)) (by rw[HE,bb];lia),HA];rfl
variable{p:Pat}
def Pat.Re.put{l:Leaf}{ls:List Leaf}(r:p.Re A B l ls)(ok:p.Ok){w j:Nat}(hw:∀s∈l.rows,s.length=w)(hj:j<l.rows.length)(hi:i<w)(hc:aW c){s':Kq}(hs:cs s'=(cs l.rows[j]).set i c):∃q:Pat,q.Ok/\q.depth=p.depth/\q.leaves={l with rows:=l.rows.set j s'}::ls/\A.length+1+j*(w+1)+i<p.text.length/\∀t':Kq,cs t'=(cs p.text).set (A.length+1+j*(w+1)+i) c->t'=q.text:=by
 obtain⟨m,w',w8,hr⟩:=r.rows;have lj:=hr l.rows[j] (Hk hj);have hL:Rows (l.rows.set j s'):=by
  refine#[by rw[Hx];exact m,w',w8,λs K0=>?_];rcases Ke K0 with q|q
  .exact hr s q
  .subst q;refine#[by rw[<-bb,hs,Hx,bb];exact lj.1,λd hd=>?_];rw[hs]at hd;rcases Ke hd with q|q
   .exact lj.2 d q
   .rw[q];exact hc
 obtain⟨q,e1,e2,e3,e4,e5⟩:=r.re _ hL;obtain⟨fw,fh,fs,F,fb⟩:=ok.fits;refine#[q,#[e5,by rw[e3];exact ok.deep,fw,fh,fs,#[F.f,λx y=>(F.lat x y).trans (e4 x y).symm],fb],e3,e1,?_];have lw:∀x∈l.rows.map cs,x.length=w:=λx hx=>by
  obtain⟨s,q1,q2⟩:=Hd.mp hx;rw[<-q2,bb];exact hw s q1
 have jm:j<(l.rows.map cs).length:=by rw[GQ];exact hj
 have key:=Eo (c:=c) hi (l.rows.map cs) j jm lw;have e6:(l.rows.set j s').map cs=(l.rows.map cs).set j ((l.rows.map cs)[j].set i c):=by rw[Kf,hs,List.getElem_map]
 have ll:j*(w+1)+i<(rowsL (l.rows.map cs)).length:=by
  have h1:=Ep (l.rows.map cs) (λz=>by rw[z]at jm;exact absurd jm (IL j)) lw;have h2:=JQ (w+1) (show j+1<=(l.rows.map cs).length from jm);rw[Ip]at h2;lia
 refine#[?_,λt' ht=>?_]
 .rw[<-bb,cv,r.tl,G0,GV,G0];lia
 apply gm;rw[ht,cv,cv,e2,e6,key,r.tl];rw[Kd _ _ KK,show A.length+1+j*(w+1)+i-A.length=(j*(w+1)+i)+1 by lia,G7,Kc _ _ ll]
def PatD:D->Prop:=λx=>∃p:Pat,x=p.D/\p.Ok
def vQ(x:Int):∃c,atI (cs ".123456") (x%7)=be c/\aW c:=by
 rcases(KK:x%7=0\/x%7=1\/x%7=2\/x%7=3\/x%7=4\/x%7=5\/x%7=6)with e|e|e|e|e|e|e<;>rw[e]
 .exact#[46,Lf,.inl rfl]
 .exact#[49,Lf,.inr KK]
 .exact#[50,Lf,.inr KK]
 .exact#[51,Lf,.inr KK]
 .exact#[52,Lf,.inr KK]
 .exact#[53,Lf,.inr KK]
 .exact#[54,Lf,.inr KK]
structure ComF(p q:Pat)(w h s:Int):Prop where
 f:Fam0 w h s
 lat:∀x y,InF w h s x y↔p.Keeps x y/\q.Keeps x y
def nown(z:SD):Bool:=z.all λo=>match o with|some (.own _)=>false|_=>true
def NoOwn.of{z:SD}(h:nown z=true):NoOwn z:=λi ds e=>by
 have:=HF.mp h _ (Hz e);cases this
structure Deed where
 w:Kq
 p:Pat
 d:D
 l:Int
def Deed.D(e:Deed):My.D:=.tup [.str e.w,e.d,.int e.l]
structure Fl where
 p:Pat
 d:D
 w:Int
 h:Int
 l:Int
 ds:List Deed
def Fl.fs(f:Fl)(q:KF):List (Kq×D):=[("pattern",f.d),("text",.str f.p.text),("width",.int f.w),("height",.int f.h),("laid",.int f.l),("deeds",.ptr q)]
def Fl.M(f:Fl)(a q:KF):MS:=[(q,.lst (f.ds.map Deed.D)),(a,.ins "Floor" (f.fs q))]
variable{a:KF}{o:MO}
def dZ{p:KF}{M:MS}(h:p≠a):mget ((p,o)::M) a=mget M a:=if_neg h
def cD{M:MS}:mget ((a,o)::M) a=be o:=if_pos rfl
def eA{p:KF}{o':MO}{M:MS}(h:p≠a):mput ((p,o)::M) a o'=(p,o)::mput M a o':=if_neg h
def df{o':MO}{M:MS}:mput ((a,o)::M) a o'=(a,o')::M:=if_pos rfl
variable{f:Fl}{q:KF}
def Fl.ma(h:a≠q):mget (f.M a q) a=be (.ins "Floor" (f.fs q)):=(dZ (Ne.symm h)).trans cD
def Fl.mq:mget (f.M a q) q=be (.lst (f.ds.map Deed.D)):=cD
def Fl.put(h:a≠q):mput (f.M a q) a o=[(q,.lst (f.ds.map Deed.D)),(a,o)]:=(eA (Ne.symm h)).trans (congrArg _ df)
def gB:(f.fs q).lookup ("pattern":Kq)=be f.d:=rfl
def vR:(f.fs q).lookup ("text":Kq)=be (.str f.p.text):=rfl
def fJ:(f.fs q).lookup ("width":Kq)=be (.int f.w):=rfl
def je:(f.fs q).lookup ("height":Kq)=be (.int f.h):=rfl
def eB:(f.fs q).lookup ("laid":Kq)=be (.int f.l):=rfl
def vS:(f.fs q).lookup ("deeds":Kq)=be (.ptr q):=rfl
structure Fl.Ok(f:Fl):Prop where
 is:bp f.p f.d
 ok:f.p.Ok
 w1:1<=f.w
 w2:f.w<=30
 h1:1<=f.h
 h2:f.h<=30
 l0:0<=f.l
 l1:f.l<=f.h
 de:f.ds.length<=20
 dd:∀e∈f.ds,bp e.p e.d/\e.p.Ok/\0<=e.l/\e.l<=f.h
def Fl.keep(f:Fl)(w:Kq):Fl:={f with ds:=(f.ds++[Deed.mk w f.p f.d f.l]).drop (f.ds.length+1-20)}
def Fl.lay(f:Fl)(n:Int):Fl:={f.keep "lay" with l:=f.l+n}
def Fl.stand(f:Fl)(p:Pat)(d:D):Fl:={f with p:=p,d:=d}
def subM.refl{M:MS}(h:(au M).Nodup):subM M M:=#[λ_ h=>h,h]
def Fl.nd(h:a≠q):(au (f.M a q)).Nodup:=by
 show[q,a].Nodup;simp[Ne.symm h]
def Fl.sub(h:a≠q):subM (f.M a q) (f.M a q):=subM.refl (Fl.nd h)
def Er(xs:List D):cutD xs (be (-20)) v7=xs.drop (xs.length-20):=by
 have e:HT.sIx xs.length 0 (be (-20))=xs.length-20:=by
  unfold HT.sIx;simp;lia
 unfold cutD;rw[e,show HT.sIx xs.length xs.length v7=xs.length from rfl];exact HQ Ln
def aw(p:Pat)(w lo:Int)(n:Nat):List D:=(GS n).map λ(j:Nat)=>D.str (aK p 0 (lo+(j:Int)) w.toNat)
def pw(p:Pat)(w lo:Int)(n:Nat):aw p w lo n++[D.str (aK p 0 (lo+(n:Int)) w.toNat)]=aw p w lo (n+1):=by
 unfold aw;rw[Im,Hl];rfl
def Es(p:Pat)(w lo:Int)(n:Nat):cu (.lst (aw p w lo n))=true:=by
 unfold cu;induction n with
 |zero=>rfl
 |succ n ih=>
  rw[<-pw];have:∀xs:List D,flats xs=true->flats (xs++[D.str (aK p 0 (lo+(n:Int)) w.toNat)])=true:=λxs=>by
   induction xs with
   |nil=>intro _;rfl
   |cons x xs ih=>intro h;unfold flats at h;rw[Hj]at h;show flats (x::(xs++_))=true;unfold flats;rw[h.1,ih h.2];rfl
  exact this _ ih
def vT(p:Pat)(w:Int){l:Int}(n:Nat)(l0:0<=l):cutD (aw p w 0 (l.toNat+n)) (be l) v7=aw p w l n:=by
 have hl:(aw p w 0 (l.toNat+n)).length=l.toNat+n:=by unfold aw;simp
 have e:HT.sIx (l.toNat+n) 0 (be l)=l.toNat:=by
  unfold HT.sIx;simp only;rw[if_neg KK];lia
 unfold cutD;rw[hl,e,show HT.sIx (l.toNat+n) (l.toNat+n) v7=l.toNat+n from rfl];unfold aw;apply HN;intro i;by_cases h:i<n
 .rw[IC KK,Jn,GX,GX,Hs KK,Hs h];simp;congr 1;lia
 .rw[Hr Ta,Hr Ta]
def Same2(p q:Pat)(w h:Int):Prop:=∀x y:Int,0<=x->x<w->0<=y->y<h->p.show x y=q.show x y
def First2(p q:Pat)(w h x y:Int):Prop:=(0<=x/\x<w/\0<=y/\y<h)/\p.show x y≠q.show x y/\∀x' y':Int,0<=x'->x'<w->0<=y'->(y'<y\/(y'=y/\x'<x))->p.show x' y'=q.show x' y'
def due7(p:Pat)(left top:Int)(m:Nat)(n k:Nat):List Int:=(GS 7).map λ(v:Nat)=>cK p v left top m n+cntN (λi=>p.show (left+i) (top+n)) v k
def Et(ok:p.Ok)(left top:Int)(m n k:Nat):∃u:Nat,u<7/\p.show (left+k) (top+n)=(u:Int)/\(due7 p left top m n k)[u]?=be (cK p u left top m n+cntN (λi=>p.show (left+i) (top+n)) u k)/\((due7 p left top m n k).map D.int).set u (D.int (cK p u left top m n+cntN (λi=>p.show (left+i) (top+n)) u k+1))=(due7 p left top m n (k+1)).map D.int:=by
 have b:=Pat.show_le ok.wf (by have:=ok.deep;lia) (left+k) (top+n);obtain⟨u,hu⟩:∃u:Nat,p.show (left+k) (top+n)=(u:Int):=#[(p.show (left+k) (top+n)).toNat,KK];have u7:u<7:=KK
 have cs:∀v:Int,cntN (λi=>p.show (left+i) (top+n)) v (k+1)=cntN (λi=>p.show (left+i) (top+n)) v k+if p.show (left+k) (top+n)=v then 1 else 0:=λv=>rfl
 refine#[u,u7,hu,by unfold due7;simp[u7],?_];unfold due7;rw[Iq,Iq];have:=vJ (n:=7) (i:=u) (λ(v:Nat)=>D.int (cK p v left top m n+cntN (λi=>p.show (left+i) (top+n)) v k)) (λ(v:Nat)=>D.int (cK p v left top m n+cntN (λi=>p.show (left+i) (top+n)) v (k+1))) (λv hv ne=>by
  show D.int _=D.int _;rw[cs,hu,if_neg KK,Iv])
 refine Eq.trans ?_ this;show List.set _ u _=List.set _ u _;rw[cs,hu,if_pos rfl,Jr];rfl
def Eu(p:Pat)(left top:Int)(m n:Nat):due7 p left top m n m=due7 p left top m (n+1) 0:=by
 unfold due7;apply Io;intro v _;show _=(cK p v left top m n+_)+0;rw[Iv]
def Ev(p:Pat)(left top:Int)(m n:Nat):due7 p left top m n 0=cL p left top m n:=by
 unfold due7 cL;apply Io;intro v _;show _+0=_;rw[Iv]
variable{w lo:Int}{n:Nat}
def Ew{v:D}(h:(aw p w lo n)[k]?=be v):k<n/\v=.str (aK p 0 (lo+(k:Int)) w.toNat):=by
 have hk:k<n:=by have:=(G1.mp h).1;unfold aw at this;simpa using this
 unfold aw at h;simp[hk]at h;exact#[hk,h.symm]
variable{h:Int}
def Ey(h0:0<=h)(h6:h<=6):aP h<128:=by unfold aP;split<;>lia
def Ez(ok:p.Ok)(x y:Int)(n:Nat):(aK p x y n).cps.all (·<128)=true:=by
 rw[<-Ja,HF];intro c hc;have hc:c∈cs (aK p x y n):=hc;rw[db]at hc;obtain⟨k,_,rfl⟩:=Hd.mp hc;have b:=Pat.show_le ok.wf (by have:=ok.deep;lia) (x+(k:Int)) y;exact decide_eq_true (Ey b.1 b.2)
variable{y:Int}
def EA{v:D}(h:(bP (aK p 0 y n))[k]?=be v):k<n/\v=.str #[[aP (p.show (0+(k:Int)) y)].toArray]:=by
 unfold bP at h;have hk:k<n:=by have:=(G1.mp h).1;rwa [GQ,show(aK p 0 y n).cps.toList.length=n by show(cs (aK p 0 y n)).length=n;rw[db];simp]at this
 rw[GX,show(aK p 0 y n).cps.toList=(GS n).map λ(k:Nat)=>aP (p.show (0+(k:Int)) y)from db p 0 y n]at h;simp[hk]at h;exact#[hk,by rw[<-h,Ig]]
def EB{u:Nat}(h:u<7):∃rest,Builtin.Str.occurrences ".123456" #[[aP (u:Int)].toArray] 0 (".123456":Kq).length 1=u::rest:=by
 rcases(KK:u=0\/u=1\/u=2\/u=3\/u=4\/u=5\/u=6)with e|e|e|e|e|e|e<;>subst e<;>exact#[[],Lf]
def pz(h:k<n):atI (aw p w lo n) (k:Int)=be (.str (aK p 0 (lo+(k:Int)) w.toNat)):=bB (by unfold aw;simp[h])
def vU(h:k<n):atI (cs (aK p 0 y n)) (k:Int)=be (aP (p.show k y)):=bB (by rw[db];simp[h])
def vV(h:k<=n):cutD (aw p w lo n) v7 (be (k:Int))=aw p w lo k:=by
 have hl:(aw p w lo n).length=n:=by unfold aw;simp
 have e:HT.sIx n n (be (k:Int))=k:=by
  unfold HT.sIx;simp only;rw[if_neg KK];lia
 unfold cutD;rw[hl,e,show HT.sIx n 0 v7=0 from rfl,IM];unfold aw;rw[<-Ka,Kb,Jq,Ih h]
def EC{a b:Int}(a0:0<=a)(b0:0<=b)(h:aP a=aP b):a=b:=by
 unfold aP at h;split at h<;>split at h<;>lia
def EE{a b:Nat}(h:(#[[a].toArray]:Kq)=#[[b].toArray]):a=b:=by cases h;rfl
def over_ok{q:Pat}(k1:p.Ok)(k2:q.Ok)(a:p.depth<5)(b:q.depth<5)(MU:(Pat.over p q).Fits):(Pat.over p q).Ok:=#[#[k1.wf,k2.wf],by simp only[Pat.depth];lia,MU]
def First2.uniq{q:Pat}{x x' y':Int}(a:First2 p q w h x y)(b:First2 p q w h x' y'):x=x'/\y=y':=by
 obtain⟨⟨a1,a2,a3,a4⟩,a5,a6⟩:=a;obtain⟨⟨b1,b2,b3,b4⟩,b5,b6⟩:=b;have h1:¬(y'<y\/(y'=y/\x'<x)):=λz=>b5 (a6 x' y' b1 b2 b3 z);have h2:¬(y<y'\/(y=y'/\x<x')):=λz=>a5 (b6 x y a1 a2 a3 z);lia
def First2.not{q:Pat}{x:Int}(a:First2 p q w h x y)(s:Same2 p q w h):False:=a.2.1 (s x y a.1.1 a.1.2.1 a.1.2.2.1 a.1.2.2.2)
def EF{l m:Nat}(h:l+m<=n):cutD (aw p w 0 n) (be (l:Int)) (be ((l:Int)+m))=aw p w l m:=by
 have hl:(aw p w 0 n).length=n:=by unfold aw;simp
 have e1:HT.sIx n 0 (be (l:Int))=l:=by
  unfold HT.sIx;simp only;rw[if_neg KK];lia
 have e2:HT.sIx n n (be ((l:Int)+m))=l+m:=by
  unfold HT.sIx;simp only;rw[if_neg KK];lia
 unfold cutD;rw[hl,e1,e2,Nat.add_sub_cancel_left];unfold aw;apply HN;intro i;by_cases hi:i<m
 .rw[IC hi,Jn,GX,GX,Hs KK,Hs hi];simp
 .rw[Hr Ta,Hr Ta]
def vW{w:Kq}(h:f.ds.length=min n 20):(f.keep w).ds.length=min (n+1) 20:=by
 show((f.ds++[_]).drop _).length=_;rw[HE,G0,IS,h];lia
def dg{α:Type}{ps:List α}{s:Nat}{r:α}(f:α->D)(h:ps[s]?=be r):atI (ps.map f) (s:Int)=be (f r):=bB (by rw[GX,h];rfl)
section
variable {V:Bx}
abbrev jg(V:Bx):Prop:=V.D 1 "_law_at" lu Bs
def EG(T:V.T "_law_at" lr lu)(uB:V.m "len"):jg V:=by
 refine Tx.okDW T DG (λds R h=>?_) (λf cdv A outer s H E J hr=>⟨_,((ai (br (fR (aa 1) (bz uB (ac (aa 0) af))) (ao (aC (ae (aa 0) (aa 1)))) bg)
   (ao (aC ad)))),λds R h=>?_⟩)
 .obtain⟨ns,k,rfl,_⟩:=h;rfl
 .obtain⟨ns,k,rfl,hk,hR⟩:=h;refine ite2 (λc=>?_) (λc=>?_)
  .have c':=of_decide_eq_true c;rw[GQ]at c';exact#[_,kU hk c',hR]
  .have c':=of_decide_eq_false (Ho.mpr c);rw[GQ]at c';rw[Br KK]at hR;exact hR
abbrev fK(V:Bx):Prop:=V.D 2 "_law_draws" lx BF
def EH(T:V.T "_law_draws" lv lx)(uA:V.m "range")(KN:jg V):fK V:=by
 refine Tx.okDW T sc__law_draws (λds R h=>?_) (λf cdv A outer s H E J hr=>⟨_,((ai (am 3 sc__law_draws.nd (az KN hr (ac (aa 0) (ac (aa 1) af))))
   (ai (eU 4 sc__law_draws.nd af)
   (ai (br (bC (aD (az KN hr (ac (aa 0) (ac (aj (aa 1) ad) af))) ad) ad) (ai (bN 5 PassesOwn.never rfl sc__law_draws.nd uA (aa 2) (ai (cT 4 (aD (aa 3) ad))
     (ao (am 3 sc__law_draws.nd (aX (aa 3) ad)))))
    (cS 4 (ao (aC (aa 4))))) bg)
   (ai (am 6 sc__law_draws.nd (aD (aj (aa 3) ad) ad))
   (ai (bN 5 PassesOwn.never rfl sc__law_draws.nd uA (aa 2) (ai (am 6 sc__law_draws.nd (aD (aj (aj (ax (aa 6) ad) (az KN hr (ac (aa 0) (ac (aj (aj (aa 1) ad) (aD (aa 5) ad)) af)))) (aa 5)) ad))
    (ao (cT 4 (aD (aD (ax (aa 6) ad) ad) ad)))))
   (cS 4 (ao (aC (aa 4)))))))))),λds R h=>?_⟩)
 .obtain⟨_,_,_,rfl,_⟩:=h;rfl
 .obtain⟨ns,k,n,rfl,hk,hn,hR⟩:=h;refine#[λd=>∃v:Int,d=.int v,#[ns,k,rfl,hk,_,rfl],?_];rintro _⟨left,rfl⟩;k_places;refine#[Ln,?_];refine#[ns,k+1,rfl,KK,Lj,ite2 (λ_=>?_) (λ_=>?_)]
  .refine#[#[KK,KK],λi z=>∃(xs:List Int) (l:Int) (o p:Option D),z=[be (.rol (ns.map D.int)),be (.int k),be (.int n),be (.int l),be (.own (xs.map D.int)),o,p]/\xs.length=i/\Drawn xs,#[[],left,_,_,rfl,rfl,(λx hx=>by cases hx)],?_,?_]
   .rintro i x z hi⟨xs,l,o,p,rfl,hl,hd⟩;k_places;have i_:i<n:=by simpa using(G1.mp hi).1
    refine#[Lj,Ta,?_];refine#[λd=>∃v:Int,d=.int v,#[#[Lj,Lj],_,rfl],?_];rintro _⟨l',rfl⟩;k_places;rw[um];exact#[_,l',_,_,rfl,by simp[hl],uo hd (cX Lj) (cY Lj)]
   .rintro z⟨xs,l,o,p,rfl,hl,hd⟩;k_places;exact hR xs (by simpa using hl) hd
  .refine#[λd=>∃v:Int,d=.int v/\0<=v/\v<2147483647,#[Lj,_,rfl,cX Lj,cY Lj],?_];rintro _⟨O4,rfl,s1,s2⟩;k_places;refine#[#[KK,KK],λi z=>∃(xs:List Int) (sd:Int) (o:Option D),z=[be (.rol (ns.map D.int)),be (.int k),be (.int n),be (.int left),be (.own (xs.map D.int)),o,be (.int sd)]/\xs.length=i/\Drawn xs/\0<=sd/\sd<2147483647,#[[],O4,_,rfl,rfl,(λx hx=>by cases hx),s1,s2],?_,?_]
   .rintro i x z hi⟨xs,sd,o,rfl,hl,hd,s1,s2⟩;k_places;have i_:i<n:=by simpa using(G1.mp hi).1
    have ex:x=.int (i:Int):=by simp[i_]at hi;exact hi.symm
    subst ex;refine#[λd=>∃v:Int,d=.int v/\0<=v/\v<2147483647,#[.inr #[Lj,Lj],Lj,ns,_,rfl,KK,Lj,_,rfl,cX Lj,cY Lj],?_];rintro _⟨Sm,rfl,t1,t2⟩;k_places;refine#[.inr #[Lj,Lj],Lj,Lj,Ta,?_];rw[um];exact#[_,Sm,_,rfl,by simp[hl],uo hd (cX Lj) (cY Lj),t1,t2]
   .rintro z⟨xs,sd,o,rfl,hl,hd,_⟩;k_places;exact hR xs (by simpa using hl) hd
abbrev pA(V:Bx):Prop:=V.D 1 "_law_lines" lz BQ
def EI(T:V.T "_law_lines" ly lz)(uA:V.m "range")(uB:V.m "len"):pA V:=by
 refine Tx.okDW T sc__law_lines (λds R h=>?_) (λf cdv A outer s H E J hr=>⟨_,((ai (am 1 sc__law_lines.nd (aj ad (aD (ae (aa 0) ad) ad)))
   (ai (am 2 sc__law_lines.nd (aj ad (aD (ae (aa 0) ad) ad)))
   (ai (fU (bC (aD (ae (aa 0) ad) ad) ad) (ai (am 1 sc__law_lines.nd (aj ad (aD (ae (aa 0) ad) ad)))
    (ao (am 2 sc__law_lines.nd (aj ad (aD (ae (aa 0) ad) ad))))) bg)
   (ai (am 3 sc__law_lines.nd (ae (bt (ac ay (ac ay (ac ay (ac ay af))))) (aD (ae (aa 0) ad) ad)))
   (ai (eU 4 sc__law_lines.nd af)
   (ai (bN 5 PassesOwn.never rfl sc__law_lines.nd uA (aa 2) (ai (am 6 sc__law_lines.nd ay)
    (ai (bN 7 PassesOwn.never rfl sc__law_lines.nd uA (aa 1) (ai (am 8 sc__law_lines.nd (aj (ax (aa 5) (aa 1)) (aa 7)))
     (ai (am 9 sc__law_lines.nd (aD (aX (ae (aa 0) (aj ad (aX (aa 8) ad))) (ae (bt (ac ad (ac ad af))) (aD (aa 8) ad))) ad))
     (ao (am 6 sc__law_lines.nd (aj (aa 6) (ae (aa 3) (aD (aa 9) (bz uB (ac (aa 3) af))))))))))
    (ao (cT 4 (aa 6))))))
   (cS 4 (ao (aC (aa 4))))))))))),λds R h=>?_⟩)
 .obtain⟨_,rfl,_⟩:=h;rfl
 .obtain⟨xs,rfl,hl,hd,hR⟩:=h;have D':∀k:Nat,k<40->atI (xs.map D.int) (k:Int)=be (.int (cell xs k)):=λk hk=>cJ KK (by simpa using(KK:k<xs.length));have a0:atI (xs.map D.int) 0=be (.int (cell xs 0)):=D' 0 Lj;have a1:atI (xs.map D.int) 1=be (.int (cell xs 1)):=D' 1 Lj;have a2:atI (xs.map D.int) 2=be (.int (cell xs 2)):=D' 2 Lj;have a3:atI (xs.map D.int) 3=be (.int (cell xs 3)):=D' 3 Lj;clear hl;refine#[λd=>∃v:Int,d=.int v/\1<=v/\v<=8,#[_,a0,Lj,_,rfl,KK],?_];rintro _⟨w0,rfl,Tu⟩;k_places;refine#[λd=>∃v:Int,d=.int v/\1<=v/\v<=8,#[_,a1,Lj,_,rfl,KK],?_];rintro _⟨t0,rfl,Tv⟩;k_places;refine#[λz=>∃w t:Nat,z=[be (.lst (xs.map D.int)),be (.int w),be (.int t),v7,v7,v7,v7,v7,v7,v7]/\(1<=w/\w<=8)/\(1<=t/\t<=8),#[_,a2,Lj,ite2 (λ_=>?_) (λ_=>?_)],?_]
  .refine#[λd=>∃v:Nat,d=.int v/\1<=v/\v<=8,#[_,a0,Lj,(1+cell xs 0%8).toNat,by rw[Hg KK],KK],?_];rintro _⟨w,rfl,hw⟩;k_places;refine#[λd=>∃v:Nat,d=.int v/\1<=v/\v<=8,#[_,a1,Lj,(1+cell xs 1%8).toNat,by rw[Hg KK],KK],?_];rintro _⟨t,rfl,ht⟩;k_places;exact#[w,t,rfl,hw,ht]
  .obtain⟨w,rfl⟩:∃w:Nat,w0=(w:Int):=#[w0.toNat,KK];obtain⟨t,rfl⟩:∃t:Nat,t0=(t:Int):=#[t0.toNat,KK];exact#[w,t,rfl,KK,KK]
  rintro _⟨w,t,rfl,hw,ht⟩;k_places;obtain⟨sg,es,hs⟩:=BM (cell xs 3);refine#[λd=>d=.str sg,#[Ln,_,a3,Lj,_,es,rfl],?_];rintro _ rfl;k_places;refine#[Ln,?_];refine#[#[KK,KK],λk z=>∃(L:List Kq) (o1 o2 o3 o4 o5:Option D),z=[be (.lst (xs.map D.int)),be (.int w),be (.int t),be (.str sg),be (.own (L.map D.str)),o1,o2,o3,o4,o5]/\L.length=k/\∀l∈L,l.length=w/\∀c∈cs l,aW c,#[[],_,_,_,_,_,rfl,rfl,(λx hx=>by cases hx)],?_,?_]
  .rintro j x z hj⟨L,o1,o2,o3,o4,o5,rfl,hL,MV⟩;k_places;have LR:j<t:=by simpa using(G1.mp hj).1
   have ex:x=.int (j:Int):=by simp[LR]at hj;exact hj.symm
   subst ex;refine#[λd=>d=.str "",rfl,?_];rintro _ rfl;k_places;refine#[#[KK,KK],λi z=>∃(ln:Kq) (o3 o4 o5:Option D),z=[be (.lst (xs.map D.int)),be (.int w),be (.int t),be (.str sg),be (.own (L.map D.str)),be (.int j),be (.str ln),o3,o4,o5]/\ln.length=i/\∀c∈cs ln,aW c,#[_,_,_,_,rfl,rfl,(λc hc=>by rw[uq]at hc;cases hc)],?_,?_]
   .rintro i y z hi⟨ln,o3,o4,o5,rfl,NK,O5⟩;k_places;have i_:i<w:=by simpa using(G1.mp hi).1
    have ey:y=.int (i:Int):=by simp[i_]at hi;exact hi.symm
    subst ey;have pb:=bQ (a:=(j:Int)) (d:=(w:Int)) (A:=7) (B:=8) KK KK;have pn:0<=(j:Int)*(w:Int):=Jb KK KK;refine#[λd=>∃p:Nat,d=.int p/\p<=63,#[.inl #[KK,KK],((j:Int)*w+i).toNat,by rw[Hg KK],KK],?_];rintro _⟨p,rfl,hp⟩;k_places;obtain⟨m,em,hm⟩:=BN (p:Int);have ap:=D' (8+p/2) KK;have ec:((8+p/2:Nat):Int)=8+(p:Int)/2:=KK
    rw[ec]at ap;refine#[λd=>∃v:Int,d=.int v,#[#[Lj,Lj],_,ap,Ln,Lj,_,em,#[KK,KK],Lj,_,rfl],?_];rintro _⟨v,rfl⟩;k_places;obtain⟨c,⟨h1,h2⟩,h3⟩:=BH hs v;refine#[λd=>∃x:Kq,d=.str x/\x.length=i+1/\∀c∈cs x,aW c,#[h1,by have:=hs.1;lia,c,#[h1,h2],?_,_,rfl,BO NK O5 h3],?_]
    .rw[NK];show i+1<=1000000;lia
    rintro _⟨x,rfl,g1,g2⟩;k_places;exact#[x,_,_,_,rfl,g1,g2]
   .rintro z⟨ln,o3,o4,o5,rfl,NK,O5⟩;k_places;have O6:ln.length=w:=by simpa using NK
    refine#[by simp[hL];lia,?_];rw[BP];refine#[_,_,_,_,_,_,rfl,by simp[hL],λl hl=>?_];rcases Hi.mp hl with q|q
    .exact MV l q
    .rw[GN.mp q];exact#[O6,O5]
  .rintro z⟨L,o1,o2,o3,o4,o5,rfl,hL,MV⟩;k_places;exact hR L (Rows.of ht.1 ht.2 (by simpa using hL) hw.1 hw.2 MV)
abbrev pB(V:Bx):Prop:=V.D 1 "_law_shift_pair" lD BG
def EJ(T:V.T "_law_shift_pair" lC lD)(uD:V.m "int"):pB V:=by
 refine Tx.okDW T sc__law_shift_pair (λds R h=>?_) (λf cdv A outer s H E J hr=>⟨_,((ai (br (bC (aD (aX (ae (aa 0) ad) ad) ad) ad) (ao (aC (bt (ac (aL (ac (aj ad (aD (ae (aa 0) ad) ad)) (ac ad af))) (ac (aL (ac ad (ac (aj ad (aD (ae (aa 0) ad) ad)) af))) af))))) bg)
   (ai (br (bC (aD (aX (ae (aa 0) ad) ad) ad) ad) (ao (aC (bt (ac (aL (ac (aj ad (aD (ae (aa 0) ad) ad)) (ac ad af))) (ac (aL (ac (bq (aD (ae (aa 0) ad) ad) ad) (ac (aj ad (aD (ae (aa 0) ad) ad)) af))) af))))) bg)
   (ai (am 1 sc__law_shift_pair.nd (bq (aD (ae (aa 0) ad) ad) ad))
   (ai (am 2 sc__law_shift_pair.nd (bq (aD (ae (aa 0) ad) ad) ad))
   (ai (am 3 sc__law_shift_pair.nd (bq (aD (ae (aa 0) ad) ad) ad))
   (ai (am 4 sc__law_shift_pair.nd (bq (aD (ae (aa 0) ad) ad) ad))
   (ai (am 1 sc__law_shift_pair.nd (aj (aa 1) (fW uD (ac (fT (dh (aa 1) ad) (fS (dh (aa 2) ad))) af))))
   (ai (br (bC (ax (aa 1) (aa 4)) (ax (aa 2) (aa 3))) (ao (aC (bt (ac (aL (ac (aa 1) (ac (aa 2) af))) (ac (aL (ac (ck (aa 2)) (ac (aa 1) af))) af))))) bg)
   (ao (aC (bt (ac (aL (ac (aa 1) (ac (aa 2) af))) (ac (aL (ac (aa 3) (ac (aa 4) af))) af)))))))))))))),λds R h=>?_⟩)
 .obtain⟨_,rfl,_⟩:=h;rfl
 .obtain⟨xs,rfl,hl,hd,hR⟩:=h;have a3:=cJ (xs:=xs) (k:=3) Lj (show 3<xs.length by lia);have a4:=cJ (xs:=xs) (k:=4) Lj (show 4<xs.length by lia);have a5:=cJ (xs:=xs) (k:=5) Lj (show 5<xs.length by lia);have a6:=cJ (xs:=xs) (k:=6) Lj (show 6<xs.length by lia);have a7:=cJ (xs:=xs) (k:=7) Lj (show 7<xs.length by lia);generalize cell xs 3=x3 at*;generalize cell xs 4=x4 at*;generalize cell xs 5=x5 at*;generalize cell xs 6=x6 at*;generalize cell xs 7=x7 at*;clear hl hd;refine#[_,a3,#[Lj,Lj],Lj,ite2 (λ_=>?_) (λ_=>?_)]
  .refine#[_,a4,Lj,Ln,_,a5,Lj,Ln,Ln,hR _ _ _ _ KK KK KK KK ?_];have p:0<(1+x4%6)*(1+x5%6):=G6 KK KK;lia
  refine#[_,a3,#[Lj,Lj],Lj,ite2 (λ_=>?_) (λ_=>?_)]
  .refine#[_,a4,Lj,Ln,_,a6,Lj,_,a5,Lj,Ln,Ln,hR _ _ _ _ KK KK KK KK ?_];have p:0<(1+x4%6)*(1+x5%4):=G6 KK KK;lia
  refine#[λd=>∃v:Int,d=.int v/\-12<=v/\v<=12,#[_,a4,Lj,_,rfl,KK],?_];rintro _⟨a,rfl,ha⟩;k_places;refine#[λd=>∃v:Int,d=.int v/\-12<=v/\v<=12,#[_,a5,Lj,_,rfl,KK],?_];rintro _⟨b,rfl,hb⟩;k_places;refine#[λd=>∃v:Int,d=.int v/\-12<=v/\v<=12,#[_,a6,Lj,_,rfl,KK],?_];rintro _⟨c,rfl,hc⟩;k_places;refine#[λd=>∃v:Int,d=.int v/\-12<=v/\v<=12,#[_,a7,Lj,_,rfl,KK],?_];rintro _⟨d,rfl,e_⟩;k_places;refine#[λx=>∃v:Int,x=.int v/\(-12<=v/\v<=12)/\¬(v=0/\b=0),ite2 (λe=>?_) (λe=>?_),?_]
  .have e':=of_decide_eq_true e;by_cases QS:b=0
   .refine#[_,rfl,?_];subst e' QS;simp
   .refine#[_,rfl,?_];subst e';simp[QS]
  .have e':=of_decide_eq_false (Ho.mpr e);refine#[_,rfl,?_];simp;lia
  rintro _⟨a,rfl,ha,MX⟩;k_places;refine#[.inl (i64 ha.1 ha.2),.inl (i64 hb.1 hb.2),ite2 (λe=>?_) (λe=>?_)]
  .refine#[Ln,Ln,Ln,hR a b (-b) a ha hb KK ha ?_];rw[IJ];intro z;have s1:0<=a*a:=sq0 a;have s2:0<=b*b:=sq0 b;have z1:a*a=0:=by omega
   have z2:b*b=0:=Lm
   exact MX #[(Ji.mp z1).elim id id,(Ji.mp z2).elim id id]
  .have e':=of_decide_eq_false (Ho.mpr e);exact#[Ln,Ln,Ln,hR a b c d ha hb hc e_ e']
abbrev pC(V:Bx):Prop:=V.D 1 "_law_motif_text" lG BR
def EK(T:V.T "_law_motif_text" lF lG)(uM:V.m "str"):pC V:=by
 refine Tx.okDW T sc__law_motif_text (λds R h=>?_) (λf cdv A outer s H E J hr=>⟨_,((ai (am 3 sc__law_motif_text.nd (aj (aj (aj (aj (aj (aj (aj ay (du uM (ac (ae (aa 1) ad) af))) ay) (du uM (ac (ae (aa 1) ad) af))) ay) (du uM (ac (ae (aa 2) ad) af))) ay) (du uM (ac (ae (aa 2) ad) af))))
   (ao (aC (aj (aj (aj ay (ku (aa 0))) (aa 3)) ay))))),λds R h=>?_⟩)
 .obtain⟨_,_,_,_,_,rfl,_⟩:=h;rfl
 .obtain⟨L,a,b,c,d,rfl,hL,ha,hb,hc,hd,hR⟩:=h;have la:=bF ha;have lb:=bF hb;have lc:=bF hc;have ld:=bF hd;have l1:(";":Kq).length=1:=rfl;have l2:(",":Kq).length=1:=rfl;have l3:("[":Kq).length=1:=rfl;have l4:("]":Kq).length=1:=rfl;have ls:=uu hL;have lj:=StrLaws.join_length_le "/" L;unfold B12 at ha hb hc hd;refine#[λx=>x=.str ((((((((";":Kq)++(toString a:String))++",")++(toString b:String))++";")++(toString c:String))++",")++(toString d:String)),#[_,rfl,KK,?_,?_,_,rfl,KK,?_,?_,_,rfl,KK,?_,?_,_,rfl,KK,?_,rfl],?_]
  .lia
  .rw[aI];lia
  .rw[aI,aI];lia
  .rw[aI,aI,aI];lia
  .rw[aI,aI,aI,aI];lia
  .rw[aI,aI,aI,aI,aI];lia
  .rw[aI,aI,aI,aI,aI,aI];lia
  rintro _ rfl;k_places;have lg:(Txt.join "/" L).length<=72:=by
   have e:Txt.join "/" L=Str.join "/" L:=StrLaws.glued_eq_join _ _;rw[e];exact GY lj ls
  refine#[L,kW L,KK,?_,?_,?_,hR]
  .lia
  .repeat rw[aI]
   lia
  .repeat rw[aI]
   lia
abbrev jh(V:Bx):Prop:=V.D 3 "_law_motif" lJ BT
def EL(T:V.T "_law_motif" lH lJ)(w9:fK V)(O7:pA V)(O8:pB V)(O9:pC V):jh V:=by
 refine Tx.okDW T sc__law_motif (λds R h=>?_) (λf cdv A outer s H E J hr=>⟨_,((ai (am 2 sc__law_motif.nd (az w9 hr (ac (aa 0) (ac (aa 1) (ac ad af)))))
   (ai (am 3 sc__law_motif.nd (az O7 hr (ac (aa 2) af)))
   (ai (zw rfl (az O8 hr (ac (aa 2) af)) (dg_cons 4 sc__law_motif.nd (dg_cons 5 sc__law_motif.nd dO)))
   (ai (am 6 sc__law_motif.nd (aL (ac (aa 3) (ac (aa 4) (ac (aa 5) (ac (aL (ac ad (ac ad (ac ad (ac ad (ac ad (ac ad af))))))) (ac (bt (ac ad (ac ad (ac ad (ac ad (ac ad (ac ad (ac ad af)))))))) af)))))))
   (ao (aC (bt (ac (az O9 hr (ac (aa 3) (ac (aa 4) (ac (aa 5) af)))) (ac ad (ac (bt (ac (aa 6) af)) af))))))))))),λds R h=>?_⟩)
 .obtain⟨_,_,rfl,_⟩:=h;rfl
 .obtain⟨ns,k,rfl,hk,hR⟩:=h;refine#[λx=>∃xs:List Int,x=.lst (xs.map D.int)/\xs.length=40/\Drawn xs,#[ns,k,40,rfl,hk,Lj,λxs h1 h2=>#[xs,rfl,h1,h2]],?_];rintro _⟨xs,rfl,hl,hd⟩;k_places;refine#[λx=>∃L:List Kq,x=.lst (L.map D.str)/\Rows L,#[xs,rfl,KK,hd,λL h=>#[L,rfl,h]],?_];rintro _⟨L,rfl,hL⟩;k_places;refine#[xs,rfl,KK,hd,λa b c d ha hb hc e_ hn=>#[rfl,?_]];refine#[λx=>x=(bu L a b c d).D,#[Ln,Ln,Ln,rfl],?_];rintro _ rfl;k_places;exact#[L,a,b,c,d,rfl,hL,ha,hb,hc,e_,Ln,Ln,hR L a b c d hL ha hb hc e_ hn]
abbrev pD(V:Bx):Prop:=V.D 1 "_law_wrapped" lK B2
def EM(T:V.T "_law_wrapped" ir lK)(uM:V.m "str")(w_:V.m "list")(uD:V.m "int"):pD V:=by
 refine Tx.okDW T sc__law_wrapped (λds R h=>?_) (λf cdv A outer s H E J hr=>⟨_,((ai (br (su (ae (aa 0) ad) ad) (ao (aC (aa 0))) bg)
   (ai (am 2 sc__law_wrapped.nd (bq (aD (aX (aa 1) ad) ad) ad))
   (ai (am 3 sc__law_wrapped.nd (bq (aD (aX (aa 1) ad) ad) ad))
   (ai (am 4 sc__law_wrapped.nd (aj ad (aD (aX (aa 1) ad) ad)))
   (ai (am 5 sc__law_wrapped.nd (aj ad (aD (aX (aa 1) ad) ad)))
   (ai (am 6 sc__law_wrapped.nd (aj (aj (aj (aj ay (du uM (ac (aa 2) af))) ay) (du uM (ac (aa 3) af))) ay))
   (ai (am 7 sc__law_wrapped.nd (ae (bt (ac ay (ac ay (ac (aa 6) (ac (aj (aj ay (du uM (ac (aa 4) af))) (du uM (ac (aa 5) af))) af))))) (aD (aa 1) ad)))
   (ai (am 8 sc__law_wrapped.nd (bt (ac (aL (ac (ck ad) (ac ad (ac ad (ac ad (ac ad (ac ad af))))))) (ac (aL (ac ad (ac ad (ac (ck ad) (ac ad (ac ad (ac ad af))))))) af))))
   (ai (am 8 sc__law_wrapped.nd (aj (aa 8) (bt (ac (aL (ac ad (ac ad (ac ad (ac ad (ac (ck (aa 2)) (ac (ck (aa 3)) af))))))) (ac (aL (ac ad (ac ad (ac ad (ac ad (ac ad (ac ad af))))))) af)))))
   (ai (am 9 sc__law_wrapped.nd (ae (aa 8) (aD (aa 1) ad)))
   (ai (eU 10 sc__law_wrapped.nd af)
   (ai (gT 11 PassesOwn.never rfl sc__law_wrapped.nd (ae (aa 0) ad) (ai (sG rfl (ae (aa 11) ad) (dg_cons 12 sc__law_wrapped.nd (dg_cons 13 sc__law_wrapped.nd (dg_cons 14 sc__law_wrapped.nd (dg_cons 15 sc__law_wrapped.nd (dg_cons 16 sc__law_wrapped.nd (dg_cons 17 sc__law_wrapped.nd dO)))))))
    (ai (am 18 sc__law_wrapped.nd (aL (ac (aj (ax (aa 12) (ae (aa 9) ad)) (ax (aa 13) (ae (aa 9) ad))) (ac (aj (ax (aa 12) (ae (aa 9) ad)) (ax (aa 13) (ae (aa 9) ad))) af))))
    (ai (am 18 sc__law_wrapped.nd (aj (aa 18) (aL (ac (aj (ax (aa 14) (ae (aa 9) ad)) (ax (aa 15) (ae (aa 9) ad))) (ac (aj (ax (aa 14) (ae (aa 9) ad)) (ax (aa 15) (ae (aa 9) ad))) af)))))
    (ai (am 16 sc__law_wrapped.nd (aj (aj (aa 16) (ax (aa 12) (ae (aa 9) ad))) (ax (aa 13) (ae (aa 9) ad))))
    (ai (am 17 sc__law_wrapped.nd (aj (aj (aa 17) (ax (aa 14) (ae (aa 9) ad))) (ax (aa 15) (ae (aa 9) ad))))
    (ai (am 19 sc__law_wrapped.nd (zm w_ (ac (ae (aa 11) ad) af)))
    (ai (fU (bC (aD (aa 1) ad) ad) (ao (sS 19 rfl (compScope (by change cV _ (ah ir) ["_law_part","_law_draw","_law_across","_law_down","_law_old","_law_new","_law_shift","_law_head","_law_ways","_law_by","_law_leaves","_law_leaf","_law_a","_law_b","_law_c","_law_d","_law_e","_law_f","_law_way","_law_hues"] _=true;decide+kernel)) sc__law_wrapped.nd (ae (aa 11) ad) (λcl s0 H0 fp=>(ae (bt (ac (aa 20) (ac (aa 5) af))) (fW uD (ac (dh (aa 20) (aa 4)) af)))))) bg)
    (ao (cT 10 (aL (ac (ae (aa 11) ad) (ac (ae (aa 11) ad) (ac (ae (aa 11) ad) (ac (aj (aa 18) (aL (ac (aa 16) (ac (aa 17) af)))) (ac (aa 19) af))))))))))))))))
   (cS 10 (ao (aC (bt (ac (aj (aa 7) (ae (aa 0) ad)) (ac (aj (ae (aa 0) ad) ad) (ac (aa 10) af)))))))))))))))))))),λds R h=>?_⟩)
 .obtain⟨_,_,rfl,_⟩:=h;rfl
 .obtain⟨p,draw,rfl,wf,hd,ht,hW⟩:=h;refine#[_,rfl,ite2 (λc=>?_) (λc=>?_)]
  .have c':=of_decide_eq_true c;exact hW.1 KK
  have c':=of_decide_eq_false (Ho.mpr c);have e_:p.depth<5:=KK
  refine#[λd=>∃v:Int,d=.int v/\B12 v,#[#[Lj,Lj],Lj,_,rfl,by unfold B12;lia],?_];rintro _⟨A,rfl,hA⟩;simp only[G7,G9,aT];refine#[λd=>∃v:Int,d=.int v/\B12 v,#[#[Lj,Lj],Lj,_,rfl,by unfold B12;lia],?_];rintro _⟨B,rfl,hB⟩;simp only[G7,G9,aT];refine#[λd=>∃v:Int,d=.int v/\1<=v/\v<=6,#[#[Lj,Lj],Lj,_,rfl,KK],?_];rintro _⟨d7,rfl,ho⟩;simp only[G7,G9,aT];refine#[λd=>∃v:Int,d=.int v/\1<=v/\v<=6,#[#[Lj,Lj],Lj,_,rfl,KK],?_];rintro _⟨new,rfl,hn⟩;simp only[G7,G9,aT];have l1:("s":Kq).length=1:=rfl;have l2:(",":Kq).length=1:=rfl;have l3:(":":Kq).length=1:=rfl;have l4:("h":Kq).length=1:=rfl;have lA:=bF hA;have lB:=bF hB;have lo:=fv ho;have ln:=fv hn;obtain⟨hs,b0,b1,b2,b3,b4,b5,e1,e2,hb,hl,hR⟩:=B0 hW e_ (k:=0) hA hB ho hn KK;unfold B12 at hA hB;refine#[λx=>x=.str ((((("s":Kq)++(toString A:String))++",")++(toString B:String))++":"),#[KK,?_,?_,KK,?_,?_,rfl],?_]
  .lia
  .rw[aI];lia
  .rw[aI,aI];lia
  .rw[aI,aI,aI];lia
  rintro _ rfl;simp only[G7,G9,aT];refine#[λx=>x=.str hs,#[KK,?_,KK,?_,Ln,Lj,_,e1,rfl],?_]
  .lia
  .rw[aI];lia
  rintro _ rfl;simp only[G7,G9,aT];refine#[λx=>x=.lst [D.tup [.int (-1),.int 0,.int 0,.int 1,.int 0,.int 0],D.tup [.int 0,.int 1,.int (-1),.int 0,.int 0,.int 0]],#[Ln,Ln,Ln,rfl],?_];rintro _ rfl;simp only[G7,G9,aT];refine#[λx=>x=.lst ([D.tup [.int (-1),.int 0,.int 0,.int 1,.int 0,.int 0],D.tup [.int 0,.int 1,.int (-1),.int 0,.int 0,.int 0]]++[D.tup [.int 1,.int 0,.int 0,.int 1,.int (-A),.int (-B)],D.tup [.int 1,.int 0,.int 0,.int 1,.int 0,.int 0]]),#[Ln,Ln,Ln,Ln,rfl],?_];rintro _ rfl;simp only[G7,G9,aT];refine#[λx=>x=.tup [.int b0,.int b1,.int b2,.int b3,.int b4,.int b5],#[Lj,_,e2,rfl],?_];rintro _ rfl;simp only[G7,G9,aT];refine#[Ln,?_];generalize D.str ((((("s":Kq)++(toString A:String))++",")++(toString B:String))++":")=sD;generalize D.lst ([D.tup [.int (-1),.int 0,.int 0,.int 1,.int 0,.int 0],D.tup [.int 0,.int 1,.int (-1),.int 0,.int 0,.int 0]]++[D.tup [.int 1,.int 0,.int 0,.int 1,.int (-A),.int (-B)],D.tup [.int 1,.int 0,.int 0,.int 1,.int 0,.int 0]])=wD;clear e1 e2 hW lA lB lo ln l1 l2 l3 l4 hA hB c';refine#[_,rfl,λk z=>∃x8 x9 n6 n8 O_ Pa Pb Pc LS:Option D,z=[be p.D,be (.int draw),be (.int A),be (.int B),be (.int d7),be (.int new),be sD,be (.str hs),be wD,be (.tup [.int b0,.int b1,.int b2,.int b3,.int b4,.int b5]),be (.own (((p.leaves.take k).map (Leaf.T (decide (draw%4=3)) d7 new b0 b1 b2 b3 b4 b5)).map Leaf.D)),x8,x9,n6,n8,O_,Pa,Pb,Pc,LS],#[_,_,_,_,_,_,_,_,_,rfl],?_,?_]
  .rintro k v z hk⟨x8,x9,n6,n8,O_,Pa,Pb,Pc,LS,rfl⟩;k_places;rw[GX]at hk;have p8:k<p.leaves.length:=by
    rcases H9 k p.leaves.length with q|q
    .exact q
    .rw[Hr q]at hk;cases hk
   have LU:p.leaves[k]?=be p.leaves[k]:=G5 p8;rw[LU]at hk;cases hk;obtain⟨gd,nr⟩:=Pat.leaf_good wf p.leaves[k] (Hk p8);have b7:(p.leaves.take k).length<=1000:=by rw[Ij];have:=Pat.leaves_32 hd;lia
   generalize p.leaves[k]=l at LU gd nr;obtain⟨r0,r1,r2,r3⟩:=nr.unit;obtain⟨q0,q1,q2,q3,q4,q5⟩:=hb;refine#[_,rfl,rfl,?_];simp only[G7,G9,aT];refine#[λx=>x=.tup [.int (l.w0*b0+l.w1*b2),.int (l.w0*b1+l.w1*b3)],#[_,rfl,.inr (n64 q0),_,rfl,.inr (n64 q2),_,rfl,.inr (n64 q1),_,rfl,.inr (n64 q3),Ln,rfl],?_];rintro _ rfl;simp only[G7,G9,aT];refine#[λx=>x=.tup [.int (l.w0*b0+l.w1*b2),.int (l.w0*b1+l.w1*b3),.int (l.w2*b0+l.w3*b2),.int (l.w2*b1+l.w3*b3)],#[_,rfl,.inr (n64 q0),_,rfl,.inr (n64 q2),_,rfl,.inr (n64 q1),_,rfl,.inr (n64 q3),Ln,Ln,rfl],?_];rintro _ rfl;simp only[G7,G9,aT];refine#[λx=>x=.int (l.w4+l.w0*b4+l.w1*b5),#[_,rfl,.inr (n64 q4),_,rfl,.inr (n64 q5),rfl],?_];rintro _ rfl;simp only[G7,G9,aT];refine#[λx=>x=.int (l.w5+l.w2*b4+l.w3*b5),#[_,rfl,.inr (n64 q4),_,rfl,.inr (n64 q5),rfl],?_];rintro _ rfl;simp only[G7,G9,aT];refine#[λx=>x=.lst (l.hues.map D.int),#[_,rfl,rfl],?_];rintro _ rfl;simp only[G7,G9,aT];refine#[λz=>∃LS:List Int,LS=(Leaf.T (decide (draw%4=3)) d7 new b0 b1 b2 b3 b4 b5 l).hues/\z=[be p.D,be (.int draw),be (.int A),be (.int B),be (.int d7),be (.int new),be sD,be (.str hs),be wD,be (.tup [.int b0,.int b1,.int b2,.int b3,.int b4,.int b5]),be (.own (((p.leaves.take k).map (Leaf.T (decide (draw%4=3)) d7 new b0 b1 b2 b3 b4 b5)).map Leaf.D)),be l.D,be (.int l.w0),be (.int l.w1),be (.int l.w2),be (.int l.w3),be (.int (l.w4+l.w0*b4+l.w1*b5)),be (.int (l.w5+l.w2*b4+l.w3*b5)),be (.tup [.int (l.w0*b0+l.w1*b2),.int (l.w0*b1+l.w1*b3),.int (l.w2*b0+l.w3*b2),.int (l.w2*b1+l.w3*b3)]),be (.lst (LS.map D.int))],#[Lj,ite2 (λc=>?_) (λc=>?_)],?_]
   .have c3:=of_decide_eq_true c;refine#[λx=>x=.lst ((l.hues.map (bI d7 new)).map D.int),#[_,rfl,by rw[GQ,gd.many];decide,λk ys=>ys=((l.hues.take k).map (bI d7 new)).map D.int,rfl,?_,?_],?_]
    .rintro k' x ys hx hl rfl;rw[GX]at hx;cases e:l.hues[k']? with
     |none=>rw[e]at hx;cases hx
     |some hu=>
      rw[e]at hx;cases hx;refine#[Ln,_,B1 hu d7 new,?_];dsimp only;rw[kY e];simp
    .rintro ys hl rfl;rw[GQ,Ir]
    .rintro _ rfl;k_places;exact#[_,by simp[Leaf.T,c3,Leaf.dye,Leaf.by],rfl]
   .have c3:=of_decide_eq_false (Ho.mpr c);exact#[_,by simp[Leaf.T,c3,Leaf.by],rfl]
   rintro _⟨hu,Sn,rfl⟩;k_places;refine#[_,rfl,_,rfl,_,rfl,Ln,Ln,Ln,by rw[GQ,GQ];lia,?_];have eT:(D.tup [.lst (l.rows.map D.str),.tup [.int l.a,.int l.b],.tup [.int l.c,.int l.d],.tup ([.int (l.w0*b0+l.w1*b2),.int (l.w0*b1+l.w1*b3),.int (l.w2*b0+l.w3*b2),.int (l.w2*b1+l.w3*b3)]++[.int (l.w4+l.w0*b4+l.w1*b5),.int (l.w5+l.w2*b4+l.w3*b5)]),.lst (hu.map D.int)])=(Leaf.T (decide (draw%4=3)) d7 new b0 b1 b2 b3 b4 b5 l).D:=by
    rw[Sn];by_cases c3:draw%4=3
    .simp[Leaf.T,c3,Leaf.D,Leaf.dye,Leaf.by]
    .simp[Leaf.T,c3,Leaf.D,Leaf.by]
   have e9:((p.leaves.take (k+1)).map (Leaf.T (decide (draw%4=3)) d7 new b0 b1 b2 b3 b4 b5)).map Leaf.D=((p.leaves.take k).map (Leaf.T (decide (draw%4=3)) d7 new b0 b1 b2 b3 b4 b5)).map Leaf.D++[(Leaf.T (decide (draw%4=3)) d7 new b0 b1 b2 b3 b4 b5 l).D]:=by
    rw[kY LU,Hl,Hl,G8,G8,HZ,HZ]
   rw[e9,<-eT];exact#[_,_,_,_,_,_,_,_,_,rfl]
  .rintro z⟨x8,x9,n6,n8,O_,Pa,Pb,Pc,LS,rfl⟩;k_places;rw[GQ,Ir];refine#[_,rfl,KK,_,rfl,Ln,hR]
abbrev ji(V:Bx):Prop:=V.D 1 "_law_gcd" lM Bw
def EN(T:V.T "_law_gcd" lL lM)(uP:V.m "abs"):ji V:=by
 refine Tx.okDW T sc__law_gcd (λds R h=>?_) (λf cdv A outer s H E J hr=>⟨_,((ai (am 0 sc__law_gcd.nd (eQ uP (ac (aa 0) af)))
   (ai (am 1 sc__law_gcd.nd (eQ uP (ac (aa 1) af)))
   (ai (fV PassesOwn.never (bU (aa 1) ad) (ao (zh 0 1 rfl sc__law_gcd.nd (ac (aa 1) (ac (aD (aa 0) (aa 1)) af)))))
   (ao (aC (aa 0))))))),λds R h=>?_⟩)
 .obtain⟨x,y,rfl,_⟩:=h;rfl
 .obtain⟨x,y,rfl,hR⟩:=h;refine#[λd=>d=.int (if x<0 then -x else x),rfl,?_];rintro _ rfl;k_places;refine#[λd=>d=.int (if y<0 then -y else y),rfl,?_];rintro _ rfl;k_places;have hx:0<=(if x<0 then -x else x):=by split<;>lia
  have hy:0<=(if y<0 then -y else y):=by split<;>lia
  have Pd:∀e,(e∣(if x<0 then -x else x)/\e∣(if y<0 then -y else y))↔(e∣x/\e∣y):=λe=>by rw[uk,uk]
  generalize (if x<0 then -x else x)=a at hx Pd ⊢;generalize (if y<0 then -y else y)=b at hy Pd ⊢;refine#[λm z=>∃a b:Int,z=[be (.int a),be (.int b)]/\0<=a/\0<=b/\(∀e,(e∣a/\e∣b)↔(e∣x/\e∣y))/\m=b.toNat,#[_,a,b,rfl,hx,hy,Pd,rfl],?_];rintro m z⟨a,b,rfl,ha,hb,MX,rfl⟩;k_places;refine ite2 (λc=>?_) (λc=>?_)
  .have c':¬b=0:=by simpa using c
   have q1:=cX (a:=a) (show 0<b by lia);have q2:=cY (a:=a) (show 0<b by lia);refine#[KK,_,?_,b,a%b,rfl,hb,q1,λe=>?_,rfl]
   .lia
   .rw[<-MX e];constructor
    .rintro⟨h1,h2⟩;exact#[(ul h1).mp h2,h1]
    .rintro⟨h1,h2⟩;exact#[h2,(ul h2).mpr h1]
  .have c':b=0:=by simpa using c
   subst c';have g:=(MX a).mp #[Int.dvd_refl a,Int.dvd_zero a];exact hR a ha g.1 g.2 λe h1 h2=>((MX e).mpr #[h1,h2]).1
abbrev jj(V:Bx):Prop:=V.D 1 "_law_on" lP Bv
def EO(T:V.T "_law_on" lN lP):jj V:=by
 refine Tx.okDW T sc__law_on (λds R h=>?_) (λf cdv A outer s H E J hr=>⟨_,((ai (am 4 sc__law_on.nd (bq (ax (ae (aa 0) ad) (ae (aa 1) ad)) (ax (ae (aa 0) ad) (ae (aa 1) ad))))
   (ao (aC (fT (dh (rZ (bq (ax (aa 2) (ae (aa 1) ad)) (ax (aa 3) (ae (aa 1) ad))) (aa 4)) ad) (fS (dh (rZ (bq (ax (ae (aa 0) ad) (aa 3)) (ax (ae (aa 0) ad) (aa 2))) (aa 4)) ad))))))),λds R h=>?_⟩)
 .obtain⟨a,b,c,d,u,v,rfl,_⟩:=h;rfl
 .obtain⟨a,b,c,d,u,v,rfl,ha,hb,hc,hd,hn,hR⟩:=h;have LV:∀{x:Int},x.natAbs<1073741824->-(2^64)<x/\x<2^64:=λh=>n64 (Nat.le_of_lt_succ h);refine#[λx=>x=.int (a*d-b*c),#[_,rfl,_,rfl,.inl (LV ha),_,rfl,_,rfl,.inl (LV hb),rfl],?_];rintro _ rfl;k_places;refine#[_,rfl,.inr (LV hd),_,rfl,.inr (LV hc),Lm,ite2 (λe=>?_) (λe=>?_)]
  .have e':=of_decide_eq_true e;refine#[_,rfl,.inl (LV ha),_,rfl,.inl (LV hb),Lm,?_];have q:decide ((a*v-b*u).fmod (a*d-b*c)=0)=decide ((u*d-v*c).fmod (a*d-b*c)=0/\(a*v-b*u).fmod (a*d-b*c)=0):=by simp[e']
   have g:R (.bl (decide ((a*v-b*u).fmod (a*d-b*c)=0))):=by rw[q];exact hR
   exact g
  .have e':=of_decide_eq_false (Ho.mpr e);have q:decide ((u*d-v*c).fmod (a*d-b*c)=0/\(a*v-b*u).fmod (a*d-b*c)=0)=false:=by simp[e']
   rw[q]at hR;exact hR
abbrev pE(V:Bx):Prop:=V.D 2 "_law_leaf_family" lR B4
def EQ(T:V.T "_law_leaf_family" lQ lR)(uP:V.m "abs")(LW:ji V)(LX:jj V):pE V:=by
 refine Tx.okDW T sc__law_leaf_family (λds R h=>?_) (λf cdv A outer s H E J hr=>⟨_,((ai (sG rfl (ae (aa 0) ad) (dg_cons 1 sc__law_leaf_family.nd (dg_cons 2 sc__law_leaf_family.nd (dg_cons 3 sc__law_leaf_family.nd (dg_cons 4 sc__law_leaf_family.nd (dg_cons 5 sc__law_leaf_family.nd (dg_cons 6 sc__law_leaf_family.nd dO)))))))
   (ai (am 7 sc__law_leaf_family.nd (aL (ac (aj (ax (aa 1) (ae (ae (aa 0) ad) ad)) (ax (aa 3) (ae (ae (aa 0) ad) ad))) (ac (aj (ax (aa 2) (ae (ae (aa 0) ad) ad)) (ax (aa 4) (ae (ae (aa 0) ad) ad))) af))))
   (ai (am 8 sc__law_leaf_family.nd (aL (ac (aj (ax (aa 1) (ae (ae (aa 0) ad) ad)) (ax (aa 3) (ae (ae (aa 0) ad) ad))) (ac (aj (ax (aa 2) (ae (ae (aa 0) ad) ad)) (ax (aa 4) (ae (ae (aa 0) ad) ad))) af))))
   (ai (am 9 sc__law_leaf_family.nd (az LW hr (ac (ae (aa 7) ad) (ac (ae (aa 8) ad) af))))
   (ai (am 10 sc__law_leaf_family.nd (aX (eQ uP (ac (bq (ax (ae (aa 7) ad) (ae (aa 8) ad)) (ax (ae (aa 7) ad) (ae (aa 8) ad))) af)) (aa 9)))
   (ai (am 11 sc__law_leaf_family.nd ad)
   (ai (fV PassesOwn.never (cF (bM (az LX hr (ac (aa 7) (ac (aa 8) (ac (aa 11) (ac (aa 9) af))))))) (ao (am 11 sc__law_leaf_family.nd (aj (aa 11) ad))))
   (ao (aC (aL (ac (aa 10) (ac (aa 9) (ac (aa 11) af)))))))))))))),λds R h=>?_⟩)
 .obtain⟨_,_,rfl,_⟩:=h;rfl
 .obtain⟨l,n,rfl,gd,nr,hR⟩:=h;obtain⟨h0,h1,h2,h3⟩:=nr.unit;obtain⟨z0,z1,z2,z3,ne,z5⟩:=Leaf.sizes gd nr;have ha:=gd.a;have hb:=gd.b;have hc:=gd.c;have hd:=gd.d;unfold B12 at ha hb hc hd;refine#[_,rfl,rfl,?_];simp only[G7,G9,aT];refine#[λx=>x=.tup [.int l.o0,.int l.o1],#[_,rfl,_,rfl,.inl (u64 h0),_,rfl,_,rfl,.inl (u64 h2),_,rfl,_,rfl,.inl (u64 h1),_,rfl,_,rfl,.inl (u64 h3),Ln,rfl],?_];rintro _ rfl;k_places;refine#[λx=>x=.tup [.int l.t0,.int l.t1],#[_,rfl,_,rfl,.inl (u64 h0),_,rfl,_,rfl,.inl (u64 h2),_,rfl,_,rfl,.inl (u64 h1),_,rfl,_,rfl,.inl (u64 h3),Ln,rfl],?_];rintro _ rfl;k_places;generalize l.o0=o0 at*;generalize l.o1=o1 at*;generalize l.t0=t0 at*;generalize l.t1=t1 at*;refine#[λx=>∃g:Int,x=.int g/\0<=g/\g∣o1/\g∣t1/\∀e,e∣o1->e∣t1->e∣g,#[_,rfl,_,rfl,o1,t1,rfl,λg q0 q1 q2 q3=>#[g,rfl,q0,q1,q2,q3]],?_];rintro _⟨g,rfl,q0,q1,q2,q3⟩;k_places;obtain⟨w,s,f⟩:=B3 ne q0 q1 q2 q3;have hg:=f.2.1;have k1:=bQ (a:=o0) (d:=t1) (A:=24) (B:=24) z0 z3;have k2:=bQ (a:=o1) (d:=t0) (A:=24) (B:=24) z1 z2;have Tw:=f.bd (N:=288) z5;have g9:=f.cells;have ew:(if o0*t1-o1*t0<0 then -(o0*t1-o1*t0)else o0*t1-o1*t0)/g=w:=by
   have hp:=G6 f.1 hg;have:(if o0*t1-o1*t0<0 then -(o0*t1-o1*t0)else o0*t1-o1*t0)=w*g:=by split<;>lia
   rw[this];exact Hq _ KK
  refine#[λx=>x=.int w,#[_,rfl,_,rfl,.inl (n64 z0),_,rfl,_,rfl,.inl (n64 z1),#[KK,KK],?_],?_]
  .exact congrArg D.int ew
  rintro _ rfl;k_places;refine#[λx=>x=.int 0,rfl,?_];rintro _ rfl;k_places;have hp:=G6 f.1 hg;refine#[λm z=>∃x:Int,z=[be l.D,be (.int l.w0),be (.int l.w1),be (.int l.w2),be (.int l.w3),be (.int l.w4),be (.int l.w5),be (.tup [.int o0,.int o1]),be (.tup [.int t0,.int t1]),be (.int g),be (.int w),be (.int x)]/\0<=x/\x<=s/\m=(s-x).toNat,#[_,0,rfl,KK,f.2.2.1,rfl],?_];rintro m z⟨x,rfl,x0,x1,rfl⟩;k_places;refine#[o0,o1,t0,t1,x,g,rfl,KK,KK,KK,KK,ne,?_];refine ite2 (λc=>?_) (λc=>?_)
  .have c':¬((x*t1-g*t0).fmod (o0*t1-o1*t0)=0/\(o0*g-o1*x).fmod (o0*t1-o1*t0)=0):=notT c;have xs:x≠s:=by
    rintro rfl;obtain⟨_,_,_,_,m',n',k',l',_,e1,e2,e3,e4⟩:=id f;exact c' (ui e3 e4)
   refine#[λd=>d=.int (x+1),rfl,?_];rintro _ rfl;k_places;exact#[_,KK,x+1,rfl,KK,KK,rfl]
  .have c':(x*t1-g*t0).fmod (o0*t1-o1*t0)=0/\(o0*g-o1*x).fmod (o0*t1-o1*t0)=0:=by
    exact notF c
   obtain⟨i,j,e1,e2⟩:=vc ne c';have:x=s:=f.uniq_lean e1 e2 x0 x1;subst this;exact#[Ln,hR w g x f KK]
abbrev pF(V:Bx):Prop:=V.D 1 "_law_in_family" lV Bu
def ER(T:V.T "_law_in_family" lU lV):pF V:=by
 refine Tx.okDW T DJ (λds R h=>?_) (λf cdv A outer s H E J hr=>#[_,((ao (aC (fT (dh (aD (aa 2) (ae (aa 0) ad)) ad) (fS (dh (aD (bq (aa 1) (ax (aX (aa 2) (ae (aa 0) ad)) (ae (aa 0) ad))) (ae (aa 0) ad)) ad)))))),λds R h=>?_])
 .obtain⟨w,h,s,x,y,rfl,_⟩:=h;rfl
 .obtain⟨w,h,s,x,y,rfl,hw,hh,Kj,hs,l8,hR⟩:=h;refine#[_,rfl,hh,ite2 (λc=>?_) (λc=>?_)]
  .have c':=of_decide_eq_true c;refine#[_,rfl,#[hh,Kj],_,rfl,.inr #[KK,KK],_,rfl,hw,?_];have e:decide ((x-y/h*s)%w=0)=decide (y%h=0/\(x-y/h*s)%w=0):=by simp[c']
   have g:R (.bl (decide ((x-y/h*s)%w=0))):=by rw[e];exact hR
   exact g
  .have c':=of_decide_eq_false (Ho.mpr c);have e:decide (y%h=0/\(x-y/h*s)%w=0)=false:=by simp[c']
   rw[e]at hR;exact hR
abbrev pG(V:Bx):Prop:=V.D 2 "_law_both" lY B7
def ES(T:V.T "_law_both" lW lY)(LW:ji V)(Pe:pF V):pG V:=by
  refine Tx.okDW T sc__law_both (λds R h=>?_) (λf cdv A outer s H E J hr=>⟨_,((ai (am 2 sc__law_both.nd (aX (ax (ae (aa 0) ad) (ae (aa 1) ad)) (az LW hr (ac (ae (aa 0) ad) (ac (ae (aa 1) ad) af)))))
      (ai (am 3 sc__law_both.nd (ae (aa 0) ad))
      (ai (fV PassesOwn.never (yV (ax (aa 2) (aa 3)) ad) (ai (am 4 sc__law_both.nd (aD (ax (ae (aa 0) ad) (aX (aa 3) (ae (aa 0) ad))) (ae (aa 0) ad)))
        (ai (fV PassesOwn.never (fR (aa 4) (aa 2)) (ai (br (bM (az Pe hr (ac (aa 1) (ac (aa 4) (ac (aa 3) af))))) (ao (aC (aL (ac (aa 2) (ac (aa 3) (ac (aa 4) af)))))) bg)
          (ao (am 4 sc__law_both.nd (aj (aa 4) (ae (aa 0) ad))))))
        (ao (am 3 sc__law_both.nd (aj (aa 3) (ae (aa 0) ad)))))))
      (ao (aC bL)))))),λds R h=>?_⟩)
  . obtain⟨_,_,_,_,_,_,rfl,_⟩:=h;rfl
  . obtain⟨w1,h1,s1,w2,h2,s2,rfl,f1,f2,hR⟩:=h;obtain⟨a1,a2,a3,a4,a5,a6⟩:=f1;obtain⟨b1,b2,b3,b4,b5,b6⟩:=f2;obtain⟨g,u,W,Hh,S,A,M1,eW,M⟩:=B6 #[a1,a2,a3,a4,a5,a6] #[b1,b2,b3,b4,b5,b6];have QT:=hR W Hh S A M;have wb:W<=518400:=by
      have:=(kT a1 b1 M1).2.1;have:=bQ (a:=w1) (d:=w2) (A:=720) (B:=720) KK KK;lia
    have mw:=M.w0;have mh:=M.h0;have ms:=M.s0;have Tz:=M.sw;refine#[λx=>x=.int W,#[_,rfl,_,rfl,.inl #[KK,KK],_,rfl,_,rfl,w1,w2,rfl,λG q0 q1 q2 q3=>?_],?_]
    . have eG:=M1.gcd q0 q1 q2 q3;subst eG;have hg:=M1.pos a1;have Pf:=M1.le a1;exact#[#[hg,KK],by rw[<-eW]]
    rintro _ rfl;k_places;refine#[λx=>x=.int h1,#[_,rfl,rfl],?_];rintro _ rfl;k_places;obtain⟨i0,j0,eS,eH⟩:=M.up1;have So:1<=j0:=by
      rcases(KK:j0<=0\/1<=j0)with z|z
      . have:=HU z (show 0<=h1 by lia);lia
      . exact z
    refine#[λm z=>∃(j:Int) (o:Option D),z=[be (.tup [.int w1,.int h1,.int s1]),be (.tup [.int w2,.int h2,.int s2]),be (.int W),be (.int (j*h1)),o]/\1<=j/\j<=j0/\m=(j0-j).toNat,#[_,1,_,by rw[Int.one_mul];rfl,KK,So,rfl],?_];rintro m z⟨j,o,rfl,KO,Sq,rfl⟩;k_places;have Sr:0<j*h1:=G6 KK a3;have Ss:j*h1<=Hh:=by
      rw[eH];exact Hm Sq KK
    have TB:=JS Ss (show 0<=W by lia);refine#[.inl #[KK,KK],ite2 (λc=>?_) (λc=>?_)]
    . have c':=of_decide_eq_true c;have TC:j*h1<=720:=by
        have:=(dB (w:=W) (h:=j*h1) mw Sr).2;lia
      have Su:j*h1/h1=j:=Hq _ KK;refine#[λx=>∃v:Int,x=.int v/\0<=v/\v<w1/\∃i,v=i*w1+j*s1,#[_,rfl,_,rfl,#[KK,KK],.inl #[KK,KK],_,rfl,a1,_,rfl,cX a1,cY a1,?_],?_]
      . rw[Su];refine#[-(s1*j/w1),?_];have:=HS (s1*j) w1;rw[this];have e1:s1*j=j*s1:=Hf _ _;have e2:w1*(s1*j/w1)=s1*j/w1*w1:=Hf _ _;rw[e2,Je];lia
      rintro _⟨x0,rfl,x1,x2,i1,QU⟩;k_places;refine#[λm z=>∃(x:Int),z=[be (.tup [.int w1,.int h1,.int s1]),be (.tup [.int w2,.int h2,.int s2]),be (.int W),be (.int (j*h1)),be (.int x)]/\0<=x/\(∃i,x=i*w1+j*s1)/\(j=j0->x<=S)/\m=(W-x).toNat,#[_,x0,rfl,x1,#[i1,QU],λej=>?_,rfl],?_]
      . subst ej;obtain⟨k,ek,k0⟩:=B8 a1 x2 x1 ms eS #[i1,QU];have:=Jb k0 (show 0<=w1 by lia);lia
      rintro m z⟨x,rfl,y0,⟨i2,ex⟩,yS,rfl⟩;k_places;refine ite2 (λc=>?_) (λc=>?_)
      . have cW:=of_decide_eq_true c;refine#[w2,h2,s2,x,j*h1,rfl,b1,b3,KK,b5,KK,?_];refine ite2 (λq=>?_) (λq=>?_)
        . have q':=of_decide_eq_true q;obtain⟨i3,k3,e3,e4⟩:=B5 q';obtain⟨z1,z2⟩:=M.high a3 KO #[i2,ex] #[i3,k3,e3,e4];have Pg:j*h1=Hh:=by lia
          have:=z2 Pg y0 cW;subst this;have:=QT.1 (by rw[<-Pg];lia);rw[<-Pg]at this;exact#[Ln,this]
        . have q':=of_decide_eq_false (Ho.mpr q);refine#[λd=>d=.int (x+w1),#[_,rfl,rfl],?_];rintro _ rfl;k_places;refine#[_,KK,x+w1,rfl,KK,#[i2+1,Mt],λej=>?_,rfl];subst ej;have hx:=yS rfl;have ne:x≠S:=by
            rintro rfl;obtain⟨i4,j4,e5,e6⟩:=M.up2;exact q' (in_fam (i:=i4) (j:=j4) b3 e5 (by rw[<-eH];exact e6))
          have:∃t:Int,S=x+t*w1:=#[i0-i2,by rw[ex];grind];obtain⟨t,et⟩:=this;have t1:1<=t:=by
            rcases(KK:t<=0\/1<=t)with z|z
            . have:=HU z (show 0<=w1 by lia);lia
            . exact z
          have:=Hm t1 (show 0<=w1 by lia);lia
      . have cW:=of_decide_eq_false (Ho.mpr c);have TF:j<j0:=by
          rcases(KK:j<j0\/j=j0)with z|z
          . exact z
          . have:=yS z;lia
        refine#[λd=>d=.int ((j+1)*h1),#[_,rfl,by congr 1;grind],?_];rintro _ rfl;k_places;exact#[_,KK,j+1,_,rfl,KK,KK,rfl]
    . have c':=of_decide_eq_false (Ho.mpr c);exact QT.2 KK
abbrev pH(V:Bx):Prop:=V.D 3 "_law_family" me B9
def ET(T:V.T "_law_family" lZ me)(NL:pE V)(Pj:pG V):pH V:=by
  refine Tx.okDW T sc__law_family (λds R h=>?_) (λf cdv A outer s H E J hr=>⟨_,((ai (am 1 sc__law_family.nd (az NL hr (ac (ae (aa 0) ad) af)))
      (ai (gT 2 PassesOwn.never rfl sc__law_family.nd (zu (aa 0) ad) (ai (am 1 sc__law_family.nd (az Pj hr (ac (aa 1) (ac (az NL hr (ac (aa 2) af)) af))))
        (ao (br (km (aa 1) bL) (ao (aC bL)) bg))))
      (ao (aC (aa 1)))))),λds R h=>?_⟩)
  . obtain⟨_,_,rfl,_⟩:=h;rfl
  . obtain⟨ls,n,rfl,j9,hg,hR⟩:=h;cases ls with
    |nil=>exact absurd rfl j9
    |cons l0 ls=>
    refine#[λx=>∃w h s:Int,x=.tup [.int w,.int h,.int s]/\FamOf l0.o0 l0.o1 l0.t0 l0.t1 w h s/\w*h<=288,#[_,bB (j:=0) rfl,l0,n,rfl,(hg l0 GU).1,(hg l0 GU).2,λw h s f q=>#[w,h,s,rfl,f,q]],?_];rintro _⟨w0,h0,s0,rfl,f0,q0⟩;k_places
    try simp only[G7,G9]
    have ec:cutD (Il Leaf.D (l0::ls)) (be 1) v7=ls.map Leaf.D:=by rw[G8,cut1]
    refine#[λk z=>∃(w h s:Int) (o:Option D),z=[be (.lst ((l0::ls).map Leaf.D)),be (.tup [.int w,.int h,.int s]),o]/\Fam0 w h s/\w*h<=720/\∀x y,InF w h s x y↔bS (l0::ls.take k) x y,#[w0,h0,s0,_,rfl,#[f0.1,f0.2.1,f0.2.2.1,f0.2.2.2.1],KK,λx y=>?_],?_,?_]
    . rw[f0.lat];constructor
      . intro q l z;rcases GP.mp z with e|e
        . rw[e];exact q
        . cases e
      . intro q;exact q l0 GU
    . rintro k v z hk⟨w,h,s,o,rfl,fm,QV,lat⟩;k_places;rw[ec,GX]at hk;have p8:k<ls.length:=by
        rcases H9 k ls.length with q|q
        . exact q
        . rw[Hr q]at hk;cases hk
      have LU:ls[k]?=be ls[k]:=G5 p8;rw[LU]at hk;cases hk;obtain⟨gd,nr⟩:=hg ls[k] (GR _ (Hk p8));have K2:∀l∈ls.drop (k+1),l.Good/\l.Near n:=λl q=>hg l (GR _ (Js q));have Kv:∀x y,bS (l0::ls) x y↔(bS (l0::ls.take k) x y/\ls[k].Lat x y)/\bS (ls.drop (k+1)) x y:=λx y=>by
        have ed:ls=ls.take k++ls[k]::ls.drop (k+1):=by rw[<-HX p8,Kg]
        constructor
        . intro q;refine#[#[λl z=>?_,q _ (GR _ (Hk p8))],λl z=>q l (GR _ (Js z))];rcases GP.mp z with e|e
          . exact q l (e ▸ GU)
          . exact q l (GR _ (List.mem_of_mem_take e))
        . rintro⟨⟨q1,q2⟩,q3⟩ l z;rcases GP.mp z with e|e
          . exact q1 l (e ▸ GU)
          . rw[ed]at e;rcases Hi.mp e with e|e
            . exact q1 l (GR _ e)
            . rcases GP.mp e with e|e
              . rw[e];exact q2
              . exact q3 l e
      have i9:∀x y,bS (l0::ls.take (k+1)) x y↔bS (l0::ls.take k) x y/\ls[k].Lat x y:=λx y=>by
        rw[kY LU];constructor
        . intro q;refine#[λl z=>q l ?_,q _ (GR _ (Hb _ GU))];rcases GP.mp z with e|e
          . rw[e];exact GU
          . exact GR _ (HY _ e)
        . rintro⟨q1,q2⟩ l z;rcases GP.mp z with e|e
          . exact q1 l (e ▸ GU)
          . rcases Hi.mp e with e|e
            . exact q1 l (GR _ e)
            . rw[GN.mp e];exact q2
      generalize ls[k]=l at gd nr Kv i9;obtain⟨p1,p2⟩:=dB fm.w0 fm.h0;refine#[λx=>(∃w h s:Int,x=.tup [.int w,.int h,.int s]/\Fam0 w h s/\w*h<=720/\∀x y,InF w h s x y↔bS (l0::ls.take (k+1)) x y)\/(x=.non/\R .non),#[l,n,rfl,gd,nr,λw2 h2 s2 f2 b2=>?_],?_]
      . obtain⟨r1,r2⟩:=dB f2.1 f2.2.1;refine#[w,h,s,w2,h2,s2,rfl,#[fm.w0,KK,fm.h0,KK,fm.s0,fm.sw],#[f2.1,KK,f2.2.1,KK,f2.2.2.1,f2.2.2.2.1],λW Hh S A M=>#[λq=>?_,λq=>?_]]
        . refine .inl #[W,Hh,S,rfl,#[M.w0,M.h0,M.s0,M.sw],q,λx y=>?_];rw[M.lat,lat,f2.lat,i9];exact Iff.rfl
        . refine .inr #[rfl,?_];obtain⟨w3,h3,s3,f3,e3⟩:=ve (ls.drop (k+1)) W Hh S #[M.w0,M.h0,M.s0,M.sw] K2;refine(hR w3 h3 s3 f3 λx y=>?_).2 ?_
          . rw[e3,M.lat,lat,f2.lat,Kv];exact Iff.rfl
          . have:=(InF.le M.w0 M.h0 f3.w0 f3.h0 (λx y z=>((e3 x y).mp z).1)).1;lia
      . rintro _ (⟨W,Hh,S,rfl,Sv,q,e'⟩|⟨rfl,hn⟩);k_places
        . try simp only[G7,G9]
          exact#[W,Hh,S,_,rfl,Sv,q,e']
        . try simp only[G7,G9]
          exact hn
    . rintro z⟨w,h,s,o,rfl,fm,QV,lat⟩;k_places;rw[ec,GQ,Ir]at lat;exact(hR w h s fm lat).1 QV
abbrev jk(V:Bx):Prop:=V.D 4 "_law_over" mi Cd
def EU(T:V.T "_law_over" mf mi)(uU:V.m "max")(Pk:pH V):jk V:=by
 refine Tx.okDW T sc__law_over (λds R h=>?_) (λf cdv A outer s H E J hr=>⟨_,((ai (am 2 sc__law_over.nd (aj (ae (aa 0) ad) (ae (aa 1) ad)))
   (ai (br (cz (cR (su (fX rfl uU (ac (ae (aa 0) ad) (ac (ae (aa 1) ad) af))) ad) (cQ (km (az Pk hr (ac (aa 2) af)) bL)))) (ao (aC (aa 0))) bg)
   (ao (aC (bt (ac (aj (aj (aj (aj ay (ae (aa 0) ad)) ay) (ae (aa 1) ad)) ay) (ac (aj ad (fX rfl uU (ac (ae (aa 0) ad) (ac (ae (aa 1) ad) af)))) (ac (aa 2) af))))))))),λds R h=>?_⟩)
 .obtain⟨_,_,rfl,_⟩:=h;rfl
 .obtain⟨p,q,rfl,wp,wq,dp,dq,QW,Sw⟩:=h;have n1:=Pat.leaves_32 dp;have n2:=Pat.leaves_32 dq;refine#[λx=>x=.lst ((Pat.over p q).leaves.map Leaf.D),#[_,rfl,_,rfl,?_,?_],?_]
  .rw[GQ,GQ];lia
  .rw[Pat.leaves,Hl]
  rintro _ rfl;k_places;refine#[_,rfl,_,rfl,ite2 (λc=>QW) (λc=>?_)];have c':=of_decide_eq_false (Ho.mpr c);have ep:p.depth<5/\q.depth<5:=by
   split at c'<;>lia
  refine#[(Pat.over p q).leaves,(Pat.over p q).depth,rfl,?_,λl hl=>Pat.leaf_good (p:=.over p q) #[wp,wq] l hl,λw h s f lat=>#[λsm=>?_,λ_=>QW]]
  .intro z;have:(Pat.over p q).leaves.length=0:=by rw[z];rfl
   rw[Pat.leaves,G0]at this;have:=Pat.leaves_pos p;lia
  have t1:=Pat.text_short wp dp;have t2:=Pat.text_short wq dq;have l1:("(":Kq).length=1:=rfl;have l2:("|":Kq).length=1:=rfl;have l3:(")":Kq).length=1:=rfl;have MU:(Pat.over p q).Fits:=#[w,h,s,#[f,λx y=>(lat x y).trans (Pat.lat_leaves (.over p q) x y)],sm];refine#[_,rfl,?_,?_,_,rfl,?_,?_,_,rfl,_,rfl,Ln,?_]
  .lia
  .rw[aI];lia
  .rw[aI,aI];lia
  .rw[aI,aI,aI];lia
  have g:=Sw ep.1 ep.2 MU;have e:(1+(if(q.depth:Int)>(p.depth:Int)then(q.depth:Int)else(p.depth:Int)))=(((Pat.over p q).depth:Nat):Int):=by
   rw[Pat.depth];split<;>lia
  unfold Pat.D at g;rw[<-e]at g;exact g
abbrev pI(V:Bx):Prop:=V.D 5 "_law_pattern" ml Ce
def EV(T:V.T "_law_pattern" mj ml)(uA:V.m "range")(w9:fK V)(Ly:jh V)(NM:pD V)(K3:jk V):pI V:=by
  refine Tx.okDW T sc__law_pattern (λds R h=>?_) (λf cdv A outer s H E J hr=>⟨_,((ai (am 2 sc__law_pattern.nd (az w9 hr (ac (aa 0) (ac (aa 1) (ac ad af)))))
      (ai (am 3 sc__law_pattern.nd (az Ly hr (ac (aa 0) (ac (aj (aa 1) ad) af))))
      (ai (bN 4 PassesOwn.never rfl sc__law_pattern.nd uA (aD (ae (aa 2) ad) ad) (ai (am 5 sc__law_pattern.nd (ae (aa 2) (aj ad (ax ad (aa 4)))))
        (ao (fU (bC (aD (aa 5) ad) ad) (ao (am 3 sc__law_pattern.nd (az NM hr (ac (aa 3) (ac (aX (aa 5) ad) af))))) (ai (am 6 sc__law_pattern.nd (az Ly hr (ac (aa 0) (ac (aj (aj (aa 1) ad) (ax ad (aa 4))) af))))
         (ai (fU (bC (aD (aX (aa 5) ad) ad) ad) (ao (am 6 sc__law_pattern.nd (az NM hr (ac (aa 6) (ac (ae (aa 2) (aj ad (ax ad (aa 4)))) af))))) bg)
         (ao (am 3 sc__law_pattern.nd (ae (bt (ac (az K3 hr (ac (aa 3) (ac (aa 6) af))) (ac (az K3 hr (ac (aa 6) (ac (aa 3) af))) af))) (aD (aX (aa 5) ad) ad))))))))))
      (ao (aC (aa 3))))))),λds R h=>?_⟩)
  . obtain⟨_,_,rfl,_⟩:=h;rfl
  . obtain⟨ns,k,rfl,hk,hR⟩:=h;refine#[λx=>∃xs:List Int,x=.lst (xs.map D.int)/\xs.length=13/\Drawn xs,#[ns,k,13,rfl,hk,Lj,λxs h1 h2=>#[xs,rfl,h1,h2]],?_];rintro _⟨xs,rfl,hl,hd⟩;k_places;refine#[λx=>∃p:Pat,x=p.D/\p.Ok,#[ns,k+2,rfl,KK,λL a b c d h1 h2 h3 h4 h5 h6=>#[.mot L a b c d,rfl,#[h1,h2,h3,h4,h5,h6],by simp[Pat.depth],Pat.fits_mot h2 h3 h4 h5 h6]],?_];rintro _⟨p0,rfl,NN⟩;k_places;have a0:=cJ (xs:=xs) (k:=0) Lj (show 0<xs.length by lia);have h7:=cX (a:=cell xs 0) (show(0:Int)<7 by decide);have h8:=cY (a:=cell xs 0) (show(0:Int)<7 by decide);refine#[_,a0,Lj,#[KK,KK],λi z=>∃(p:Pat) (o1 o2 o3:Option D),z=[be (.rol (ns.map D.int)),be (.int k),be (.lst (xs.map D.int)),be p.D,o1,o2,o3]/\p.Ok,#[p0,_,_,_,rfl,NN],?_,?_]
    . rintro i v z hi⟨p,o1,o2,o3,rfl,ok⟩;k_places;obtain⟨i_,rfl⟩:=bG hi;have a1:=cJ (xs:=xs) (k:=1+2*(i:Int)) KK KK;have a2:=cJ (xs:=xs) (k:=2+2*(i:Int)) KK KK;generalize cell xs (1+2*(i:Int))=st at a1;generalize cell xs (2+2*(i:Int))=sv at a2;refine#[λx=>x=.int st,#[.inr #[KK,KK],_,a1,rfl],?_];rintro _ rfl;k_places;refine#[λz=>∃(p:Pat) (o3:Option D),z=[be (.rol (ns.map D.int)),be (.int k),be (.lst (xs.map D.int)),be p.D,be (.int i),be (.int st),o3]/\p.Ok,#[Lj,ite2 (λc=>?_) (λc=>?_)],?_]
      . refine#[λx=>∃p:Pat,x=p.D/\p.Ok,#[#[Lj,Lj],p,_,rfl,ok.wf,ok.deep,by have:=Pat.text_short ok.wf ok.deep;lia,Wraps.of ok λq hq=>#[q,rfl,hq]],?_];rintro _⟨q,rfl,g5⟩;k_places;exact#[q,_,rfl,g5]
      . refine#[λx=>∃p:Pat,x=p.D/\p.Ok,#[.inr #[KK,KK],ns,k+4+2*(i:Int),rfl,KK,λL a b c d h1 h2 h3 h4 h5 h6=>#[.mot L a b c d,rfl,#[h1,h2,h3,h4,h5,h6],by simp[Pat.depth],Pat.fits_mot h2 h3 h4 h5 h6]],?_];rintro _⟨q,rfl,g5⟩;k_places;refine#[λz=>∃(q:Pat),z=[be (.rol (ns.map D.int)),be (.int k),be (.lst (xs.map D.int)),be p.D,be (.int i),be (.int st),be q.D]/\q.Ok,#[#[Lj,Lj],Lj,ite2 (λc=>?_) (λc=>?_)],?_]
        . refine#[λx=>∃p:Pat,x=p.D/\p.Ok,#[.inr #[KK,KK],_,a2,q,_,rfl,g5.wf,g5.deep,by have:=Pat.text_short g5.wf g5.deep;lia,Wraps.of g5 λq hq=>#[q,rfl,hq]],?_];rintro _⟨q,rfl,g5⟩;k_places;exact#[q,rfl,g5]
        . exact#[q,rfl,g5]
        rintro _⟨q,rfl,g5⟩;k_places;refine#[λx=>∃p:Pat,x=p.D/\p.Ok,?_,?_]
        . have d_:∀r r':Pat,r.Ok->r'.Ok->∃x,atI [r.D,r'.D] (st/4%2)=be x/\∃p:Pat,x=p.D/\p.Ok:=λr r' hr Sx=>by
            rcases(KK:st/4%2=0\/st/4%2=1)with e|e<;>rw[e]
            . exact#[_,rfl,r,rfl,hr]
            . exact#[_,rfl,r',rfl,Sx]
          have QX:p.depth<5->q.depth<5->(Pat.over p q).Fits->(Pat.over p q).Ok:=λd1 d2 ft=>#[#[ok.wf,g5.wf],by simp only[Pat.depth];lia,ft];have QY:q.depth<5->p.depth<5->(Pat.over q p).Fits->(Pat.over q p).Ok:=λd1 d2 ft=>#[#[g5.wf,ok.wf],by simp only[Pat.depth];lia,ft];refine#[p,q,rfl,ok.wf,g5.wf,ok.deep,g5.deep,?_,λd1 d2 ft=>?_]<;>refine#[q,p,rfl,g5.wf,ok.wf,g5.deep,ok.deep,?_,λd3 d4 QZ=>?_]<;>refine#[Ln,#[Lj,Lj],Lj,?_]
          . exact d_ _ _ ok g5
          . exact d_ _ _ ok (QY d3 d4 QZ)
          . exact d_ _ _ (QX d1 d2 ft) g5
          . exact d_ _ _ (QX d1 d2 ft) (QY d3 d4 QZ)
        rintro _⟨q',rfl,Pl⟩;k_places;exact#[q',_,rfl,Pl]
      rintro _⟨q,o3,rfl,g5⟩;k_places;exact#[q,_,_,_,rfl,g5]
    . rintro z⟨p,o1,o2,o3,rfl,ok⟩;k_places;exact hR p ok
def EW:SpD:=λds R=>∃(p:Pat) (n:Int) (c:Nat),ds=[p.D,.int n,.str #[[c].toArray]]/\p.Ok/\aW c/\∀q:Pat,q.Ok->R q.D
abbrev pJ(V:Bx):Prop:=V.D 1 "_law_respelled" mn EW
def EY(T:V.T "_law_respelled" mm mn)(uB:V.m "len")(w_:V.m "list"):pJ V:=by
 refine Tx.okDW T sc__law_respelled (λds R h=>?_) (λf cdv A outer s H E J hr=>⟨_,((ai (am 3 sc__law_respelled.nd (ae (ae (aa 0) ad) ad))
   (ai (am 4 sc__law_respelled.nd (bz uB (ac (ae (ae (aa 3) ad) ad) af)))
   (ai (am 5 sc__law_respelled.nd (aX (aD (aa 1) (ax (aa 4) (bz uB (ac (ae (aa 3) ad) af)))) (aa 4)))
   (ai (am 6 sc__law_respelled.nd (aD (aa 1) (aa 4)))
   (ai (Bl 7 w_ sc__law_respelled.nd (ac (ae (aa 3) ad) af))
   (ai (sY 7 (aj (aj (cf (ky 7 (aa 5)) cq (bV (aa 6))) (aa 2)) (cf (ky 7 (aa 5)) (bV (aj (aa 6) ad)) cq)) (aa 5))
   (ai (am 8 sc__law_respelled.nd (aj (aj (aj (kF (ae (aa 0) ad) (ac ay af)) ad) (ax (aa 5) (aj (aa 4) ad))) (aa 6)))
   (ai (am 9 sc__law_respelled.nd (aj (aj (cf (ae (aa 0) ad) cq (bV (aa 8))) (aa 2)) (cf (ae (aa 0) ad) (bV (aj (aa 8) ad)) cq)))
   (cS 7 (ao (aC (bt (ac (aa 9) (ac (ae (aa 0) ad) (ac (aj (bt (ac (aL (ac (aa 7) (ac (ae (aa 3) ad) (ac (ae (aa 3) ad) (ac (ae (aa 3) ad) (ac (ae (aa 3) ad) af)))))) af)) (cf (ae (aa 0) ad) (bV ad) cq)) af)))))))))))))))),λds R h=>?_⟩)
 .obtain⟨_,_,_,rfl,_⟩:=h;rfl
 .obtain⟨p,n,c,rfl,ok,hc,hR⟩:=h;obtain⟨A,B,l,ls,r⟩:=Pat.re_ex ok.wf;obtain⟨m,w,w8,hr⟩:=r.rows;have hw:∀s∈l.rows,s.length=w:=λs hs=>(hr s hs).1;have Sy:=Pat.text_short ok.wf ok.deep;have Q0:=cv p;rw[r.tl]at Q0;obtain⟨i0,rest,eo,ei⟩:=En Q0 r.no;have wm:0<w*l.rows.length:=Nat.mul_pos Lm Lm;obtain⟨j,hj,jm⟩:∃j:Nat,n%((w:Int)*l.rows.length)/w=j/\j<l.rows.length:=by
   have h0:=HG n (show((w*l.rows.length:Nat):Int)≠0 by omega);have h1:=HH n (show 0<((w*l.rows.length:Nat):Int)by omega);rw[Jd]at h0 h1;have q0:=IP h0 (show 0<=(w:Int)by omega);have q1:=Int.ediv_lt_of_lt_mul (show 0<(w:Int)by omega) (show n%((w:Int)*l.rows.length)<(l.rows.length:Int)*w by rw[Hf (l.rows.length:Int)];exact h1);exact#[(n%((w:Int)*l.rows.length)/w).toNat,Lm,Lm]
  obtain⟨i,hi,iw⟩:∃i:Nat,n%(w:Int)=i/\i<w:=by
   have h0:=HG n (show(w:Int)≠0 by omega);have h1:=HH n (show 0<(w:Int)by omega);exact#[(n%(w:Int)).toNat,Lm,Lm]
  have Sz:atI (p.leaves.map Leaf.D) 0=be l.D:=bB (j:=0) (by rw[r.leaves];rfl);have Pm:atI (l.rows.map D.str) 0=be (.str (l.rows[0]' Lm)):=bB (j:=0) (by rw[GX,G5 (show 0<l.rows.length by omega)];rfl);have MY:atI (l.rows.map D.str) (j:Int)=be (.str l.rows[j]):=bB (by rw[GX,G5 jm];rfl);have Pn:=hw (l.rows[0]' Lm) (Hk _);have SA:=hw l.rows[j] (Hk jm);refine#[λd=>d=l.D,#[_,rfl,_,Sz,rfl],?_];rintro _ rfl;k_places;refine#[λd=>d=.int (w:Int),#[_,rfl,_,Pm,Lm,by rw[Pn]],?_];rintro _ rfl;k_places;refine#[λd=>d=.int (j:Int),#[_,rfl,.inl #[Lm,Lm],?_,#[Lm,Lm],?_],?_]
  .rw[GQ,<-Jd];omega
  .rw[GQ,hj]
  rintro _ rfl;k_places;refine#[λd=>d=.int (i:Int),#[Lm,by rw[hi]],?_];rintro _ rfl;k_places;show dSeq _ _ _ [_,_,_,_,_,_,_,_,_,_];refine#[_,rfl,?_];have s1:=Txt.slice_le l.rows[j] v7 (be (i:Int));have s2:=Txt.slice_le l.rows[j] (be ((i:Int)+1)) v7;have c1:(#[[c].toArray]:Kq).length=1:=rfl;have hs:=vP (c:=c) (show i<l.rows[j].length by omega);generalize K0:((Txt.slice l.rows[j] v7 (be (i:Int))++#[[c].toArray])++Txt.slice l.rows[j] (be ((i:Int)+1)) v7:Kq)=s' at hs;obtain⟨q,g5,dq,lq,sp,tq⟩:=r.put ok hw jm iw hc hs;refine#[_,MY,Lm,Lm,_,MY,Lm,by rw[aI];omega,j,?_,?_]
  .rw[GQ];unfold ixN;rw[if_pos Lm,if_pos Lm,Hw]
  rw[K0,<-Kf];have SE:(i0:Int)=A.length:=Lm
  refine#[λd=>d=.int ((A.length+1+j*(w+1)+i:Nat):Int),#[_,rfl,i0,rest,eo,.inl #[Lm,Lm],?_],?_]
  .show D.int _=D.int _;rw[SE];simp
  rintro _ rfl;k_places;have t1:=Txt.slice_le p.text v7 (be ((A.length+1+j*(w+1)+i:Nat):Int));have t2:=Txt.slice_le p.text (be (((A.length+1+j*(w+1)+i:Nat):Int)+1)) v7;refine#[λd=>d=.str q.text,#[_,rfl,Lm,Lm,_,rfl,Lm,by rw[aI];omega,?_],?_]
  .show D.str _=D.str _;rw[tq _ (vP sp)]
  rintro _ rfl;k_places;have TJ:=Pat.leaves_32 ok.deep;have ec:cutD (p.leaves.map Leaf.D) (be 1) v7=ls.map Leaf.D:=by rw[r.leaves,G8,cut1]
  refine#[_,rfl,_,rfl,_,rfl,_,rfl,_,rfl,by show(5:Nat)<=1000;decide,by show(1:Nat)<=1000;decide,_,rfl,?_,by show(3:Nat)<=1000;decide,?_]
  .have:=congrArg Ii r.leaves;rw[GV]at this;show 1+(cutD (p.leaves.map Leaf.D) (be 1) v7).length<=1000000;rw[ec,GQ];omega
  have e:=hR q g5;unfold Pat.D at e;rw[dq,lq,G8,<-ec]at e;exact e
def EZ:SpD:=λds R=>∃(ns:List Int),ds=[.rol (ns.map D.int)]/\∀ps:List Pat,ps.length=6->(∀p∈ps,p.Ok)->R (.lst (ps.map Pat.D))
abbrev pK(V:Bx):Prop:=V.D 6 "_law_six" mv EZ
def E1(T:V.T "_law_six" mo mv)(NO:pI V)(Ly:jh V)(w9:fK V)(NP:pJ V)(K3:jk V):pK V:=by
 refine Tx.okDW T sc__law_six (λds R h=>?_) (λf cdv A outer s H E J hr=>⟨_,((ai (am 1 sc__law_six.nd (az NO hr (ac (aa 0) (ac ad af))))
   (ai (am 2 sc__law_six.nd (az Ly hr (ac (aa 0) (ac ad af))))
   (ai (am 3 sc__law_six.nd (az w9 hr (ac (aa 0) (ac ad (ac ad af)))))
   (ai (eU 4 sc__law_six.nd (ac (aa 1) (ac (az NP hr (ac (aa 1) (ac (ae (aa 3) ad) (ac (ae ay (aD (ae (aa 3) ad) ad)) af)))) af)))
   (ai (cT 4 (az NP hr (ac (aa 1) (ac (ae (aa 3) ad) (ac (ae ay (aD (ae (aa 3) ad) ad)) af)))))
   (ai (cT 4 (az K3 hr (ac (aa 1) (ac (aa 2) af))))
   (ai (cT 4 (az K3 hr (ac (aa 2) (ac (aa 1) af))))
   (ai (cT 4 (az NO hr (ac (aa 0) (ac ad af))))
   (cS 4 (ao (aC (aa 4))))))))))))),λds R h=>?_⟩)
 .obtain⟨_,rfl,_⟩:=h;rfl
 .obtain⟨ns,rfl,hR⟩:=h;refine#[PatD,#[ns,3,rfl,Lj,λp ok=>#[p,rfl,ok]],?_];rintro _⟨p,rfl,j5⟩;k_places;refine#[PatD,#[ns,23,rfl,Lj,λL a b c d h1 h2 h3 h4 h5 h6=>#[.mot L a b c d,rfl,#[#[h1,h2,h3,h4,h5,h6],by simp[Pat.depth],Pat.fits_mot h2 h3 h4 h5 h6]]],?_];rintro _⟨m,rfl,LY⟩;k_places;refine#[λd=>∃xs:List Int,d=.lst (xs.map D.int)/\xs.length=4,#[ns,26,4,rfl,Lj,Lj,λxs hl _=>#[xs,rfl,hl]],?_];rintro _⟨xs,rfl,x4⟩;k_places;have ix:∀{k:Int},0<=k->k<4->atI (xs.map D.int) k=be (.int (cell xs k)):=λa b=>kU a KK;obtain⟨c1,SG,s1⟩:=vQ (cell xs 1);obtain⟨c3,SH,s3⟩:=vQ (cell xs 3);refine#[_,ix Lj Lj,_,ix Lj Lj,Lj,c1,#[Lj,SG],p,_,c1,rfl,j5,s1,λq1 TK=>#[Nw,?_]];refine#[_,ix Lj Lj,_,ix Lj Lj,Lj,c3,#[Lj,SH],p,_,c3,rfl,j5,s3,λq2 TL=>#[by show(2:Nat)<=100000;decide,?_]];refine#[p,m,rfl,j5.wf,LY.wf,j5.deep,LY.deep,#[by show(3:Nat)<=100000;decide,?_],λa b MU=>#[by show(3:Nat)<=100000;decide,?_]]
  all_goals refine#[m,p,rfl,LY.wf,j5.wf,LY.deep,j5.deep,#[by show(4:Nat)<=100000;decide,?_],λa' b' Po=>#[by show(4:Nat)<=100000;decide,?_]]
  all_goals refine#[ns,29,rfl,Lj,λq5 TM=>#[by show(5:Nat)<=100000;decide,?_]]
  all_goals
   refine hR [p,q1,q2,_,_,q5] rfl λr hr=>?_;simp only[GP,HW,or_false]at hr;rcases hr with rfl|rfl|rfl|rfl|rfl|rfl<;>first|assumption|exact over_ok j5 LY a b MU|exact over_ok LY j5 a' b' Po
abbrev C__law_leaf_shows(V:Bx):Prop:=V.D 2 "_law_leaf_shows" my BU
def E2(T:V.T "_law_leaf_shows" mx my)(uA:V.m "range")(uB:V.m "len")(uD:V.m "int")(LX:jj V):C__law_leaf_shows V:=by
 refine Tx.okDW T sc__law_leaf_shows (λds R h=>?_) (λf cdv A outer s H E J hr=>⟨_,((ai (am 3 sc__law_leaf_shows.nd (ae (aa 0) ad))
   (ai (am 4 sc__law_leaf_shows.nd (aj (aj (ax (ae (aa 3) ad) (aa 1)) (ax (ae (aa 3) ad) (aa 2))) (ae (aa 3) ad)))
   (ai (am 5 sc__law_leaf_shows.nd (aj (aj (ax (ae (aa 3) ad) (aa 1)) (ax (ae (aa 3) ad) (aa 2))) (ae (aa 3) ad)))
   (ai (bN 6 PassesOwn.never rfl sc__law_leaf_shows.nd uA (bz uB (ac (ae (aa 0) ad) af)) (ao (bN 7 PassesOwn.never rfl sc__law_leaf_shows.nd uA (bz uB (ac (ae (ae (aa 0) ad) (aa 6)) af)) (ao (br (cz (sA (bU (ae (ae (ae (aa 0) ad) (aa 6)) (aa 7)) ay) (sy (bM (az LX hr (ac (ae (aa 0) ad) (ac (ae (aa 0) ad) (ac (bq (aa 4) (aa 7)) (ac (bq (aa 5) (aa 6)) af))))))))) (ao (aC (ae (ae (aa 0) ad) (fW uD (ac (ae (ae (ae (aa 0) ad) (aa 6)) (aa 7)) af))))) bg)))))
   (ao (aC ad))))))),λds R h=>?_⟩)
 .obtain⟨_,_,_,rfl,_⟩:=h;rfl
 .obtain⟨l,x,y,rfl,ok,hR⟩:=h;obtain⟨hm,wd,SI,MV⟩:=id ok.rows;refine#[λd=>d=.tup [.int l.w0,.int l.w1,.int l.w2,.int l.w3,.int l.w4,.int l.w5],#[_,rfl,rfl],?_];rintro _ rfl;k_places;refine#[λd=>d=.int (l.w0*x+l.w1*y+l.w4),#[_,rfl,.inl (n64 ok.w0),_,rfl,.inl (n64 ok.w1),_,rfl,rfl],?_];rintro _ rfl;k_places;refine#[λd=>d=.int (l.w2*x+l.w3*y+l.w5),#[_,rfl,.inl (n64 ok.w2),_,rfl,.inl (n64 ok.w3),_,rfl,rfl],?_];rintro _ rfl;k_places;have K4:R (.int (match l.hit x y with|some c=>cell l.hues ((c:Int)-48)|none=>0)):=hR;unfold Leaf.hit at K4;generalize l.w0*x+l.w1*y+l.w4=U at K4 ⊢;generalize l.w2*x+l.w3*y+l.w5=V at K4 ⊢;generalize ef:(λi j=>onB l.a l.b l.c l.d (U-i) (V-j))=f at K4;have e0:∀i j,f i j=onB l.a l.b l.c l.d (U-i) (V-j):=λi j=>by rw[<-ef]
  have b7:((l.rows.map D.str).length:Int).toNat=l.rows.length:=Ln
  refine#[_,rfl,#[KK,Ta],λk z=>∃o1 o2:Option D,z=[be l.D,be (.int x),be (.int y),be (.tup [.int l.w0,.int l.w1,.int l.w2,.int l.w3,.int l.w4,.int l.w5]),be (.int U),be (.int V),o1,o2]/\bR f 0 l.rows=bR f k (l.rows.drop k),#[_,_,rfl,rfl],?_,?_]
  .rintro j v z hj⟨o1,o2,rfl,hs⟩;k_places;obtain⟨LR,rfl⟩:=bG hj;rw[b7]at LR;have MZ:l.rows[j]?=be l.rows[j]:=G5 LR;have D_:l.rows.drop j=l.rows[j]::l.rows.drop (j+1):=HX LR;obtain⟨NJ,MQ⟩:=MV l.rows[j] (Hk LR);generalize l.rows[j]=row at MZ D_ NJ MQ;have Lz:=at_str MZ;have g9:=bb row;refine#[_,rfl,_,Lz,KK,#[KK,KK],λi z=>∃o2:Option D,z=[be l.D,be (.int x),be (.int y),be (.tup [.int l.w0,.int l.w1,.int l.w2,.int l.w3,.int l.w4,.int l.w5]),be (.int U),be (.int V),be (.int j),o2]/\scanRow (λi=>f i j) 0 (cs row)=scanRow (λi=>f i j) i ((cs row).drop i),#[_,rfl,rfl],?_,?_]
   .rintro i v z hi⟨o2,rfl,LZ⟩;k_places;obtain⟨i_,rfl⟩:=bG hi;have Pp:i<(cs row).length:=by lia
    have KP:(cs row).drop i=(cs row)[i]::(cs row).drop (i+1):=HX Pp;have M0:=MQ (cs row)[i] (Hk Pp);have Pq:atI (cs row) (i:Int)=be (cs row)[i]:=bB (G5 Pp);generalize (cs row)[i]=c at KP M0 Pq;refine#[_,rfl,_,Lz,c,#[KK,Pq],ite2 (λq=>?_) (λq=>?_)]
    .have w6:¬c=46:=by
      intro z;have:(#[[c].toArray]:Kq)=".":=one_sign.mpr z;simp[this]at q
     refine#[_,rfl,_,rfl,l.a,l.b,l.c,l.d,U-i,V-j,rfl,ok.a.lt,ok.b.lt,ok.c.lt,ok.d.lt,ok.ne,?_];refine ite2 (λq2=>?_) (λq2=>?_)
     .have d_:f i j=true:=by rw[e0];exact q2
      have SJ:49<=c/\c<=54:=by unfold aW at M0;lia
      refine#[_,rfl,_,rfl,_,Lz,c,#[KK,Pq],_,#[digit_of SJ,by show 1<=640;decide],_,cJ KK (by rw[ok.many];lia),?_];rw[hs,D_,bR,LZ,KP,scanRow,if_pos #[w6,d_]]at K4;exact K4
     .have d_:¬f i j=true:=by rw[e0];exact q2
      refine#[_,rfl,?_];rw[LZ,KP,scanRow,if_neg (λz=>d_ z.2)]
    .have w6:c=46:=by
      rcases Classical.em (c=46)with z|z
      .exact z
      .exact absurd (by
        have:¬(#[[c].toArray]:Kq)=".":=λw=>z (one_sign.mp w);simp[this]) q
     refine#[_,rfl,?_];rw[LZ,KP,scanRow,if_neg (λz=>z.1 w6)]
   .rintro z⟨o2,rfl,LZ⟩;k_places;refine#[_,_,rfl,?_];have hn:((row.length:Int).toNat)=(cs row).length:=by lia
    rw[bH,hn,Jt (GO _),scanRow]at LZ;rw[hs,D_,bR,LZ]
  .rintro z⟨o1,o2,rfl,hs⟩;k_places;rw[bH,b7,Jt (GO _),bR]at hs;rw[hs]at K4;exact K4
abbrev pL(V:Bx):Prop:=V.D 3 "_law_shows" mB BV
def E3(T:V.T "_law_shows" mz mB)(Pr:C__law_leaf_shows V):pL V:=by
 refine Tx.okDW T sc__law_shows (λds R h=>?_) (λf cdv A outer s H E J hr=>⟨_,((ai (gT 3 PassesOwn.never rfl sc__law_shows.nd (aa 0) (ai (am 4 sc__law_shows.nd (az Pr hr (ac (aa 3) (ac (aa 1) (ac (aa 2) af)))))
    (ao (br (bU (aa 4) ad) (ao (aC (aa 4))) bg))))
   (ao (aC ad)))),λds R h=>?_⟩)
 .obtain⟨_,_,_,rfl,_⟩:=h;rfl
 .obtain⟨ls,x,y,rfl,ok,hR⟩:=h;refine#[λk z=>∃o1 o2:Option D,z=[be (.lst (ls.map Leaf.D)),be (.int x),be (.int y),o1,o2]/\aU ls x y=aU (ls.drop k) x y,#[_,_,rfl,rfl],?_,?_]
  .rintro k v z hk⟨o1,o2,rfl,hs⟩;k_places;rw[GX]at hk;have p8:k<ls.length:=by
    rcases H9 k ls.length with q|q
    .exact q
    .rw[Hr q]at hk;cases hk
   rw[G5 p8]at hk;cases hk;have ed:ls.drop k=ls[k]::ls.drop (k+1):=HX p8;have Q1:=ok ls[k] (Hk p8);generalize ls[k]=l at ed Q1;refine#[λd=>d=.int (l.shows x y),#[l,x,y,rfl,Q1,rfl],?_];rintro _ rfl;k_places;refine ite2 (λq=>?_) (λq=>?_)
   .have q':¬l.shows x y=0:=by simpa using q
    rw[hs,ed,aU,if_pos q']at hR;exact hR
   .have q':l.shows x y=0:=by simpa using q
    refine#[_,_,rfl,?_];rw[hs,ed,aU,if_neg (λz=>z q')]
  .rintro z⟨o1,o2,rfl,hs⟩;k_places;rw[GQ,Jt (GO _),aU]at hs;rw[hs]at hR;exact hR
def E4:SpD:=λds R=>∃(p:Pat) (w h:Int),ds=[.lst (p.leaves.map Leaf.D),.int w,.int h]/\p.Ok/\0<=w/\w<=30/\0<=h/\h<=30/\R (.lst (aw p w 0 h.toNat))
abbrev pM(V:Bx):Prop:=V.D 4 "_law_floor_rows" mC E4
def E5(T:V.T "_law_floor_rows" iu mC)(uA:V.m "range")(Ps:pL V):pM V:=by
 refine Tx.okDW T sc__law_floor_rows (λds R h=>?_) (λf cdv A outer s H E J hr=>⟨_,((ai (eU 3 sc__law_floor_rows.nd af)
   (ai (bN 4 PassesOwn.never rfl sc__law_floor_rows.nd uA (aa 2) (ao (cT 3 (ku (gW rfl (compScope (by change cV _ (ah iu) ["_law_leaves","_law_wide","_law_high","_law_lines_here","_law_y"] _=true;decide+kernel)) uA (aa 1) (λcl s0 H0 fp=>(ae ay (az Ps hr (ac (aa 0) (ac (aa 5) (ac (aa 4) af)))))))))))
   (cS 3 (ao (aC (aa 3))))))),λds R h=>?_⟩)
 .obtain⟨_,_,_,rfl,_⟩:=h;rfl
 .obtain⟨p,w,h,rfl,ok,w0,w7,h0,h7,hR⟩:=h;have dp:=ok.deep;refine#[Ln,?_];refine#[#[KK,KK],λk z=>∃o,z=[be (.lst (p.leaves.map Leaf.D)),be (.int w),be (.int h),be (.own (aw p w 0 k)),o],#[_,rfl],?_,?_]
  .rintro k v z hk⟨o,rfl⟩;k_places;obtain⟨n_,rfl⟩:=bG hk;refine#[#[KK,KK],by rw[bH];lia,λi ys=>ys=rowD p 0 k i,rfl,?_,?_]
   .rintro i v ys hi hl rfl;obtain⟨x_,rfl⟩:=bG hi;refine#[p.leaves,i,k,rfl,Pat.leaf_ok ok.wf KK,?_];rw[Pat.show_leaves ok.wf KK];obtain⟨b0,b6⟩:=Pat.show_le ok.wf KK (i:Int) k;refine#[_,#[Lj,vA b0 b6],?_];show rowD p 0 k i++_=rowD p 0 k (i+1);rw[<-vD,Ig]
   .rintro ys hl rfl;rw[bH];obtain⟨ys,e1,e2,e3⟩:=vE p 0 (k:Int) (n:=w.toNat) KK;refine#[ys,e1,e2,?_];rw[e3];refine#[by unfold aw;simp;lia,be (.int k),?_];rw[<-pw,Ig];rfl
  .rintro z⟨o,rfl⟩;k_places;rw[bH];exact hR
def E6:SpM:=λds M R _=>∃a q f w,ds=[.ptr a,.str w]/\a≠q/\M=Fl.M f a q/\f.ds.length<=20/\∀q',a≠q'->R .non ((f.keep w).M a q')
abbrev jl(V:Bx):Prop:=V.Q 1 "Floor" "keep" mF E6
def E7(T:V.Tm "Floor" "keep" "Floor.keep" mD mF)(Pt:V.gi "KEPT" 20)(Kk:V.a "Floor" "deeds")(uE:V.a "Floor" "laid")(uF:V.a "Floor" "pattern"):jl V:=by
 refine CalMth.drop (Txm.okM T DK (λds M R RX h=>?_) (λf cdv A outer s H E J hr hx=>#[_,((av (bY Kk (ag (aa 0)) (Dv (Du (aE Kk (ag (aa 0))) (kJ (aF (tM (aF (ag (aa 1)) (aF (aE uF (ag (aa 0))) (aF (aE uE (ag (aa 0))) aY)))) aY))) (vM (ag (ck (fg Pt)))) vL)))),λds M R RX d6 h=>?_]))
 .obtain⟨_,_,⟨_,_,_,_,rfl,_⟩,_⟩:=h;rfl
 .obtain⟨R,RX,⟨a,q,f,w,rfl,ne,rfl,hl,hR⟩,rfl,rfl⟩:=h;have nk:∀{p:KF},p∉au (f.M a q)->p≠a/\p≠q:=λ{p} h=>#[λe=>h (e ▸ GR _ GU),λe=>h (e ▸ GU)];refine#[_,Fl.ma ne,_,vS,_,Fl.ma ne,_,gB,_,Fl.ma ne,_,eB,by show(3:Nat)<=1000;decide,by show(1:Nat)<=1000;decide,λp1 h1=>?_];obtain⟨n1,m1⟩:=nk h1;refine#[_,_,(dZ m1).trans Fl.mq,cD,by rw[GQ];show _+1<=_;lia,λp2 h2=>?_];have u6:p2≠p1/\p2∉au (f.M a q):=#[λe=>h2 (e ▸ GU),λz=>h2 (GR _ z)];obtain⟨n2,m2⟩:=nk u6.2;refine#[_,cD,λp3 h3=>?_];have SK:p3≠p2/\p3∉au ((p1,.lst [])::f.M a q):=#[λe=>h3 (e ▸ GU),λz=>h3 (GR _ z)];obtain⟨n3,m3⟩:=nk λz=>SK.2 (GR _ z);refine#[_,(dZ n3).trans ((dZ n2).trans ((dZ n1).trans (Fl.ma ne))),by show(6:Nat)<1000;decide,_,#[?_,?_],hR p3 (Ne.symm n3)]
  .rw[eA n3,eA n2,eA n1,show f.M a q=[(q,.lst (f.ds.map Deed.D)),(a,.ins "Floor" (f.fs q))]from rfl,eA (Ne.symm ne),df];have e1:cutD (f.ds.map Deed.D++[D.tup [.str w,f.d,.int f.l]]) (be (-20)) v7=(f.keep w).ds.map Deed.D:=by
    rw[Er];show _=Il Deed.D (HP _ _);rw[List.map_drop,Hl,G0,GQ];rfl
   have e2:putD ("deeds":Kq) (.ptr p3) (f.fs q)=(f.keep w).fs p3:=rfl;rw[e1,e2];intro e he;rcases GP.mp he with rfl|he
   .exact GU
   .rw[GN.mp he];simp
  .exact Fl.nd (Ne.symm n3)
abbrev jn(V:Bx):Prop:=V.X 1 "refuse_far" mH CS
def E8(T:V.T "refuse_far" mG mH)(uU:V.m "max")(uP:V.m "abs")(Pu:V.gi "FAR" 1000000000000)(Pw:V.n "TooFar"):jn V:=by
 refine Tx.okXW T DL (λds R RX h=>?_) (λf cdv A outer s H E J hr hx=>#[_,((ao (br (kj (fX rfl uU (ac (eQ uP (ac (aa 0) af)) (ac (eQ uP (ac (aa 1) af)) af))) (fg Pu)) (ao (zH Pw hx rfl (ac ay af))) bg))),λds R RX d6 h=>?_])
 .obtain⟨_,_,rfl,_⟩:=h;rfl
 .obtain⟨x,y,rfl,h1,h2⟩:=h;refine ite2 (λc=>?_) (λc=>?_)
  .have c':=of_decide_eq_true c;refine#[by show(1:Nat)<=1000;decide,?_];rw[d6];refine h2 λ⟨⟨a1,a2⟩,a3,a4⟩=>?_;split at c'<;>split at c'<;>split at c'<;>lia
  .have c':¬_:=λz=>c (decide_eq_true z);refine h1 ?_;unfold bc;split at c'<;>split at c'<;>split at c'<;>lia
abbrev fL(V:Bx):Prop:=V.D 1 "home" mJ By
def E9(T:V.T "home" mI mJ):fL V:=by
 refine Tx.okDW T sc_home (λds R h=>?_) (λf cdv A outer s H E J hr=>⟨_,((ai (am 3 sc_home.nd (ae (aa 0) ad))
   (ai (am 4 sc_home.nd (ae (aa 0) ad))
   (ai (am 5 sc_home.nd (ae (aa 0) ad))
   (ao (aC (aL (ac (aD (bq (aa 1) (ax (aX (aa 2) (aa 4)) (aa 5))) (aa 3)) (ac (aD (aa 2) (aa 4)) af))))))))),λds R h=>?_⟩)
 .obtain⟨w,h,s,x,y,rfl,_⟩:=h;rfl
 .obtain⟨w,h,s,x,y,rfl,hw,hh,Kj,hs,l8,hR⟩:=h;refine#[λd=>d=.int w,#[_,rfl,rfl],?_];rintro _ rfl;k_places;refine#[λd=>d=.int h,#[_,rfl,rfl],?_];rintro _ rfl;k_places;refine#[λd=>d=.int s,#[_,rfl,rfl],?_];rintro _ rfl;k_places;exact#[#[hh,Kj],.inr #[KK,KK],hw,hh,Ln,hR]
variable{n j:Nat}
def ok_Motif_shows(hL:1<=n)(T:V.Tm "Motif" "shows" "Motif.shows" iy cB)(E_:fL V)(K5:V.a "Motif" "hues")(uN:V.a "Motif" "shifts"):V.Q (n+1) "Motif" "shows" cB (ofX (ca (j+1) "Motif")):=by
 refine Txm.okM T DM (λds M R RX h=>?_) (λf cdv A outer s H E J hr hx=>#[_,((av (aG (A2 (rJ hr) (aE K5 (ag (aa 0))) (aF (aM (hn:=Lm) (CalD.toM E_) hx hr (aF (aE uN (ag (aa 0))) (aF (ag (aa 1)) (aF (ag (aa 2)) aY)))) (aF (ag ad) aY)))))),λds M R RX d6 h=>?_])
 .obtain⟨_,_,_,_,rfl,_⟩:=h;rfl
 .obtain⟨p,v,X,Y,rfl,hv,y7,hd,hc,hR⟩:=h;cases p<;>simp only[Pat.cls]at hc<;>try exact absurd hc Lf
  rename_i L a b c d;obtain⟨k,w,h,s,rfl,F⟩:=hv;obtain⟨hL,ha,hb,KU,e_,hn⟩:=y7;unfold B12 at ha hb KU e_;obtain⟨b1,b2,b3⟩:=F.bd (N:=288) (by
   have m1:=bQ (a:=a) (d:=d) (A:=12) (B:=12) KK KK;have m2:=bQ (a:=b) (d:=c) (A:=12) (B:=12) KK KK;lia)
  rw[Pat.show,<-motif_shows hL F hn X Y]at hR;exact#[_,#[rfl,rfl],_,CL,_,#[rfl,rfl],_,mo_shifts,w,h,s,X,Y,rfl,F.1,F.2.1,KK,F.2.2.1,KK,hR]
def Fb(hL:1<=n)(T:V.Tm "Over" "shows" "Over.shows" iz iA)(uS:V.a "Over" "above")(uX:V.a "Over" "below")(uI:∀x,x∈(["Motif","Over","Shifted","Mirror","Turn","Rehue"]:List Kq)->V.Q n x "shows" cB (ofX (ca j x))):V.Q (n+1) "Over" "shows" iA (ofX (ca (j+1) "Over")):=by
 refine Txm.okM T sc_Over_shows (λds M R RX h=>?_) (λf cdv A outer s H E J hr hx=>⟨_,((aq (aH 3 sc_Over_shows.nd (aS (hn:=Lm) uI hx hr (aE uS (ag (aa 0))) (aB (ac (aa 1) (ac (aa 2) af)))))
   (av (aG (gf (bx (bC (aa 3) ad)) (aS (hn:=Lm) uI hx hr (aE uX (ag (aa 0))) (aB (ac (aa 1) (ac (aa 2) af)))) (ag (aa 3))))))),λds M R RX d6 h=>?_⟩)
 .obtain⟨_,_,_,_,rfl,_⟩:=h;rfl
 .obtain⟨p,v,X,Y,rfl,hv,y7,hd,hc,hR⟩:=h;cases p<;>simp only[Pat.cls]at hc<;>try exact absurd hc Lf
  rename_i p q;obtain⟨u,u',rfl,hu,M4⟩:=hv;obtain⟨fs,rfl,o1⟩:=hu.objm;obtain⟨gs,rfl,o2⟩:=M4.objm;rw[Pat.depth]at hd;refine#[λd M'=>d=.int (p.show X Y)/\M'=M,#[_,#[rfl,rfl],_,rfl,p.cls,p.cls_mem,fs,#[rfl,rfl],o1.shw,p,_,X,Y,rfl,hu,y7.1,KK,rfl,rfl,rfl],?_];rintro _ _⟨rfl,rfl⟩;k_places;rw[Pat.show]at hR;show if decide (p.show X Y=0)=true then _ else _
  refine ite2 (λe=>?_) (λe=>?_)
  .have e':=of_decide_eq_true e;rw[if_neg (λz=>z e')]at hR;exact#[_,#[rfl,rfl],_,fF Lf,q.cls,q.cls_mem,gs,#[rfl,rfl],o2.shw,q,_,X,Y,rfl,M4,y7.2,KK,rfl,hR]
  .have e':p.show X Y≠0:=λz=>e (decide_eq_true z);rw[if_pos e']at hR;exact hR
def Fc(hL:1<=n)(T:V.Tm "Shifted" "shows" "Shifted.shows" iB iC)(uT:V.a "Shifted" "form")(K6:V.a "Shifted" "y")(K7:V.a "Shifted" "x")(uI:∀x,x∈(["Motif","Over","Shifted","Mirror","Turn","Rehue"]:List Kq)->V.Q n x "shows" cB (ofX (ca j x))):V.Q (n+1) "Shifted" "shows" iC (ofX (ca (j+1) "Shifted")):=by
 refine Txm.okM T DN (λds M R RX h=>?_) (λf cdv A outer s H E J hr hx=>#[_,((av (aG (aS (hn:=Lm) uI hx hr (aE uT (ag (aa 0))) (aF (dv (ag (aa 1)) (aE K7 (ag (aa 0)))) (aF (dv (ag (aa 2)) (aE K6 (ag (aa 0)))) aY)))))),λds M R RX d6 h=>?_])
 .obtain⟨_,_,_,_,rfl,_⟩:=h;rfl
 .obtain⟨p,v,X,Y,rfl,hv,y7,hd,hc,hR⟩:=h;cases p<;>simp only[Pat.cls]at hc<;>try exact absurd hc Lf
  rename_i a b p;obtain⟨u,rfl,hu⟩:=hv;obtain⟨fs,rfl,o1⟩:=hu.objm;rw[Pat.depth]at hd;exact#[_,#[rfl,rfl],_,rfl,p.cls,p.cls_mem,fs,#[rfl,rfl],o1.shw,_,#[rfl,rfl],_,fF Lf,_,#[rfl,rfl],_,lm Lf Lf,p,_,X-a,Y-b,rfl,hu,y7.2.2,KK,rfl,hR]
def Fd(hL:1<=n)(T:V.Tm "Mirror" "shows" "Mirror.shows" iD iE)(uV:V.a "Mirror" "form")(uI:∀x,x∈(["Motif","Over","Shifted","Mirror","Turn","Rehue"]:List Kq)->V.Q n x "shows" cB (ofX (ca j x))):V.Q (n+1) "Mirror" "shows" iE (ofX (ca (j+1) "Mirror")):=by
 refine Txm.okM T DO (λds M R RX h=>?_) (λf cdv A outer s H E J hr hx=>#[_,((av (aG (aS (hn:=Lm) uI hx hr (aE uV (ag (aa 0))) (aB (ac (ck (aa 1)) (ac (aa 2) af))))))),λds M R RX d6 h=>?_])
 .obtain⟨_,_,_,_,rfl,_⟩:=h;rfl
 .obtain⟨p,v,X,Y,rfl,hv,y7,hd,hc,hR⟩:=h;cases p<;>simp only[Pat.cls]at hc<;>try exact absurd hc Lf
  rename_i p;obtain⟨u,rfl,hu⟩:=hv;obtain⟨fs,rfl,o1⟩:=hu.objm;rw[Pat.depth]at hd;exact#[_,#[rfl,rfl],_,rfl,p.cls,p.cls_mem,fs,#[rfl,rfl],o1.shw,p,_,-X,Y,rfl,hu,y7,KK,rfl,hR]
def Fe(hL:1<=n)(T:V.Tm "Turn" "shows" "Turn.shows" iF iG)(uY:V.a "Turn" "form")(uI:∀x,x∈(["Motif","Over","Shifted","Mirror","Turn","Rehue"]:List Kq)->V.Q n x "shows" cB (ofX (ca j x))):V.Q (n+1) "Turn" "shows" iG (ofX (ca (j+1) "Turn")):=by
 refine Txm.okM T DP (λds M R RX h=>?_) (λf cdv A outer s H E J hr hx=>#[_,((av (aG (aS (hn:=Lm) uI hx hr (aE uY (ag (aa 0))) (aB (ac (aa 2) (ac (ck (aa 1)) af))))))),λds M R RX d6 h=>?_])
 .obtain⟨_,_,_,_,rfl,_⟩:=h;rfl
 .obtain⟨p,v,X,Y,rfl,hv,y7,hd,hc,hR⟩:=h;cases p<;>simp only[Pat.cls]at hc<;>try exact absurd hc Lf
  rename_i p;obtain⟨u,rfl,hu⟩:=hv;obtain⟨fs,rfl,o1⟩:=hu.objm;rw[Pat.depth]at hd;exact#[_,#[rfl,rfl],_,rfl,p.cls,p.cls_mem,fs,#[rfl,rfl],o1.shw,p,_,Y,-X,rfl,hu,y7,KK,rfl,hR]
def Ff(hL:1<=n)(T:V.Tm "Rehue" "shows" "Rehue.shows" iH iI)(uW:V.a "Rehue" "form")(K8:V.a "Rehue" "old")(K9:V.a "Rehue" "new")(uI:∀x,x∈(["Motif","Over","Shifted","Mirror","Turn","Rehue"]:List Kq)->V.Q n x "shows" cB (ofX (ca j x))):V.Q (n+1) "Rehue" "shows" iI (ofX (ca (j+1) "Rehue")):=by
 refine Txm.okM T sc_Rehue_shows (λds M R RX h=>?_) (λf cdv A outer s H E J hr hx=>⟨_,((aq (aH 3 sc_Rehue_shows.nd (aS (hn:=Lm) uI hx hr (aE uW (ag (aa 0))) (aB (ac (aa 1) (ac (aa 2) af)))))
   (av (aG (gf (ib (ag (aa 3)) (aE K8 (ag (aa 0)))) (aE K9 (ag (aa 0))) (ag (aa 3))))))),λds M R RX d6 h=>?_⟩)
 .obtain⟨_,_,_,_,rfl,_⟩:=h;rfl
 .obtain⟨p,v,X,Y,rfl,hv,y7,hd,hc,hR⟩:=h;cases p<;>simp only[Pat.cls]at hc<;>try exact absurd hc Lf
  rename_i f g p;obtain⟨u,rfl,hu⟩:=hv;obtain⟨fs,rfl,o1⟩:=hu.objm;rw[Pat.depth]at hd;refine#[λd M'=>d=.int (p.show X Y)/\M'=M,#[_,#[rfl,rfl],_,rfl,p.cls,p.cls_mem,fs,#[rfl,rfl],o1.shw,p,_,X,Y,rfl,hu,y7.2.2,KK,rfl,rfl,rfl],?_];rintro _ _⟨rfl,rfl⟩;k_places;rw[Pat.show]at hR;unfold bI at hR;refine#[_,#[rfl,rfl],_,fF Lf,ite2 (λe=>?_) (λe=>?_)]
  .rw[if_pos (of_decide_eq_true e)]at hR;exact#[_,#[rfl,rfl],_,lm Lf Lf,hR]
  .rw[if_neg (λz=>e (decide_eq_true z))]at hR;exact hR
def Fg(Q2:V.Tm "Motif" "shows" "Motif.shows" iy cB)(Q3:V.Tm "Over" "shows" "Over.shows" iz iA)(Q4:V.Tm "Shifted" "shows" "Shifted.shows" iB iC)(Q5:V.Tm "Mirror" "shows" "Mirror.shows" iD iE)(Q6:V.Tm "Turn" "shows" "Turn.shows" iF iG)(Q7:V.Tm "Rehue" "shows" "Rehue.shows" iH iI)(E_:fL V)(K5:V.a "Motif" "hues")(uN:V.a "Motif" "shifts")(uS:V.a "Over" "above")(uX:V.a "Over" "below")(uT:V.a "Shifted" "form")(K6:V.a "Shifted" "y")(K7:V.a "Shifted" "x")(uV:V.a "Mirror" "form")(uY:V.a "Turn" "form")(uW:V.a "Rehue" "form")(K8:V.a "Rehue" "old")(K9:V.a "Rehue" "new"):∀j x,x∈(["Motif","Over","Shifted","Mirror","Turn","Rehue"]:List Kq)->V.Q (1+j) x "shows" cB (ofX (ca j x)):=by
 intro j;induction j with
 |zero=>
  intro x hx;simp only[GP,HW,or_false]at hx;rcases hx with rfl|rfl|rfl|rfl|rfl|rfl
  .exact CalMth.never Q2 (λds M R RX=>fH)
  .exact CalMth.never Q3 (λds M R RX=>fH)
  .exact CalMth.never Q4 (λds M R RX=>fH)
  .exact CalMth.never Q5 (λds M R RX=>fH)
  .exact CalMth.never Q6 (λds M R RX=>fH)
  .exact CalMth.never Q7 (λds M R RX=>fH)
 |succ j M5=>
  intro x hx;simp only[GP,HW,or_false]at hx;rcases hx with rfl|rfl|rfl|rfl|rfl|rfl
  .exact ok_Motif_shows (n:=1+j) (j:=j) Lm Q2 E_ K5 uN
  .exact Fb (n:=1+j) (j:=j) Lm Q3 uS uX M5
  .exact Fc (n:=1+j) (j:=j) Lm Q4 uT K6 K7 M5
  .exact Fd (n:=1+j) (j:=j) Lm Q5 uV M5
  .exact Fe (n:=1+j) (j:=j) Lm Q6 uY M5
  .exact Ff (n:=1+j) (j:=j) Lm Q7 uW K8 K9 M5
abbrev vX(V:Bx):Prop:=∀x,x∈(["Motif","Over","Shifted","Mirror","Turn","Rehue"]:List Kq)->V.Q 7 x "shows" cB (ofX (ca 6 x))
abbrev jp(V:Bx):Prop:=V.X 8 "cell_at" mL CT
def Fh(T:V.T "cell_at" mK mL)(LA:jn V)(L4:V.a "Pattern" "form")(uI:vX V):jp V:=by
 refine CalMM.nilX (Tx.okM T DQ (λds M R RX h=>?_) (λf cdv A outer s H E J hr hx=>⟨_,((aq (bX (aM (CalX.toM LA) hx hr (aB (ac (aa 1) (ac (aa 2) af)))))
   (av (aG (aS uI hx hr (aE L4 (ag (aa 0))) (aB (ac (aa 1) (ac (aa 2) af)))))))),λds M R RX d6 h=>?_⟩))
 .obtain⟨_,R0,KJ,⟨_,_,_,_,rfl,_⟩,_⟩:=h;rfl
 .obtain⟨rfl,R0,KJ,⟨p,d,x,y,rfl,⟨w,h,s,fs,rfl,e1,e2,hp⟩,ok,h1,h2⟩,hR,hX⟩:=h;obtain⟨v,e3,hv⟩:=hp.form;obtain⟨gs,rfl,o1⟩:=hv.objm;have SM:=ok.deep;refine#[x,y,rfl,λhn=>?_,λhn=>?_]
  .exact#[_,#[rfl,rfl],_,e3,p.cls,p.cls_mem,gs,#[rfl,rfl],o1.shw,p,_,x,y,rfl,hv,ok.wf,KK,rfl,hR _ _ (h1 hn)]
  .rw[d6];exact hX _ _ _ (h2 hn)
abbrev jq(V:Bx):Prop:=V.D 9 "row_from" mM CU
def Fi(T:V.T "row_from" iJ mM)(uA:V.m "range")(LB:jp V)(uQ:V.gs "SIGNS" ".123456"):jq V:=by
 refine Tx.okDW T DR (λds R h=>?_) (λf cdv A outer s H E J hr=>#[_,((ao (aC (ku (gW rfl (compScope (by change cV _ (ah iJ) ["pattern","x","y","many"] _=true;decide+kernel)) uA (aa 3) (λcl s0 H0 fp=>(ae (fj uQ) (az (CalX.no LB) hr (ac (aa 0) (ac (aj (aa 1) (aa 4)) (ac (aa 2) af))))))))))),λds R h=>?_])
 .obtain⟨_,_,_,_,_,rfl,_⟩:=h;rfl
 .obtain⟨p,d,x,y,n,rfl,hd,ok,hn,KY,n9,hy,hR⟩:=h;obtain⟨w,h,s,fs,rfl,_⟩:=id hd;refine#[#[KK,KK],by rw[bH];lia,λk ys=>ys=rowD p x y k,rfl,?_,?_]
  .rintro k v ys hk hl rfl;obtain⟨n_,rfl⟩:=bG hk;obtain⟨b0,b6⟩:=Pat.show_le ok.wf (by have:=ok.deep;lia) (x+(k:Int)) y;unfold bc at KY n9;exact#[p,.obj "Pattern" fs,x+(k:Int),y,rfl,hd,ok,λ_=>#[_,#[Lj,vA b0 b6],vD p x y k],λz=>z #[#[KK,KK],hy]]
  .rintro ys hl rfl;rw[bH,Hw];obtain⟨ys,e1,e2,e3⟩:=vE p x y hn;refine#[ys,e1,e2,?_];rw[e3];exact hR
def vY:SpD:=λds R=>∃f q,ds=[.obj "Floor" (Fl.fs f q)]/\f.Ok/\R (.lst (aw f.p f.w 0 f.l.toNat))
variable{f:Fl}
def vZ{a q:KF}(ne:a≠q)(ok:f.Ok){R:D->MS->Prop}{RX:XDM}(h:R (.lst (aw f.p f.w 0 f.l.toNat)) (f.M a q)):lend (λds R _=>vY ds R) [.ptr a] (f.M a q) R RX:=by
 refine#[a,_,_,Fl.ma ne,f,q,?_,ok,Es _ _ _ _,h];show[lendD a _ (.ptr a)]=_;unfold lendD;simp
abbrev jr(V:Bx):Prop:=V.QD 10 "Floor" "rows" mN vY
def Fj(T:V.Tm "Floor" "rows" "Floor.rows" iK mN)(uA:V.m "range")(L5:jq V)(uE:V.a "Floor" "laid")(uK:V.a "Floor" "width")(uF:V.a "Floor" "pattern"):jr V:=by
 refine Txm.okDW T DU (λds R h=>?_) (λf cdv A outer s H E J hr=>#[_,((ao (aC (gW rfl (compScope (by change cV _ (ah iK) ["self"] _=true;decide+kernel)) uA (eZ uE (aa 0)) (λcl s0 H0 fp=>(az L5 hr (ac (eZ uF (aa 0)) (ac ad (ac (aa 1) (ac (eZ uK (aa 0)) af)))))))))),λds R h=>?_])
 .obtain⟨_,_,rfl,_⟩:=h;rfl
 .obtain⟨f,q,rfl,ok,hR⟩:=h;have l0:=ok.l0;have l1:=ok.l1;have h2:=ok.h2;have w1:=ok.w1;have w2:=ok.w2;refine#[rfl,_,eB,#[KK,KK],by rw[bH];lia,λk ys=>ys=aw f.p f.w 0 k,rfl,?_,?_]
  .rintro k v ys hk hl rfl;obtain⟨n_,rfl⟩:=bG hk;refine#[rfl,_,gB,rfl,_,fJ,f.p,f.d,0,k,f.w.toNat,by rw[Hg KK],ok.is,ok.ok,KK,#[KK,KK],#[KK,KK],#[KK,KK],?_];show aw f.p f.w 0 k++_=aw f.p f.w 0 (k+1);rw[<-pw,Ig]
  .rintro ys hl rfl;rw[bH];exact hR
def S_Floor_lay:SpM:=λds M R RX=>∃a q f n,ds=[.ptr a,.int n]/\a≠q/\M=Fl.M f a q/\f.Ok/\1<=n/\n<=1000/\(f.h-f.l<n->RX "NoRow" [] (f.M a q))/\(n<=f.h-f.l->∀q',a≠q'->R (.lst (aw f.p f.w f.l n.toNat)) ((f.lay n).M a q'))
def Fl.ok_new{p:Pat}{d:D}{w h:Int}(is:bp p d)(ok:p.Ok)(w1:1<=w)(w2:w<=30)(h1:1<=h)(h2:h<=30):(Fl.mk p d w h 0 []).Ok:=#[is,ok,w1,w2,h1,h2,Int.le_refl 0,Iw (show(0:Int)<=1 by decide) h1,Hc _,λ_ h=>nomatch h]
def Fl.Ok.keep(ok:f.Ok)(w:Kq):(f.keep w).Ok:=by
 refine#[ok.is,ok.ok,ok.w1,ok.w2,ok.h1,ok.h2,ok.l0,ok.l1,?_,λe he=>?_]
 .show(HP _ _).length<=20;rw[HE,G0,IS];have:=ok.de;lia
 .rcases Hi.mp (Js he)with z|z
  .exact ok.dd e z
  .rw[GN.mp z];exact#[ok.is,ok.ok,ok.l0,ok.l1]
def Fl.Ok.stand{p:Pat}{d:D}(ok:f.Ok)(is:bp p d)(j5:p.Ok):(f.stand p d).Ok:=#[is,j5,ok.w1,ok.w2,ok.h1,ok.h2,ok.l0,ok.l1,ok.de,ok.dd]
def Fl.Ok.lay{n:Int}(ok:f.Ok)(n0:0<=n)(hn:n<=f.h-f.l):(f.lay n).Ok:=by
 have l0:=ok.l0;have k:=ok.keep "lay";exact#[ok.is,ok.ok,ok.w1,ok.w2,ok.h1,ok.h2,by show 0<=f.l+n;lia,by show f.l+n<=f.h;lia,k.de,k.dd]
abbrev pN(V:Bx):Prop:=V.Q 11 "Floor" "lay" iL S_Floor_lay/\V.Qd 11 "Floor" "lay" iL [.int 1] S_Floor_lay
def Fk(T:V.Td "Floor" "lay" "Floor.lay" mQ iL [.int 1])(uU:V.m "max")(uZ:V.a "Floor" "height")(uE:V.a "Floor" "laid")(L6:jl V)(L7:jr V)(Px:V.n "NoRow"):pN V:=by
 refine Txd.okMd T sc_Floor_lay (λds M R RX h=>?_) (λf cdv A outer s H E J hr hx=>⟨_,((aq (bj (Ag (ag (aa 1)) (dv (aE uZ (ag (aa 0))) (aE uE (ag (aa 0))))) (av (Az Px hx rfl (aB (ac ay af)))) aZ)
   (aq (bX (aS (CalMth.one L6) hx hr (ag (aa 0)) (aB (ac ay af))))
   (aq (aH 2 sc_Floor_lay.nd (aE uE (ag (aa 0))))
   (aq (bY uE (ag (aa 0)) (ag (aj (aa 2) (fX rfl uU (ac (aa 1) (ac ad af))))))
   (av (aG (Dm (cr (CalMth.one (CalMth.lendD L7)) hx hr (ag (aa 0))) (vM (ag (aa 2))) vL)))))))),λds M R RX d6 h=>?_⟩)
 .obtain⟨_,_,⟨_,_,_,_,rfl,_⟩,_⟩:=h;rfl
 .obtain⟨R,RX,⟨a,q,f,n,rfl,ne,rfl,ok,n1,n2,hX,hR⟩,rfl,rfl⟩:=h;have l0:=ok.l0;have l1:=ok.l1;refine#[_,Fl.ma ne,_,je,_,Fl.ma ne,_,eB,ite2 (λc=>?_) (λc=>?_)]
  .have c':=of_decide_eq_true c;refine#[by show(1:Nat)<=1000;decide,?_];rw[d6];exact#[_,Fl.sub ne,hX c']
  have hc:n<=f.h-f.l:=by have:¬(f.h-f.l<n):=λz=>c (decide_eq_true z);lia
  refine#[_,GN.mpr rfl,_,Fl.ma ne,rfl,a,q,f,"lay",rfl,ne,rfl,ok.de,λq' f8=>?_];refine#[λd M'=>d=.int f.l/\M'=(f.keep "lay").M a q',#[_,Fl.ma f8,_,eB,rfl,rfl],?_];rintro _ _⟨rfl,rfl⟩;k_places;have eM:mput ((f.keep "lay").M a q') a (.ins "Floor" (putD "laid" (.int (f.l+if 0>n then 0 else n)) ((f.keep "lay").fs q')))=(f.lay n).M a q':=by
   rw[Fl.put f8,if_neg KK];rfl
  refine#[_,Fl.ma f8,by show(6:Nat)<1000;decide,?_];rw[eM];have el:(f.lay n).l.toNat=f.l.toNat+n.toNat:=by show(f.l+n).toNat=_;lia
  refine#[_,GN.mpr rfl,_,Fl.ma f8,rfl,?_];dsimp only[mNil];refine vZ f8 (ok.lay KK hc) ?_;rw[el];show ∃N,subM N _/\R (.lst (cutD (aw f.p f.w 0 _) (be f.l) v7)) N;rw[vT _ _ _ l0];exact#[_,Fl.sub f8,hR hc q' f8]
def Fo:SpM:=λds M R _=>∃a q f n b,ds=[.ptr a,.int n,.bl b]/\a≠q/\M=Fl.M f a q/\f.Ok/\1<=n/\n<=1000/\(f.h-f.l<n->R (.lst [.bl true,.non]) (f.M a q))/\(n<=f.h-f.l->∀q',a≠q'->R (.lst [.bl false,.lst (aw f.p f.w f.l n.toNat)]) ((f.lay n).M a q'))
abbrev pO(V:Bx):Prop:=V.Ek ["TooFar","NoRow","Parted"]
abbrev pP(V:Bx):Prop:=V.MM 12 "_law_lay" mU Fo
def Fp(T:V.T "_law_lay" mR mU)(NQ:pN V)(ek:pO V):pP V:=by
 refine Tx.okM T sc__law_lay (λds M R RX h=>?_) (λf cdv A outer s H E J hr hx=>⟨_,((aq (aH 3 sc__law_lay.nd (ag bL))
   (aq (aH 4 sc__law_lay.nd (ag bo))
   (aq (ud (λpn xe J hp hx=>(av (fq (bx (cz (sA (bC (aa 1) ad) (sy (bM (aa 2)))))) (av (aH 3 sc__law_lay.nd (Ds NQ.2 hx hr (ag (aa 0))))) (av (aH 3 sc__law_lay.nd (aS (CalMth.one NQ.1) hx hr (ag (aa 0)) (aB (ac (aa 1) af)))))))) (λ_=>(zP ek (λe=>(ao (am 4 sc__law_lay.nd bo))) tz)))
   (av (aG (ag (bt (ac (aa 4) (ac (aa 3) af)))))))))),λds M R RX d6 h=>?_⟩)
 .obtain⟨_,_,_,_,_,rfl,_⟩:=h;rfl
 .obtain⟨a,q,f,n,b,rfl,ne,rfl,ok,n1,n2,hX,hR⟩:=h;refine#[λd M'=>d=.non/\M'=f.M a q,#[rfl,rfl],?_];rintro _ _⟨rfl,rfl⟩;k_places;refine#[λd M'=>d=.bl false/\M'=f.M a q,#[rfl,rfl],?_];rintro _ _⟨rfl,rfl⟩;k_places;refine#[λz M' x fs=>z=[be (.ptr a),be (.int n),be (.bl b),be .non,be (.bl false)]/\M'=f.M a q/\x="NoRow"/\f.h-f.l<n,λJ hJ=>?_,?_]
  .let P:D->MS->Prop:=λd M'=>n<=f.h-f.l/\∃q',a≠q'/\d=.lst (aw f.p f.w f.l n.toNat)/\M'=(f.lay n).M a q'
   have lay:S_Floor_lay [.ptr a,.int n] (f.M a q) P (λx fs M'=>J.RM [be (.ptr a),be (.int n),be (.bl b),be .non,be (.bl false)] M' x fs):=
    #[a,q,f,n,rfl,ne,rfl,ok,n1,n2,λc=>by rw[hJ];exact#[rfl,rfl,rfl,c],λc q' f8=>#[c,q',f8,rfl,rfl]]
   refine#[λz M'=>n<=f.h-f.l/\∃q',a≠q'/\z=[be (.ptr a),be (.int n),be (.bl b),be (.lst (aw f.p f.w f.l n.toNat)),be (.bl false)]/\M'=(f.lay n).M a q',ite2 (λc=>ite2 (λ_=>?_) (λ_=>?_)) (λ_=>?_),λz M' ⟨c,q',f8,e1,e2⟩=>?_]
   .have c':n=1:=of_decide_eq_true c;subst c';exact#[P,#[_,Fl.ma ne,rfl,lay],λd M' ⟨c,q',f8,e1,e2⟩=>#[c,q',f8,by rw[e1];rfl,e2]]
   .exact#[P,#[_,GN.mpr rfl,_,Fl.ma ne,rfl,lay],λd M' ⟨c,q',f8,e1,e2⟩=>#[c,q',f8,by rw[e1];rfl,e2]]
   .exact#[P,#[_,GN.mpr rfl,_,Fl.ma ne,rfl,lay],λd M' ⟨c,q',f8,e1,e2⟩=>#[c,q',f8,by rw[e1];rfl,e2]]
   .subst e1 e2;exact#[Nw,hR c q' f8]
  .rintro z M' x fs⟨rfl,rfl,rfl,c⟩;k_places;refine#[#[Ln,Ln],?_];rw[if_pos Lf];exact#[λd=>d=.bl true,rfl,λd e=>by subst e;exact#[#[Nw,hX c],NoOwn.of rfl]]
def Fq:SpD:=λds R=>∃(p:Pat) (w lo:Int) (n:Nat),ds=[.lst (aw p w lo n),.lst (aw p w lo n)]/\n<=1000/\R (.bl true)
abbrev js(V:Bx):Prop:=V.D 1 "_law_texts" mW Fq
def Fs(T:V.T "_law_texts" mV mW)(uB:V.m "len")(uH:V.m "isinstance")(w_:V.m "list")(uA:V.m "range")(uM:V.m "str"):js V:=by
 refine Tx.okDW T sc__law_texts (λds R h=>?_) (λf cdv A outer s H E J hr=>⟨_,((ai (br (cz (cR (cF (bM (dN uH w_ (aa 0) PyProof.Rows.boot_list kit_list))) (cQ (bU (bz uB (ac (aa 0) af)) (bz uB (ac (aa 1) af)))))) (ao (aC bo)) bg)
   (ai (bN 2 PassesOwn.never rfl sc__law_texts.nd uA (bz uB (ac (aa 1) af)) (ao (br (cz (cR (cF (bM (dN uH uM (ae (aa 0) (aa 2)) PyProof.Rows.boot_str kit_str))) (cQ (bU (ae (aa 0) (aa 2)) (ae (aa 1) (aa 2)))))) (ao (aC bo)) bg)))
   (ao (aC bo))))),λds R h=>?_⟩)
 .obtain⟨_,_,_,_,rfl,_⟩:=h;rfl
 .obtain⟨p,w,lo,n,rfl,n7,hR⟩:=h;have lp:(aw p w lo n).length=n:=by unfold aw;simp
  refine ite2 (λc=>absurd c Ln) λ_=>?_;refine#[#[KK,by rw[lp];lia],λk z=>∃o,z=[be (.lst (aw p w lo n)),be (.lst (aw p w lo n)),o],#[_,rfl],?_,?_]
  .rintro k v z hk⟨o,rfl⟩;k_places;obtain⟨n_,rfl⟩:=bG hk;rw[lp]at n_;have ak:=pz (p:=p) (w:=w) (lo:=lo) (show k<n by lia);exact#[_,ak,_,ak,_,ak,ite2 (λc=>absurd c Ln) λ_=>#[_,rfl]]
  .rintro z⟨o,rfl⟩;k_places;exact hR
abbrev dH(V:Bx):Prop:=V.Q 1 "Reading" "may_take" mZ Cj
def Ft(T:V.Tm "Reading" "may_take" "Reading.may_take" mY mZ)(uB:V.m "len")(K':V.a "Reading" "text")(uO:V.a "Reading" "place"):dH V:=by
 refine Txm.okM T DV (λds M R RX h=>?_) (λf cdv A outer s H E J hr hx=>⟨_,((aq (bj (mt_w (ie (ib (aE uO (ag (aa 0))) (tN uB (aF (aE K' (ag (aa 0))) aY))) (ic (Ah (tK (aE K' (ag (aa 0))) (aE uO (ag (aa 0)))) (ag (aa 1)))))) (av (aG (ag ay))) aZ)
   (aq (bY uO (ag (aa 0)) (ia (aE uO (ag (aa 0))) (ag ad)))
   (av (aG (tK (aE K' (ag (aa 0))) (dv (aE uO (ag (aa 0))) (ag ad)))))))),λds M R RX d6 h=>?_⟩)
 .obtain⟨_,_,_,_,_,rfl,_⟩:=h;rfl
 .obtain⟨a,t,k,l,al,rfl,rfl,c9,hR⟩:=h;refine#[_,aV,_,fB,_,aV,_,lf,GY c9.sz Lj,?_];cases l with
  |nil=>
   refine ifdT (by rw[c9.nil]) (ifT rfl ?_);exact hR
  |cons c l=>
   have lt:=c9.lt;refine ifdF KK ?_;refine#[_,aV,_,lf,_,aV,_,fB,c,#[GY c9.sz Lj,bB c9.get],?_];refine ite2 (λe=>?_) (λe=>?_)
   .have e2:(!(!(Builtin.Str.occurrences al #[[c].toArray] 0 al.length 1).isEmpty))=true:=e;rw[vk]at e2;have nc:c∉cs al:=by simpa using e2
    rw[dS nc,dU nc]at hR;exact hR
   .have e2:¬(!(!(Builtin.Str.occurrences al #[[c].toArray] 0 al.length 1).isEmpty))=true:=e;rw[vk]at e2;have nc:c∈cs al:=by simpa using e2
    rw[fC nc,fD nc]at hR;refine#[_,aV,_,fB,_,aV,by show(2:Nat)<1000;decide,?_];rw[show mput (RdM a t k) a (.ins "Reading" (putD ("place":Kq) (.int ((k:Int)+1)) (rdF t k)))=RdM a t (k+1)by rw[Ch];exact im];refine#[_,aV,_,lf,_,aV,_,fB,c,#[GY c9.sz Lj,?_],hR];rw[show((k+1:Nat):Int)-1=(k:Int)by lia];exact bB c9.get
abbrev cN(V:Bx):Prop:=V.Q 2 "Reading" "take" nh Ck
def Fu(T:V.Tm "Reading" "take" "Reading.take" ng nh)(uJ:dH V):cN V:=by
 refine Txm.okM T sc_Reading_take (λds M R RX h=>?_) (λf cdv A outer s H E J hr hx=>⟨_,((aq (aH 2 sc_Reading_take.nd (aS (CalMth.one uJ) hx hr (ag (aa 0)) (aB (ac (aa 1) af))))
   (aq (bj (bx (bC (aa 2) ay)) (av il) aZ)
   (av (aG (ag (aa 2))))))),λds M R RX d6 h=>?_⟩)
 .obtain⟨_,_,_,_,_,_,rfl,_⟩:=h;rfl
 .obtain⟨a,t,k,c,l,al,rfl,rfl,c9,hc,hR⟩:=h;refine#[λd M'=>d=.str #[[c].toArray]/\M'=RdM a t (k+1),#[_,GN.mpr rfl,_,aV,dF,a,t,k,_,al,rfl,rfl,c9,by rw[fC hc,fD hc];exact#[rfl,rfl]],?_];rintro _ _⟨rfl,rfl⟩;k_places;exact hR
abbrev pQ(V:Bx):Prop:=V.MM 3 "line_from" nq S_line_from
def Fv(T:V.T "line_from" nj nq)(uA:V.m "range")(uQ:V.gs "SIGNS" ".123456")(uC:cN V)(uJ:dH V):pQ V:=by
 refine Tx.okM T sc_line_from (λds M R RX h=>?_) (λf cdv A outer s H E J hr hx=>⟨_,((aq (aH 3 sc_line_from.nd (ag ay))
   (aq (AF 4 PassesOwn.leaving rfl sc_line_from.nd uA (ag (aa 2)) (av (aH 3 sc_line_from.nd (ia (ag (aa 3)) (gf (bx (fR (aa 4) (aa 1))) (aS (CalMth.one uC) hx hr (ag (aa 0)) (aB (ac (fj uQ) af))) (aS (CalMth.one uJ) hx hr (ag (aa 0)) (aB (ac (fj uQ) af))))))))
   (av (aG (ag (aa 3))))))),λds M R RX d6 h=>?_⟩)
 .obtain⟨_,_,_,_,_,_,_,rfl,_⟩:=h;rfl
 .obtain⟨a,t,k,n,m,x,l,rfl,rfl,c9,hs,hn,hm,TN,k9,hR⟩:=h;refine#[λd M'=>d=.str ""/\M'=RdM a t k,#[rfl,rfl],?_];rintro _ _⟨rfl,rfl⟩;k_places;refine#[#[KK,KK],λi z M'=>i<=m/\∃col,z=[be (.ptr a),be (.int n),be (.int m),be (.str #[(x.take i).toArray]),col]/\M'=RdM a t (k+min i x.length),#[Hc _,v7,rfl,by rw[Nat.zero_min];rfl],?_,?_]
  .rintro i d z M' hi⟨TQ,col,rfl,rfl⟩;k_places;obtain⟨x_,rfl⟩:=bG hi;have x_:i<m:=by lia
   have b7:=List.length_take_le i x;refine#[λd M'=>d=.str #[(x.take (i+1)).toArray]/\M'=RdM a t (k+min (i+1) x.length),?_,?_]
   .by_cases f7:i<x.length
    .have e1:x.take (i+1)=x.take i++[x[i]]:=List.take_succ_eq_append_getElem f7;have c_:At t (k+i) (x[i]::(x.drop (i+1)++l)):=by
      have:=c9;rw[<-Kg i x,HA,HX f7]at this;have:=this.app;rw[Ij,Ih KK]at this;exact this
     have hc:=signs_is.mpr (Cg (hs x[i] (Hk f7)));have e2:(#[(x.take i).toArray]:Kq)++#[[x[i]].toArray]=#[(x.take (i+1)).toArray]:=by rw[show(#[[x[i]].toArray]:Kq)=#[[x[i]].toArray]from rfl,gp,e1]
     rw[Ih KK,Ih KK];refine ite2 (λ_=>?_) (λ_=>?_)
     .exact#[_,GN.mpr rfl,_,aV,cw,a,t,_,_,_,".123456",rfl,rfl,c_,hc,by rw[fE,show(#[[x[i]].toArray]:Kq).length=1 from rfl];lia,congrArg D.str e2,rfl]
     .refine#[_,GN.mpr rfl,_,aV,dF,a,t,_,_,".123456",rfl,rfl,c_,?_];rw[fC hc,fD hc];exact#[by rw[fE,show(#[[x[i]].toArray]:Kq).length=1 from rfl];lia,congrArg D.str e2,rfl]
    .obtain⟨c,l',rfl,hc⟩:=k9.resolve_left KK;have c_:=c9.app;rw[IN KK,IN KK,HQ KK,HQ KK];refine ite2 (λc=>absurd (of_decide_eq_true c) KK) (λ_=>?_);refine#[_,GN.mpr rfl,_,aV,dF,a,t,_,_,".123456",rfl,rfl,c_,?_];rw[dS (vm hc),dU (vm hc)];refine#[by rw[fE,show("":Kq).length=0 from rfl];lia,?_,rfl];rw[show("":Kq)=#[([]:List Nat).toArray]from rfl,gp,Hn]
   .rintro _ _⟨rfl,rfl⟩;k_places;exact#[x_,_,rfl,trivial]
  .intro z M' hz;rw[bH,Hw]at hz;obtain⟨_,col,rfl,rfl⟩:=hz;rw[HQ hm,IN hm];exact hR
abbrev pR(V:Bx):Prop:=V.MM 4 "lines_from" nu Cq
def Fw(T:V.T "lines_from" nt nu)(uB:V.m "len")(NR:pQ V)(NS:V.gi "LONGEST" 8)(uJ:dH V):pR V:=by
 refine Tx.okM T sc_lines_from (λds M R RX h=>?_) (λf cdv A outer s H E J hr hx=>⟨_,((aq (aH 1 sc_lines_from.nd (kJ (aF (aM (CalMM.frame NR) hx hr (aB (ac (aa 0) (ac ad (ac (fg NS) af))))) aY)))
   (aq (aH 2 sc_lines_from.nd (tN uB (aF (AH (ag (aa 1)) (ag ad)) aY)))
   (aq (AE PassesOwn.leaving (mt_w (Aj (tL (tR uB (ag (aa 1))) (ag (fg NS))) (Ai (ib (aS (CalMth.one (CalMth.frame uJ)) hx hr (ag (aa 0)) (aB (ac ay af))) (ag ay))))) (av (bX (AJ (ag (aa 1)) (aM (CalMM.frame NR) hx hr (aB (ac (aa 0) (ac (aa 2) (ac (aa 2) af)))))))))
   (tS 1 (av (aG (ag (aa 1))))))))),λds M R RX d6 h=>?_⟩)
 .obtain⟨_,_,_,_,_,_,rfl,_⟩:=h;rfl
 .obtain⟨a,t,k,L,w,l,rfl,rfl,hL,c9,hR⟩:=h;have hw:=hL.w1;have SN:=hL.w8;have F_:=hL.many;cases L with
  |nil=>exact absurd F_.1 Lj
  |cons x L=>
   obtain⟨KY,n9⟩:=hL.each x GU;rw[vj]at c9 hR;rw[HA]at c9;rw[GV]at F_;have stop:∀N:List (List Nat),∃c l',rowsT N++59::l=c::l'/\isSg c=false:=λN=>by
    cases N with
    |nil=>exact#[59,l,rfl,rfl]
    |cons y N=>exact#[47,_,rfl,rfl]
   refine#[λd M'=>∃p,p≠a/\d=.ptr p/\M'=(p,.lst [.str #[x.toArray]])::RdM a t (k+x.length),#[[],RdM a t k,rfl,a,t,k,1,8,x,_,rfl,rfl,c9,n9,KK,KK,Lj,.inr (stop L),by show 1<=1000;decide,λp hp=>#[p,λe=>hp (by rw[e];exact GN.mpr rfl),rfl,rfl]],?_];rintro _ _⟨p,SO,rfl,rfl⟩;k_places;refine#[λd M'=>d=.int w/\M'=(p,.lst [.str #[x.toArray]])::RdM a t (k+x.length),#[_,cZ,_,rfl,by rw[fE];lia,by rw[fE,KY],rfl],?_];rintro _ _⟨rfl,rfl⟩;k_places;refine#[λm z M'=>∃L1 L2 k',L=L1++L2/\m=L2.length/\At t k' (rowsT L2++59::l)/\k'+(rowsT L2).length=k+(x++rowsT L).length/\z=[be (.ptr a),be (.ptr p),be (.int w)]/\M'=(p,.lst (lstD (x::L1)))::RdM a t k',#[_,[],L,_,rfl,rfl,c9.app,by rw[G0];lia,rfl,rfl],?_];rintro m z M'⟨L1,L2,k',rfl,rfl,j6,hk,rfl,rfl⟩;k_places;rw[G0]at F_;have M6:(lstD (x::L1)).length=L1.length+1:=by simp[lstD]
   have done:L2=[]->R (.lst (lstD (x::L1))) (RdM a t k'):=λe=>by
    subst e;rw[show k'=k+(x++rowsT (L1++[])).length from hk,show lstD (x::L1)=lstD (x::(L1++[]))by rw[Hn]];exact hR
   refine#[_,cZ,?_];rw[M6];refine ite2 (λc=>?_) (λc=>?_)
   .refine#[_,GN.mpr rfl,_,Cp SO,dF,[(p,_)],RdM a t _,rfl,a,t,_,_,"/",rfl,rfl,j6,?_];cases L2 with
    |nil=>
     rw[show rowsT []++59::l=59::l from rfl,dS Lj,dU Lj];refine#[_,cZ,?_];rw[show mdel ([(p,MO.lst (lstD (x::L1)))]++RdM a t (k'+0)) p=RdM a t k' from lh];exact done rfl
    |cons y N=>
     have e1:rowsT (y::N)++59::l=47::(y++(rowsT N++59::l)):=by simp[rowsT]
     have Q8:(47:Nat)∈cs "/":=Lj
     rw[e1]at j6 ⊢;rw[fC Q8,fD Q8];obtain⟨SQ,SR⟩:=hL.each y (GR _ (Hb _ GU));have r_:=j6.next;refine#[#[_,cZ],[(p,_)],RdM a t _,rfl,a,t,_,w,w,y,_,rfl,rfl,r_,SR,KK,KK,SN,.inl SQ,?_];refine#[_,cZ,by rw[M6];lia,N.length,by rw[GV];lia,L1++[y],N,_,Ln,rfl,r_.app,?_,rfl,?_]
     .rw[<-hk];simp[rowsT];lia
     .show mput ((p,MO.lst (lstD (x::L1)))::RdM a t _) p _=_;rw[vn];simp[lstD]
   .have c':L1.length+1=8:=by
     have:¬((L1.length+1:Nat):Int)<8:=λz=>c (decide_eq_true z);lia
    refine#[_,cZ,?_];rw[lh];exact done (JN KK)
abbrev pS(V:Bx):Prop:=V.MM 3 "number_from" nw Cn
def Fx(T:V.T "number_from" nv nw)(uD:V.m "int")(uJ:dH V)(uC:cN V):pS V:=by
  refine Tx.okM T sc_number_from (λds M R RX h=>?_) (λf cdv A outer s H E J hr hx=>⟨_,((aq (bj (ib (aS (CalMth.one uJ) hx hr (ag (aa 0)) (aB (ac ay af))) (ag ay)) (av (aG (ag ad))) aZ)
      (aq (aH 1 sc_number_from.nd (ia (aS (CalMth.one uJ) hx hr (ag (aa 0)) (aB (ac ay af))) (aS (CalMth.one uC) hx hr (ag (aa 0)) (aB (ac ay af)))))
      (aq (fq (bx (bM (Ae (aa 1) (ac ay af)))) (av (aH 1 sc_number_from.nd (ia (ag (aa 1)) (aS (CalMth.one uJ) hx hr (ag (aa 0)) (aB (ac ay af)))))) aZ)
      (av (aG (ag (fW uD (ac (aa 1) af))))))))),λds M R RX d6 h=>?_⟩)
  . obtain⟨_,_,_,_,_,_,rfl,_⟩:=h;rfl
  . obtain⟨a,t,k,x,e,l,rfl,rfl,f7,he,c9,hR⟩:=h;have hi:=Cl f7;have hl:=bF f7;rw[<-bb]at hl;change (numL x).length<=3 at hl;refine#[_,GN.mpr rfl,_,aV,dF,a,t,k,_,"0",rfl,rfl,c9,?_];rcases numS f7 with e0|⟨pre,c,y,hp,hc,ev,hy⟩
    . rw[e0]at hR hi ⊢;have e1:x=0:=Option.some.inj (hi.symm.trans Lf);subst e1;have e2:(48:Nat)∈cs "0":=by decide
      rw[show([48]++e::l:List Nat)=48::e::l from rfl,fC e2,fD e2];exact hR
    rw[ev]at c9 hR hi hl ⊢;have h0:mayS "0" (pre++c::y++e::l)=""/\mayN "0" (pre++c::y++e::l)=0:=by
      have n:c∉cs "0":=λq=>by have:=GN.mp q;lia
      rcases hp with rfl|rfl
      . exact#[dS n,dU n]
      . exact#[dS Lj,dU Lj]
    have hm:mayS "-" (pre++c::y++e::l)=#[pre.toArray]/\mayN "-" (pre++c::y++e::l)=pre.length:=by
      have n:c∉cs "-":=λq=>by have:=GN.mp q;lia
      rcases hp with rfl|rfl
      . exact#[dS n,dU n]
      . exact#[rfl,rfl]
    rw[h0.1,h0.2];have c_:At t (k+pre.length) (c::(y++e::l)):=by rw[HA]at c9;exact c9.app
    have j6:=c_.next;refine#[λd M'=>d=.str #[(pre++[c]).toArray]/\M'=RdM a t (k+pre.length+1),?_,?_]
    . refine#[_,GN.mpr rfl,_,aV,dF,a,t,k,_,"-",rfl,rfl,c9,?_];rw[hm.1,hm.2];refine#[_,GN.mpr rfl,_,aV,cw,a,t,k+pre.length,c,_,"123456789",rfl,rfl,c_,digits19.mpr hc,?_,?_,rfl]
      . rcases hp with rfl|rfl<;>simp[Str.length]
      . rw[show(#[[c].toArray]:Kq)=#[[c].toArray]from rfl,gp]
    . rintro _ _⟨rfl,rfl⟩;k_places;refine#[λz M'=>z=[be (.ptr a),be (.str #[(pre++c::y).toArray])]/\M'=RdM a t (k+(pre++c::y).length),?_,?_]
      . show if Txt.endswith #[(pre++[c]).toArray] "1"=true then _ else _
        rw[Cm];refine ite2 (λz=>?_) (λz=>?_)
        . obtain⟨e1,e2,e3⟩:(⟨(pre++[c]).toArray⟩:Kq)++mayS "012" (y++e::l)=⟨(pre++c::y).toArray⟩/\mayN "012" (y++e::l)=y.length/\(mayS "012" (y++e::l)).length<=1:=by
            rcases hy with rfl|⟨_,d,hd,rfl⟩
            . have n:e∉cs "012":=λq=>by have:=digits02.mp q;unfold endS at he;lia
              rw[List.nil_append,dS n,dU n];refine#[?_,rfl,Lj];rw[show("":Kq)=#[([]:List Nat).toArray]from rfl,gp];simp
            . rw[show([d]++e::l:List Nat)=d::e::l from rfl,fC (digits02.mpr hd),fD (digits02.mpr hd)];refine#[?_,rfl,GO 1];rw[show(#[[d].toArray]:Kq)=#[[d].toArray]from rfl,gp];simp
          refine#[λv M'=>v=.str #[(pre++c::y).toArray]/\M'=RdM a t (k+(pre++c::y).length),#[_,GN.mpr rfl,_,aV,dF,a,t,_,_,"012",rfl,rfl,j6,?_],?_]
          . refine#[?_,congrArg D.str e1,?_]
            . rcases hp with rfl|rfl<;>simp[Str.length]at e3 ⊢<;>lia
            . rw[e2];congr 1;simp;lia
          . rintro _ _⟨rfl,rfl⟩;k_places;exact#[rfl,trivial]
        . have SS:y=[]:=hy.resolve_right λq=>z (decide_eq_true q.1);subst SS;exact#[rfl,by rw[G0];rfl]
      . rintro _ _⟨rfl,rfl⟩;k_places;exact#[x,#[hi,by show(pre++c::y).length<=640;lia],hR]
abbrev gC(V:Bx):Prop:=V.MM 4 "shift_from" nz Co
def Fy(T:V.T "shift_from" ny nz)(NT:pS V)(uC:cN V):gC V:=by
 refine Tx.okM T sc_shift_from (λds M R RX h=>?_) (λf cdv A outer s H E J hr hx=>⟨_,((aq (aH 1 sc_shift_from.nd (aM NT hx hr (aB (ac (aa 0) af))))
   (aq (bX (aS (CalMth.one uC) hx hr (ag (aa 0)) (aB (ac ay af))))
   (av (aG (tM (aF (ag (aa 1)) (aF (aM NT hx hr (aB (ac (aa 0) af))) aY)))))))),λds M R RX d6 h=>?_⟩)
 .obtain⟨_,_,_,_,_,_,_,rfl,_⟩:=h;rfl
 .obtain⟨a,t,k,x,y,e,l,rfl,rfl,f7,hy,he,c9,hR⟩:=h;refine#[λd M'=>d=.int x/\M'=RdM a t (k+(numL x).length),#[a,t,k,x,44,_,rfl,rfl,f7,.inl rfl,c9,rfl,rfl],?_];rintro _ _⟨rfl,rfl⟩;k_places;have c_:=c9.app;exact#[_,GN.mpr rfl,_,aV,cw,a,t,_,44,_,",",rfl,rfl,c_,Lj,a,t,_,y,e,l,rfl,rfl,hy,he,c_.next,Ln,hR]
abbrev jt(V:Bx):Prop:=V.D 1 "levelled" nB Bz
def Fz(T:V.T "levelled" nA nB):jt V:=by
 refine Tx.okDW T sc_levelled (λds R h=>?_) (λf cdv A outer s H E J hr=>⟨_,((ai (fV PassesOwn.never (bU (ae (aa 1) ad) ad) (ai (am 2 sc_levelled.nd (yI (ae (aa 0) ad) (ae (aa 1) ad)))
    (ai (am 3 sc_levelled.nd (aL (ac (bq (ae (aa 0) ad) (ax (aa 2) (ae (aa 1) ad))) (ac (bq (ae (aa 0) ad) (ax (aa 2) (ae (aa 1) ad))) af))))
    (ai (am 0 sc_levelled.nd (aa 1))
    (ao (am 1 sc_levelled.nd (aa 3)))))))
   (ai (fU (fR (ae (aa 0) ad) ad) (ao (am 0 sc_levelled.nd (aL (ac (ck (ae (aa 0) ad)) (ac (ck (ae (aa 0) ad)) af))))) bg)
   (ao (aC (aL (ac (aa 0) (ac (aa 1) af)))))))),λds R h=>?_⟩)
 .obtain⟨a,b,c,d,rfl,_⟩:=h;rfl
 .obtain⟨a,b,c,d,rfl,hb,hd,hR⟩:=h;refine#[λm z=>∃(f0 f1 s0 s1:Int) (t r:Option D),z=[be (.tup [.int f0,.int f1]),be (.tup [.int s0,.int s1]),t,r]/\Uni a b c d f0 f1 s0 s1/\f1.natAbs<4611686018427387904/\s1.natAbs<4611686018427387904/\m=s1.natAbs,#[_,a,b,c,d,v7,v7,rfl,Uni.refl a b c d,hb,hd,rfl],?_];rintro m z⟨f0,f1,s0,s1,t,r,rfl,hu,hf,hs,rfl⟩;k_places;refine#[_,rfl,ite2 (λcc=>?_) (λcc=>?_)]
  .have c':¬s1=0:=by simpa using cc
   obtain⟨g1,g2⟩:=fdm f1 s1 c';refine#[λd=>d=.int (f1.fdiv s1),#[_,rfl,_,rfl,#[c',hs],rfl],?_];rintro _ rfl;k_places;refine#[λd=>d=.tup [.int (f0-f1.fdiv s1*s0),.int (f1-f1.fdiv s1*s1)],#[_,rfl,_,rfl,.inl #[KK,KK],_,rfl,_,rfl,.inl #[KK,KK],Ln,rfl],?_];rintro _ rfl;k_places;refine#[λd=>d=.tup [.int s0,.int s1],rfl,?_];rintro _ rfl;k_places;refine#[λd=>d=.tup [.int (f0-f1.fdiv s1*s0),.int (f1-f1.fdiv s1*s1)],rfl,?_];rintro _ rfl;k_places;exact#[_,g1,s0,s1,_,_,_,_,rfl,hu.step _,hs,KK,rfl]
  .have c':s1=0:=by simpa using cc
   subst c';refine#[λz=>∃p0 p1:Int,z=[be (.tup [.int p0,.int p1]),be (.tup [.int s0,.int 0]),t,r]/\Lev a b c d p0 p1 s0,#[_,rfl,ite2 (λe=>?_) (λe=>?_)],?_]
   .have e':=of_decide_eq_true e;refine#[λd=>d=.tup [.int (-f0),.int (-f1)],#[_,rfl,_,rfl,Ln,rfl],?_];rintro _ rfl;k_places;exact#[_,_,rfl,KK,hu.neg]
   .have e':=of_decide_eq_false (Ho.mpr e);exact#[_,_,rfl,KK,hu]
   .rintro _⟨p0,p1,rfl,hL⟩;k_places;exact#[Ln,hR p0 p1 s0 hL]
abbrev ju(V:Bx):Prop:=V.D 2 "spread" nD BA
def FA(T:V.T "spread" nC nD)(uP:V.m "abs")(L8:jt V):ju V:=by
 refine Tx.okDW T sc_spread (λds R h=>?_) (λf cdv A outer s H E J hr=>⟨_,((ai (br (bC (ax (ae (aa 0) ad) (ae (aa 1) ad)) (ax (ae (aa 0) ad) (ae (aa 1) ad))) (ao (aC bL)) bg)
   (ai (am 2 sc_spread.nd (az L8 hr (ac (aa 0) (ac (aa 1) af))))
   (ai (am 3 sc_spread.nd (eQ uP (ac (ae (ae (aa 2) ad) ad) af)))
   (ao (aC (aL (ac (aa 3) (ac (ae (ae (aa 2) ad) ad) (ac (aD (ae (ae (aa 2) ad) ad) (aa 3)) af)))))))))),λds R h=>?_⟩)
 .obtain⟨a,b,c,d,rfl,_⟩:=h;rfl
 .obtain⟨a,b,c,d,rfl,ha,hb,hc,hd,hN,hR⟩:=h;refine#[_,rfl,_,rfl,.inl #[KK,KK],_,rfl,_,rfl,.inl #[KK,KK],ite2 (λe=>?_) (λe=>?_)]
  .exact hN (of_decide_eq_true e)
  .have e':=of_decide_eq_false (Ho.mpr e);refine#[λx=>∃p0 p1 q0:Int,x=.tup [.tup [.int p0,.int p1],.tup [.int q0,.int 0]]/\Lev a b c d p0 p1 q0,#[a,b,c,d,rfl,hb,hd,λp0 p1 q0 hL=>#[p0,p1,q0,rfl,hL]],?_];rintro _⟨p0,p1,q0,rfl,hL⟩;k_places;have hF:=gk e' hL;refine#[λx=>x=.int (if q0<0 then -q0 else q0),#[_,rfl,_,rfl,rfl],?_];rintro _ rfl;k_places;exact#[_,rfl,_,rfl,_,rfl,_,rfl,hF.1,Ln,hR e' _ _ _ hF]
abbrev pT(V:Bx):Prop:=V.MM 2 "hues_by_home" nF Cw
def FC(T:V.T "hues_by_home" nE nF)(LC:V.m "enumerate")(E_:fL V)(uQ:V.gs "SIGNS" ".123456"):pT V:=by
 refine Tx.okM T sc_hues_by_home (λds M R RX h=>?_) (λf cdv A outer s H E J hr hx=>⟨_,((aq (aH 2 sc_hues_by_home.nd AZ)
   (aq (AQ PassesOwn.leaving rfl LC (ag (aa 0)) (dg_cons 3 sc_hues_by_home.nd (dg_cons 4 sc_hues_by_home.nd dO)) (av (AR PassesOwn.leaving rfl LC (ag (aa 4)) (dg_cons 5 sc_hues_by_home.nd (dg_cons 6 sc_hues_by_home.nd dO)) (av (fq (bx (bU (aa 6) ay)) (av (bX (A3 (rJ hr) (ag (aa 2)) (aB (ac (az E_ hr (ac (aa 1) (ac (aa 5) (ac (aa 3) af)))) (ac (kF (fj uQ) (ac (aa 6) af)) af)))))) aZ)))))
   (tS 2 (av (aG (ag (aa 2)))))))),λds M R RX d6 h=>?_⟩)
 .obtain⟨_,_,_,_,_,rfl,_⟩:=h;rfl
 .obtain⟨L,wd,w,h,s,rfl,hL,hw,hh,Kj,hs,l8,hR⟩:=h;have SI:=hL.w8;refine#[λd M'=>∃p,p∉au M/\d=.ptr p/\M'=(p,.dti [])::M,λp hp=>#[p,hp,rfl,rfl],?_];rintro _ _⟨p,hp,rfl,rfl⟩;k_places;refine#[λj z M'=>∃(kv:List ((Int×Int)×Int)) (x3 x4 x5 x6:Option D),hAll w h s j (L.drop j) kv=hAll w h s 0 L []/\kv.length<=8*j/\z=[be (.lst (lstD L)),be (.tup [.int w,.int h,.int s]),be (.ptr p),x3,x4,x5,x6]/\M'=(p,.dti kv)::M,#[[],v7,v7,v7,v7,rfl,Ln,rfl,rfl],?_,?_]
  .rintro j d z M' hd⟨kv,x3,x4,x5,x6,e1,SU,rfl,rfl⟩;k_places;obtain⟨x,f7,rfl⟩:=Ct hd;have hj:j<L.length:=(G1.mp f7).1;have TR:=hL.many;obtain⟨xl,xs⟩:=hL.each x (Hz f7);rw[vp f7]at e1;refine#[Cs xs,λi z M'=>∃(KQ:List ((Int×Int)×Int)) (x5 x6:Option D),hRow w h s j i (x.drop i) KQ=hRow w h s j 0 x kv/\KQ.length<=8*j+i/\i<=x.length/\z=[be (.lst (lstD L)),be (.tup [.int w,.int h,.int s]),be (.ptr p),be (.int j),be (.str #[x.toArray]),x5,x6]/\M'=(p,.dti KQ)::M,#[kv,x5,x6,rfl,KK,Hc _,rfl,rfl],?_,?_]
   .rintro i d z M' LI⟨KQ,y5,y6,e2,Py,hi,rfl,rfl⟩;k_places;obtain⟨c,hc,rfl⟩:=Cu LI;have x_:i<x.length:=(G1.mp hc).1;have sc:=xs c (Hz hc);rw[vp hc,hRow]at e2;refine#[λz M'=>∃M7:List ((Int×Int)×Int),hRow w h s j (i+1) (x.drop (i+1)) M7=hRow w h s j 0 x kv/\M7.length<=8*j+(i+1)/\z=[be (.lst (lstD L)),be (.tup [.int w,.int h,.int s]),be (.ptr p),be (.int j),be (.str #[x.toArray]),be (.int i),be (.str #[[c].toArray])]/\M'=(p,.dti M7)::M,?_,?_]
    .show if(!decide ((#[[c].toArray]:Kq)="."))=true then _ else _;by_cases w6:c=46
     .subst w6;rw[if_pos rfl]at e2;exact#[KQ,e2,KK,rfl,rfl]
     .rw[if_neg w6]at e2;refine ifT (by simp[one_sign,w6]) ?_;have c6:49<=c/\c<=54:=by unfold aW at sc;lia
      obtain⟨ix,rest,ho,Ol⟩:=Cr c6;refine#[#[_,cZ],w,h,s,i,j,rfl,hw,hh,Kj,hs,l8,ix,rest,ho,_,cZ,by have:=vo KQ (hmX w h s i j) ((j:Int)%h) ((c:Int)-48);lia,λv=>?_];rw[vn,Ol];exact#[_,e2,by have:=vo KQ (hmX w h s i j) ((j:Int)%h) ((c:Int)-48);lia,rfl,rfl]
    .rintro z M'⟨M7,e3,h3,rfl,rfl⟩;k_places;exact#[M7,_,_,e3,h3,x_,rfl,rfl]
   .rintro z M' hz;rw[fk,fE]at hz;obtain⟨KQ,y5,y6,e2,Py,hi,rfl,rfl⟩:=hz;rw[Kh]at e2;refine#[KQ,_,_,_,_,?_,KK,rfl,rfl];rw[<-e1,hAll,<-e2];rfl
  .rintro z M' hz;rw[show(lstD L).length=L.length by simp[lstD]]at hz;obtain⟨kv,x3,x4,x5,x6,e1,SU,rfl,rfl⟩:=hz;rw[Kh]at e1;refine#[_,cZ,?_];rw[lh];have e2:kv=hAll w h s 0 L []:=e1;rw[<-e2]at hR;exact hR
abbrev pU(V:Bx):Prop:=V.M 3 "Motif" nH Cy
def FD(T:V.Ti "Motif" "Motif.__init__" nG nH)(L9:ju V)(Pz:pT V)(PB:V.a "Motif" "place")(uN:V.a "Motif" "shifts")(K5:V.a "Motif" "hues"):pU V:=by
 refine Txi.okIM T DY (λds R h=>?_) (λf cdv A outer s H E J hr hx=>⟨_,((aq (bY PB (ag (aa 0)) (ag (aa 1)))
   (aq (bY uN (ag (aa 0)) (ag (az L9 hr (ac (aa 3) (ac (aa 4) af)))))
   (av (bY K5 (ag (aa 0)) (gf (kI (aE uN (ag (aa 0))) (ag bL)) AY (aM Pz hx hr (aF (ag (aa 2)) (aF (aE uN (ag (aa 0))) aY))))))))),λa ds R LJ h=>?_⟩)
 .obtain⟨_,_,_,_,_,_,_,rfl,_⟩:=h;rfl
 .obtain⟨k,L,wd,x,y,u,v,rfl,hL,f7,hy,hu,hv,hn,h1⟩:=h;unfold B12 at f7 hy hu hv;refine#[_,dR,by show(0:Nat)<1000;decide,?_];rw[im,Cz];refine#[x,y,u,v,rfl,KK,KK,KK,KK,λe=>absurd e hn,λe w h s F=>?_];refine#[_,dR,Qx,?_];rw[im,CA];refine#[_,dR,_,vq,?_];obtain⟨b1,b2,b3⟩:=F.bd (N:=288) (by
   have m1:=bQ (a:=x) (d:=v) (A:=12) (B:=12) KK KK;have m2:=bQ (a:=y) (d:=u) (A:=12) (B:=12) KK KK;lia)
  refine#[_,dR,_,vq,L,wd,w,h,s,rfl,hL,F.1,F.2.1,KK,F.2.2.1,KK,?_];refine#[_,dR,by show(2:Nat)<1000;decide,?_];rw[im,CB];exact#[_,rfl,h1 w h s F]
abbrev jv(V:Bx):Prop:=V.MM 5 "motif_from" nJ CJ
def FE(T:V.T "motif_from" nI nJ)(PC:pR V)(KR:gC V)(uO:V.a "Reading" "place")(PD:pU V)(uC:cN V):jv V:=by
 refine Tx.okM T sc_motif_from (λds M R RX h=>?_) (λf cdv A outer s H E J hr hx=>⟨_,((aq (aH 1 sc_motif_from.nd (aE uO (ag (aa 0))))
   (aq (bX (aS (CalMth.one uC) hx hr (ag (aa 0)) (aB (ac ay af))))
   (aq (aH 2 sc_motif_from.nd (aM PC hx hr (aB (ac (aa 0) af))))
   (aq (bX (aS (CalMth.one uC) hx hr (ag (aa 0)) (aB (ac ay af))))
   (aq (aH 3 sc_motif_from.nd (aM KR hx hr (aB (ac (aa 0) af))))
   (aq (bX (aS (CalMth.one uC) hx hr (ag (aa 0)) (aB (ac ay af))))
   (aq (aH 4 sc_motif_from.nd (aM KR hx hr (aB (ac (aa 0) af))))
   (aq (bX (aS (CalMth.one uC) hx hr (ag (aa 0)) (aB (ac ay af))))
   (av (aG (ag (kC PD hr (ac (aa 1) (ac (aa 2) (ac (aa 3) (ac (aa 4) af))))))))))))))))),λds M R RX d6 h=>?_⟩)
 .obtain⟨_,_,_,_,_,_,_,_,_,rfl,_⟩:=h;rfl
 .obtain⟨g,t,k,L,a,b,c,d,l,rfl,rfl,c9,⟨M8,ha,hb,hc,hd,hn⟩,hR⟩:=h;obtain⟨w,hL⟩:=CI M8;have c9:At t k (91::(rowsL (L.map cs)++59::(numL a++44::(numL b++59::(numL c++44::(numL d++93::l)))))):=by simpa[motL]using c9
  have b7:k+(motL (L.map cs) a b c d).length=k+1+(rowsL (L.map cs)).length+1+(numL a).length+1+(numL b).length+1+(numL c).length+1+(numL d).length+1:=by simp[motL];lia
  rw[b7]at hR;have c_:=c9.next;have j6:=c_.app;have r_:=j6.next;have M9:At t (k+1+(rowsL (L.map cs)).length+1+(numL a).length+1+(numL b).length) _:=r_.app.next.app;have M_:=M9.next;have PF:At t (k+1+(rowsL (L.map cs)).length+1+(numL a).length+1+(numL b).length+1+(numL c).length+1+(numL d).length) _:=M_.app.next.app;refine#[λv M'=>v=.int k/\M'=RdM g t k,#[_,aV,_,fB,rfl,rfl],?_];rintro _ _⟨rfl,rfl⟩;k_places;refine#[_,GN.mpr rfl,_,aV,cw,g,t,_,91,_,"[",rfl,rfl,c9,Lj,?_];refine#[λv M'=>v=.lst (lstD (L.map cs))/\M'=RdM g t (k+1+(rowsL (L.map cs)).length),#[g,t,_,_,w,_,rfl,rfl,hL,c_,rfl,rfl],?_];rintro _ _⟨rfl,rfl⟩;k_places;refine#[_,GN.mpr rfl,_,aV,cw,g,t,_,59,_,";",rfl,rfl,j6,Lj,?_];refine#[λv M'=>v=.tup [.int a,.int b]/\M'=RdM g t (k+1+(rowsL (L.map cs)).length+1+(numL a).length+1+(numL b).length),#[g,t,_,a,b,59,_,rfl,rfl,ha,hb,.inr (.inl rfl),r_,rfl,rfl],?_];rintro _ _⟨rfl,rfl⟩;k_places;refine#[_,GN.mpr rfl,_,aV,cw,g,t,_,59,_,";",rfl,rfl,M9,Lj,?_];refine#[λv M'=>v=.tup [.int c,.int d]/\M'=RdM g t (k+1+(rowsL (L.map cs)).length+1+(numL a).length+1+(numL b).length+1+(numL c).length+1+(numL d).length),#[g,t,_,c,d,93,_,rfl,rfl,hc,hd,.inr (.inr (.inr rfl)),M_,rfl,rfl],?_];rintro _ _⟨rfl,rfl⟩;k_places;exact#[_,GN.mpr rfl,_,aV,cw,g,t,_,93,_,"]",rfl,rfl,PF,Lj,k,_,w,a,b,c,d,rfl,hL,ha,hb,hc,hd,hn,λw h s F=>hR _ #[k,w,h,s,rfl,F]]
abbrev jw(V:Bx):Prop:=V.M 1 "Mirror" nM CF
def FF(T:V.Ti "Mirror" "Mirror.__init__" nK nM)(uV:V.a "Mirror" "form"):jw V:=by
 refine Txi.okI T DZ (λds R h=>?_) (λf cdv A outer s H E J hr=>#[_,((bO uV (aa 1) dP)),λds R h=>?_])
 .obtain⟨_,_,rfl,_⟩:=h;rfl
 .obtain⟨x,fs,rfl,hR⟩:=h;exact#[Lj,hR]
abbrev jx(V:Bx):Prop:=V.M 1 "Turn" nO CG
def FG(T:V.Ti "Turn" "Turn.__init__" nN nO)(uY:V.a "Turn" "form"):jx V:=by
 refine Txi.okI T D0 (λds R h=>?_) (λf cdv A outer s H E J hr=>#[_,((bO uY (aa 1) dP)),λds R h=>?_])
 .obtain⟨_,_,rfl,_⟩:=h;rfl
 .obtain⟨x,fs,rfl,hR⟩:=h;exact#[Lj,hR]
abbrev jy(V:Bx):Prop:=V.M 1 "Over" nQ CC
def FH(T:V.Ti "Over" "Over.__init__" nP nQ)(uS:V.a "Over" "above")(uX:V.a "Over" "below"):jy V:=by
 refine Txi.okI T D1 (λds R h=>?_) (λf cdv A outer s H E J hr=>#[_,((bO uS (aa 1) (bO uX (aa 2) dP))),λds R h=>?_])
 .obtain⟨_,_,_,_,rfl,_⟩:=h;rfl
 .obtain⟨x,y,fs,gs,rfl,hR⟩:=h;refine#[Lj,Qx,?_];show R (putD _ _ (putD _ _ []));rw[putD,putD,if_neg Lf];exact hR
abbrev jz(V:Bx):Prop:=V.M 1 "Shifted" nS CD
def FI(T:V.Ti "Shifted" "Shifted.__init__" nR nS)(uT:V.a "Shifted" "form")(K7:V.a "Shifted" "x")(K6:V.a "Shifted" "y"):jz V:=by
 refine Txi.okI T D2 (λds R h=>?_) (λf cdv A outer s H E J hr=>#[_,((bO uT (aa 1) (bO K7 (aa 2) (bO K6 (aa 3) dP)))),λds R h=>?_])
 .obtain⟨_,_,_,_,rfl,_⟩:=h;rfl
 .obtain⟨x,fs,a,b,rfl,hR⟩:=h;refine#[Lj,Qx,by show(2:Nat)<1000;decide,?_];show R (putD _ _ (putD _ _ (putD _ _ [])));rw[show putD ("x":Kq) (.int a) (putD ("form":Kq) (.obj x fs) [])=([("form",.obj x fs),("x",.int a)]:List (Kq×D))by rw[putD,putD,if_neg Lf];rfl,putD,if_neg Lf,putD,if_neg Lf];exact hR
abbrev jA(V:Bx):Prop:=V.M 1 "Rehue" nV CH
def FJ(T:V.Ti "Rehue" "Rehue.__init__" nU nV)(uW:V.a "Rehue" "form")(K8:V.a "Rehue" "old")(K9:V.a "Rehue" "new"):jA V:=by
 refine Txi.okI T D3 (λds R h=>?_) (λf cdv A outer s H E J hr=>#[_,((bO uW (aa 1) (bO K8 (aa 2) (bO K9 (aa 3) dP)))),λds R h=>?_])
 .obtain⟨_,_,_,_,rfl,_⟩:=h;rfl
 .obtain⟨x,fs,a,b,rfl,hR⟩:=h;refine#[Lj,Qx,by show(2:Nat)<1000;decide,?_];show R (putD _ _ (putD _ _ (putD _ _ [])));rw[show putD ("old":Kq) (.int a) (putD ("form":Kq) (.obj x fs) [])=([("form",.obj x fs),("old",.int a)]:List (Kq×D))by rw[putD,putD,if_neg Lf];rfl,putD,if_neg Lf,putD,if_neg Lf];exact hR
def FK(hL:5<=n)(T:V.T "over_from" iM gw)(uL:V.MM n "form_from" cM (dG j))(Na:jy V)(uC:cN V):V.MM (n+1) "over_from" gw (vw j):=by
 refine Tx.okM T sc_over_from (λds M R RX h=>?_) (λf cdv A outer s H E J hr hx=>⟨_,((aq (aH 2 sc_over_from.nd (aM (hn:=Lm) uL hx hr (aB (ac (aa 0) (ac (aa 1) af)))))
   (aq (bX (aS (hn:=Lm) (CalMth.one uC) hx hr (ag (aa 0)) (aB (ac ay af))))
   (aq (aH 3 sc_over_from.nd (aM (hn:=Lm) uL hx hr (aB (ac (aa 0) (ac (aa 1) af)))))
   (aq (bX (aS (hn:=Lm) (CalMth.one uC) hx hr (ag (aa 0)) (aB (ac ay af))))
   (av (aG (ag (kC (hn:=Lm) Na hr (ac (aa 2) (ac (aa 3) af))))))))))),λds M R RX d6 h=>?_⟩)
 .obtain⟨_,_,_,_,_,_,_,rfl,_⟩:=h;rfl
 .obtain⟨a,t,k,p,q,l,d,rfl,rfl,c9,LD,KO,hp,hq,y8,SV,hR⟩:=h;have c_:=c9.app;have j6:=c_.next;have r_:=j6.app;refine#[λv M'=>FormOf p v/\M'=RdM a t (k+p.tl.length),#[a,t,k,p,_,d,rfl,rfl,c9,LD,KO,hp,y8,λv h=>#[h,rfl]],?_];rintro v _⟨hv,rfl⟩;k_places;obtain⟨fs,rfl,_⟩:=hv.objm;refine#[_,GN.mpr rfl,_,aV,cw,a,t,_,124,_,"|",rfl,rfl,c_,Lj,?_];refine#[λv M'=>FormOf q v/\M'=RdM a t (k+p.tl.length+1+q.tl.length),#[a,t,_,q,_,d,rfl,rfl,j6,LD,KO,hq,SV,λv h=>#[h,rfl]],?_];rintro v _⟨Q9,rfl⟩;k_places;obtain⟨gs,rfl,_⟩:=Q9.objm;exact#[_,GN.mpr rfl,_,aV,cw,a,t,_,41,_,")",rfl,rfl,r_,Lj,_,_,_,_,rfl,hR _ _ hv Q9]
def FL(hL:5<=n)(T:V.T "shifted_from" iN gx)(KR:gC V)(uL:V.MM n "form_from" cM (dG j))(Nb:jz V)(uC:cN V):V.MM (n+1) "shifted_from" gx (vx j):=by
 refine Tx.okM T sc_shifted_from (λds M R RX h=>?_) (λf cdv A outer s H E J hr hx=>⟨_,((aq (aH 2 sc_shifted_from.nd (aM (hn:=Lm) KR hx hr (aB (ac (aa 0) af))))
   (aq (bX (aS (hn:=Lm) (CalMth.one uC) hx hr (ag (aa 0)) (aB (ac ay af))))
   (av (aG (ij (hn:=Lm) Nb hr (aF (aM (hn:=Lm) uL hx hr (aB (ac (aa 0) (ac (aa 1) af)))) (aF (ag (ae (aa 2) ad)) (aF (ag (ae (aa 2) ad)) aY))))))))),λds M R RX d6 h=>?_⟩)
 .obtain⟨_,_,_,_,_,_,_,_,rfl,_⟩:=h;rfl
 .obtain⟨a,t,k,x,y,p,l,d,rfl,rfl,c9,LD,KO,f7,hy,hp,y8,hR⟩:=h;have c_:At t (k+(numL x).length+1+(numL y).length) _:=c9.app.next.app;refine#[λv M'=>v=.tup [.int x,.int y]/\M'=RdM a t (k+(numL x).length+1+(numL y).length),#[a,t,_,x,y,58,_,rfl,rfl,f7,hy,.inr (.inr (.inl rfl)),c9,rfl,rfl],?_];rintro _ _⟨rfl,rfl⟩;k_places;refine#[_,GN.mpr rfl,_,aV,cw,a,t,_,58,_,":",rfl,rfl,c_,Lj,?_];refine#[a,t,_,p,l,d,rfl,rfl,c_.next,LD,KO,hp,y8,λv h=>?_];obtain⟨fs,rfl,_⟩:=h.objm;exact#[_,rfl,_,rfl,_,_,_,_,rfl,hR _ h]
def FM(hL:5<=n)(T:V.T "rehue_from" iO gy)(uD:V.m "int")(uL:V.MM n "form_from" cM (dG j))(Nd:jA V)(uC:cN V):V.MM (n+1) "rehue_from" gy (vy j):=by
 refine Tx.okM T sc_rehue_from (λds M R RX h=>?_) (λf cdv A outer s H E J hr hx=>⟨_,((aq (aH 2 sc_rehue_from.nd (tO uD (aF (aS (hn:=Lm) (CalMth.one uC) hx hr (ag (aa 0)) (aB (ac ay af))) aY)))
   (aq (aH 3 sc_rehue_from.nd (tO uD (aF (aS (hn:=Lm) (CalMth.one uC) hx hr (ag (aa 0)) (aB (ac ay af))) aY)))
   (av (aG (ij (hn:=Lm) Nd hr (aF (aM (hn:=Lm) uL hx hr (aB (ac (aa 0) (ac (aa 1) af)))) (aF (ag (aa 2)) (aF (ag (aa 3)) aY))))))))),λds M R RX d6 h=>?_⟩)
 .obtain⟨_,_,_,_,_,_,_,_,rfl,_⟩:=h;rfl
 .obtain⟨a,t,k,f,g,p,l,d,rfl,rfl,c9,LD,KO,hf,hg,hp,y8,hR⟩:=h;have Q_:∀{f:Int},1<=f/\f<=6->PySem.intText? (#[[(48+f).toNat].toArray]:Kq)=be f:=λ{f} h=>by
   have:=digit_of (c:=(48+f).toNat) KK;rw[show(((48+f).toNat:Nat):Int)-48=f by lia]at this;exact this
  refine#[λv M'=>v=.int f/\M'=RdM a t (k+1),#[_,GN.mpr rfl,_,aV,cw,a,t,_,_,_,"123456",rfl,rfl,c9,vt hf,_,#[Q_ hf,by show(1:Nat)<=640;decide],rfl,rfl],?_];rintro _ _⟨rfl,rfl⟩;k_places;refine#[λv M'=>v=.int g/\M'=RdM a t (k+2),#[_,GN.mpr rfl,_,aV,cw,a,t,_,_,_,"123456",rfl,rfl,c9.next,vt hg,_,#[Q_ hg,by show(1:Nat)<=640;decide],rfl,rfl],?_];rintro _ _⟨rfl,rfl⟩;k_places;refine#[a,t,_,p,l,d,rfl,rfl,c9.next.next,LD,KO,hp,y8,λv h=>?_];obtain⟨fs,rfl,_⟩:=h.objm;exact#[_,_,_,_,rfl,hR _ h]
def FN(hL:5<=n)(T:V.T "form_from" iP cM)(SW:V.MM n "over_from" gw (vw j))(SX:V.MM n "shifted_from" gx (vx j))(uL:V.MM n "form_from" cM (dG j))(SY:V.MM n "rehue_from" gy (vy j))(Nf:jv V)(Ng:V.gi "DEEP" 5)(Nh:jw V)(Ni:jx V)(uJ:dH V):V.MM (n+1) "form_from" cM (dG (j+1)):=by
 refine Tx.okM T sc_form_from (λds M R RX h=>?_) (λf cdv A outer s H E J hr hx=>⟨_,((aq (aH 2 sc_form_from.nd (gf (bx (fR (aa 1) (fg Ng))) (aS (hn:=Lm) (CalMth.one uJ) hx hr (ag (aa 0)) (aB (ac ay af))) (ag ay)))
   (aq (bj (bx (bC (aa 2) ay)) (av (aG (aM (hn:=Lm) SW hx hr (aB (ac (aa 0) (ac (aj (aa 1) ad) af)))))) aZ)
   (aq (bj (bx (bC (aa 2) ay)) (av (aG (aM (hn:=Lm) SX hx hr (aB (ac (aa 0) (ac (aj (aa 1) ad) af)))))) aZ)
   (aq (bj (bx (bC (aa 2) ay)) (av (aG (ij (hn:=Lm) Nh hr (aF (aM (hn:=Lm) uL hx hr (aB (ac (aa 0) (ac (aj (aa 1) ad) af)))) aY)))) aZ)
   (aq (bj (bx (bC (aa 2) ay)) (av (aG (ij (hn:=Lm) Ni hr (aF (aM (hn:=Lm) uL hx hr (aB (ac (aa 0) (ac (aj (aa 1) ad) af)))) aY)))) aZ)
   (aq (bj (bx (bC (aa 2) ay)) (av (aG (aM (hn:=Lm) SY hx hr (aB (ac (aa 0) (ac (aj (aa 1) ad) af)))))) aZ)
   (av (aG (aM (hn:=Lm) Nf hx hr (aB (ac (aa 0) af)))))))))))),λds M R RX d6 h=>?_⟩)
 .obtain⟨_,_,_,_,_,_,rfl,_⟩:=h;rfl
 .obtain⟨a,t,k,p,l,d,rfl,rfl,c9,LD,KO,hp,y8,hR⟩:=h;refine#[λv M'=>v=.str (mayS "(smth" (p.tl++l))/\M'=RdM a t (k+mayN "(smth" (p.tl++l)),?_,?_]
  .show if decide ((d:Int)<5)=true then _ else _
   refine ite2 (λc=>?_) (λc=>?_)
   .exact#[_,GN.mpr rfl,_,aV,dF,a,t,_,_,"(smth",rfl,rfl,c9,rfl,rfl]
   .have c':¬((d:Int)<5):=λz=>c (decide_eq_true z);cases p with
    |mot L a b c d=>exact#[rfl,rfl]
    |_=>rw[Pat.depth]at y8;lia
  rintro _ _⟨rfl,rfl⟩;k_places;cases p with
  |mot L x y u v=>exact#[a,t,k,L,x,y,u,v,l,rfl,rfl,c9,hp,hR]
  |over p q=>
   rw[Pat.depth]at y8;have e:k+(Pat.over p q).tl.length=k+1+p.tl.length+1+q.tl.length+1:=by rw[Pat.tl];simp;lia
   have c_:At t (k+1) (p.tl++124::(q.tl++41::l)):=by have:=c9.next;simpa using this
   rw[e]at hR;exact#[a,t,k+1,p,q,l,d+1,rfl,rfl,c_,KK,KK,hp.1,hp.2,KK,KK,λu u' h1 h2=>hR _ #[u,u',rfl,h1,h2]]
  |sh x y p=>
   rw[Pat.depth]at y8;have e:k+(Pat.sh x y p).tl.length=k+1+(numL x).length+1+(numL y).length+1+p.tl.length:=by rw[Pat.tl];simp;lia
   have c_:At t (k+1) (numL x++44::(numL y++58::(p.tl++l))):=by have:=c9.next;simpa using this
   rw[e]at hR;exact#[a,t,k+1,x,y,p,l,d+1,rfl,rfl,c_,KK,KK,hp.1,hp.2.1,hp.2.2,KK,λu h1=>hR _ #[u,rfl,h1]]
  |mir p=>
   rw[Pat.depth]at y8;have e:k+(Pat.mir p).tl.length=k+1+p.tl.length:=by rw[Pat.tl];simp;lia
   rw[e]at hR;refine#[a,t,k+1,p,l,d+1,rfl,rfl,c9.next,KK,KK,hp,KK,λu h1=>?_];obtain⟨fs,rfl,_⟩:=h1.objm;exact#[_,_,rfl,hR _ #[_,rfl,h1]]
  |tur p=>
   rw[Pat.depth]at y8;have e:k+(Pat.tur p).tl.length=k+1+p.tl.length:=by rw[Pat.tl];simp;lia
   rw[e]at hR;refine#[a,t,k+1,p,l,d+1,rfl,rfl,c9.next,KK,KK,hp,KK,λu h1=>?_];obtain⟨fs,rfl,_⟩:=h1.objm;exact#[_,_,rfl,hR _ #[_,rfl,h1]]
  |hue f g p=>
   rw[Pat.depth]at y8;have e:k+(Pat.hue f g p).tl.length=k+1+2+p.tl.length:=by rw[Pat.tl,hueL hp.1,hueL hp.2.1];simp;lia
   have c_:At t (k+1) ((48+f).toNat::(48+g).toNat::(p.tl++l)):=by
    have:=c9.next;rw[hueL hp.1,hueL hp.2.1]at this;simpa using this
   rw[e]at hR;exact#[a,t,k+1,f,g,p,l,d+1,rfl,rfl,c_,KK,KK,hp.1,hp.2.1,hp.2.2,KK,λu h1=>hR _ #[u,rfl,h1]]
def FO(S1:V.T "over_from" iM gw)(S2:V.T "shifted_from" iN gx)(S3:V.T "rehue_from" iO gy)(Ra:V.T "form_from" iP cM)(Na:jy V)(uC:cN V)(KR:gC V)(Nb:jz V)(uD:V.m "int")(Nd:jA V)(Nf:jv V)(Ng:V.gi "DEEP" 5)(Nh:jw V)(Ni:jx V)(uJ:dH V):∀j,V.MM (5+2*j) "form_from" cM (dG j):=by
 intro j;induction j with
 |zero=>exact CalMM.never Ra (λds M R RX=>CK)
 |succ j ih=>
  have Nj:=ih;have PH:=FK (n:=5+2*j) (j:=j) Lm S1 Nj Na uC;have PJ:=FL (n:=5+2*j) (j:=j) Lm S2 KR Nj Nb uC;have PK:=FM (n:=5+2*j) (j:=j) Lm S3 uD Nj Nd uC;have Nj:=Cal.mono ih (HL _);exact FN (n:=5+2*j+1) (j:=j) Lm Ra PH PJ Nj PK Nf Ng Nh Ni uJ
abbrev pV(V:Bx):Prop:=V.M 1 "Reading" nX Ci
def FP(T:V.Ti "Reading" "Reading.__init__" nW nX)(K':V.a "Reading" "text")(uO:V.a "Reading" "place"):pV V:=by
 refine Txi.okI T D4 (λds R h=>?_) (λf cdv A outer s H E J hr=>#[_,((bO K' (aa 1) (bO uO ad dP))),λds R h=>?_])
 .obtain⟨_,rfl,_⟩:=h;rfl
 .obtain⟨t,rfl,hR⟩:=h;refine#[Lj,Qx,?_];show R (putD _ _ (putD _ _ []));rw[putD,putD,if_neg Lf];exact hR
abbrev pW(V:Bx):Prop:=V.M 1 "Pattern" nZ CQ
def FQ(T:V.Ti "Pattern" "Pattern.__init__" nY nZ)(L_:V.a "Pattern" "text")(Kl:V.a "Pattern" "shifts")(L4:V.a "Pattern" "form"):pW V:=by
 refine Txi.okI T D5 (λds R h=>?_) (λf cdv A outer s H E J hr=>#[_,((bO L_ (aa 1) (bO Kl (aa 2) (bO L4 (aa 3) dP)))),λds R h=>?_])
 .obtain⟨_,_,_,_,_,_,rfl,_⟩:=h;rfl
 .obtain⟨t,w,h,s,x,fs,rfl,hR⟩:=h;refine#[Lj,Qx,by show(2:Nat)<1000;decide,?_];show R (putD _ _ (putD _ _ (putD _ _ [])));rw[show putD ("shifts":Kq) (.tup [.int w,.int h,.int s]) (putD ("text":Kq) (.str t) [])=([("text",.str t),("shifts",.tup [.int w,.int h,.int s])]:List (Kq×D))by rw[putD,putD,if_neg Lf];rfl,putD,if_neg Lf,putD,if_neg Lf];exact hR
abbrev pX(V:Bx):Prop:=V.D 2 "measure" og BD
def FR(T:V.T "measure" oa og)(L8:jt V):pX V:=by
 refine Tx.okDW T sc_measure (λds R h=>?_) (λf cdv A outer s H E J hr=>⟨_,((ai (am 2 sc_measure.nd (ae (az L8 hr (ac (aL (ac ad (ac (aa 0) af))) (ac (aL (ac ad (ac (aa 1) af))) af))) ad))
   (ao (aC (aL (ac (ae (aa 2) ad) (ac (ae (aa 2) ad) af))))))),λds R h=>?_⟩)
 .obtain⟨x,y,rfl,_⟩:=h;rfl
 .obtain⟨x,y,rfl,hx,hy,hR⟩:=h;refine#[λd=>∃p0 p1:Int,d=.tup [.int p0,.int p1]/\Meas x y p1 p0,#[Ln,Ln,1,x,0,y,rfl,hx,hy,λp0 p1 q0 hL=>#[_,rfl,p0,p1,rfl,uj #[hL.1,hL.2]]],?_];rintro _⟨p0,p1,rfl,hM⟩;k_places;exact#[_,rfl,_,rfl,Ln,hR p1 p0 hM]
abbrev jB(V:Bx):Prop:=V.D 3 "met" oi BE
def FS(T:V.T "met" oh oi)(Nk:pX V):jB V:=by
 refine Tx.okDW T sc_met (λds R h=>?_) (λf cdv A outer s H E J hr=>⟨_,((ai (am 2 sc_met.nd (az Nk hr (ac (ae (aa 0) ad) (ac (ae (aa 1) ad) af))))
   (ai (am 3 sc_met.nd (aX (ax (ae (aa 0) ad) (ae (aa 1) ad)) (ae (aa 2) ad)))
   (ai (am 4 sc_met.nd (aX (ax (ae (aa 0) ad) (ae (aa 1) ad)) (ae (az Nk hr (ac (ae (aa 0) ad) (ac (ae (aa 1) ad) af))) ad)))
   (ai (am 5 sc_met.nd (ax (aX (aa 4) (ae (aa 0) ad)) (ae (aa 0) ad)))
   (ai (am 6 sc_met.nd (bq (ax (aX (aa 4) (ae (aa 1) ad)) (ae (aa 1) ad)) (aa 5)))
   (ai (am 7 sc_met.nd (aX (ae (aa 2) ad) (ae (az Nk hr (ac (ae (aa 2) ad) (ac (aa 6) af))) ad)))
   (ai (am 8 sc_met.nd (ax (aX (ax (aa 7) (aa 6)) (ae (aa 2) ad)) (ae (aa 2) ad)))
   (ao (aC (aL (ac (aa 3) (ac (ax (aa 4) (aa 7)) (ac (aD (aj (ax (aa 7) (aa 5)) (ax (aa 8) (ae (aa 0) ad))) (aa 3)) af)))))))))))))),λds R h=>?_⟩)
 .obtain⟨_,_,_,_,_,_,rfl,_⟩:=h;rfl
 .obtain⟨w1,h1,s1,w2,h2,s2,rfl,a1,a2,a3,a4,a5,a6,b1,b2,b3,b4,b5,b6,hR⟩:=h;refine#[λd=>∃g u:Int,d=.tup [.int g,.int u]/\Meas w1 w2 g u,#[_,rfl,_,rfl,w1,w2,rfl,Lm,Lm,λg u M=>#[g,u,rfl,M]],?_];rintro _⟨g,u,rfl,M1⟩;k_places;have hg:=M1.pos a1;have Pf:=M1.le a1;refine#[λd=>d=.int (w1*w2/g),#[_,rfl,_,rfl,.inl (b64B a1 a2),_,rfl,d30B hg (Iw Pf a2),rfl],?_];rintro _ rfl;k_places;refine#[λd=>∃k u':Int,d=.int (h1*h2/k)/\Meas h1 h2 k u',#[_,rfl,_,rfl,.inl (b64B a3 a4),_,rfl,_,rfl,h1,h2,rfl,Lm,Lm,λk u' M=>#[_,rfl,d30B (M.pos a3) (Iw (M.le a3) a4),k,u',rfl,M]],?_];rintro _⟨k,u',rfl,M2⟩;k_places;obtain⟨r0,r1,r2,r3,r4,r5⟩:=kT a3 b3 M2;have S4:h1*h2<=1125899906842624:=by
   have:=bQ (a:=h1) (d:=h2) (A:=33554432) (B:=33554432) Lm Lm;omega
  refine#[λd=>d=.int (h1*h2/k/h1*s1),#[_,rfl,d30B a3 a4,_,rfl,.inr (s64B a5 a6 a2),rfl],?_];rintro _ rfl;k_places;refine#[λd=>d=.int (h1*h2/k/h2*s2-h1*h2/k/h1*s1),#[_,rfl,d30B b3 b4,_,rfl,.inr (s64B b5 b6 b2),rfl],?_];rintro _ rfl;k_places;have t1:=bQ (a:=h1*h2/k/h1) (d:=s1) (A:=33554432) (B:=33554432) Lm Lm;have t2:=bQ (a:=h1*h2/k/h2) (d:=s2) (A:=33554432) (B:=33554432) Lm Lm;refine#[λd=>∃gg v_:Int,d=.int (g/gg)/\Meas g (h1*h2/k/h2*s2-h1*h2/k/h1*s1) gg v_,#[_,rfl,_,rfl,g,_,rfl,Lm,Lm,λgg v_ M=>#[_,rfl,d30B (M.pos hg) (Iw (M.le hg) (Iw Pf a2)),gg,v_,rfl,M]],?_];rintro _⟨gg,v_,rfl,M3⟩;k_places;have KL:=M3.pos hg;have c1:0<=g/gg:=IP Lm Lm;have c2:g/gg<=g:=Ju _ Lm;have c4:=Bo (c:=g/gg) (gap:=h1*h2/k/h2*s2-h1*h2/k/h1*s1) (N:=2251799813685248) hg c1 c2 Lm;have mr:=kS a1 b1 a3 b3 M1 M2 M3;refine#[λd=>d=.int (g/gg*(h1*h2/k/h2*s2-h1*h2/k/h1*s1)/g*u),#[.inl #[Lm,Lm],_,rfl,#[Lm,Lm],_,rfl,.inl #[Lm,Lm],rfl],?_];rintro _ rfl;k_places;obtain⟨w0,w3,_⟩:=kT a1 b1 M1;have S5:w1*w2<=1125899906842624:=by
   have:=bQ (a:=w1) (d:=w2) (A:=33554432) (B:=33554432) Lm Lm;omega
  have QL:=bQ (a:=h1*h2/k) (d:=g/gg) (A:=1125899906842624) (B:=33554432) Lm Lm;exact#[.inl #[Lm,Lm],.inl #[Lm,Lm],_,rfl,.inr #[Lm,Lm],w0,Ln,hR _ _ _ _ mr]
abbrev jC(V:Bx):Prop:=V.D 1 "mirrored" ol BB
def FT(T:V.T "mirrored" oj ol):jC V:=by
 refine Tx.okDW T D6 (λds R h=>?_) (λf cdv A outer s H E J hr=>#[_,((ao (aC (aL (ac (ae (aa 0) ad) (ac (ae (aa 0) ad) (ac (aD (ck (ae (aa 0) ad)) (ae (aa 0) ad)) af))))))),λds R h=>?_])
 .obtain⟨w,h,s,rfl,_⟩:=h;rfl
 .obtain⟨w,h,s,rfl,hw,hR⟩:=h;exact#[_,rfl,_,rfl,_,rfl,_,rfl,hw,Ln,hR]
abbrev jD(V:Bx):Prop:=V.D 3 "turned" oq BC
def FU(T:V.T "turned" om oq)(L9:ju V):jD V:=by
 refine Tx.okDW T D7 (λds R h=>?_) (λf cdv A outer s H E J hr=>#[_,((ao (aC (az L9 hr (ac (aL (ac ad (ac (ae (aa 0) ad) af))) (ac (aL (ac (ck (ae (aa 0) ad)) (ac (ae (aa 0) ad) af))) af)))))),λds R h=>?_])
 .obtain⟨w,h,s,rfl,_⟩:=h;rfl
 .obtain⟨w,h,s,rfl,hw,hh,MQ,Kj,hs,l8,hR⟩:=h;have hp:0<w*h:=G6 hw hh;have hn:¬0*s=w* -h:=by rw[IJ];lia
  exact#[_,rfl,Ln,_,rfl,_,rfl,Ln,0,w,-h,s,rfl,KK,KK,KK,KK,λe=>absurd e hn,λ_ w' h' s' f=>hR w' h' s' f]
def ok_Motif_family(hL:3<=n)(T:V.Tm "Motif" "family" "Motif.family" iQ cC)(uN:V.a "Motif" "shifts"):V.Q (n+1) "Motif" "family" cC (ofX (bZ (j+1) "Motif")):=by
 refine Txm.okM T D8 (λds M R RX h=>?_) (λf cdv A outer s H E J hr hx=>⟨_,((aq (bj (kI (aE uN (ag (aa 0))) (ag bL)) (av il) aZ)
   (av (aG (aE uN (ag (aa 0))))))),λds M R RX d6 h=>?_⟩)
 .obtain⟨_,_,rfl,_⟩:=h;rfl
 .obtain⟨p,v,rfl,hv,hp,hd,hc,hf,hR⟩:=h;cases p<;>simp only[Pat.cls]at hc<;>try exact absurd hc Lf
  obtain⟨k,w,h,s,rfl,F⟩:=hv;exact#[_,#[rfl,rfl],_,mo_shifts,_,#[rfl,rfl],_,mo_shifts,hR w h s (Pat.Fam.mot F)]
def FV(hL:3<=n)(T:V.Tm "Over" "family" "Over.family" iR iS)(Nl:jB V)(uS:V.a "Over" "above")(uX:V.a "Over" "below")(uG:∀x,x∈(["Motif","Over","Shifted","Mirror","Turn","Rehue"]:List Kq)->V.Q n x "family" cC (ofX (bZ j x))):V.Q (n+1) "Over" "family" iS (ofX (bZ (j+1) "Over")):=by
 refine Txm.okM T sc_Over_family (λds M R RX h=>?_) (λf cdv A outer s H E J hr hx=>⟨_,((aq (aH 1 sc_Over_family.nd (cr (hn:=Lm) uG hx hr (aE uS (ag (aa 0)))))
   (av (aG (aM (hn:=Lm) (CalD.toM Nl) hx hr (aF (ag (aa 1)) (aF (cr (hn:=Lm) uG hx hr (aE uX (ag (aa 0)))) aY))))))),λds M R RX d6 h=>?_⟩)
 .obtain⟨_,_,rfl,_⟩:=h;rfl
 .obtain⟨p,v,rfl,hv,hp,hd,hc,hf,hR⟩:=h;cases p<;>simp only[Pat.cls]at hc<;>try exact absurd hc Lf
  rename_i p q;obtain⟨u,u',rfl,hu,M4⟩:=hv;obtain⟨fs,rfl,o1⟩:=hu.objm;obtain⟨gs,rfl,o2⟩:=M4.objm;obtain⟨f1,f2⟩:=Pat.Fits.over_parts hp.1 hp.2 hf;rw[Pat.depth]at hd;refine#[λd M'=>(∃w h s,p.Fam w h s/\d=.tup [.int w,.int h,.int s])/\M'=M,#[_,#[rfl,rfl],_,rfl,p.cls,p.cls_mem,fs,#[rfl,rfl],o1.fam,p,_,rfl,hu,hp.1,KK,rfl,f1,λw h s F=>#[#[w,h,s,F,rfl],rfl]],?_];rintro _ _⟨⟨w1,h1,s1,F1,rfl⟩,rfl⟩;k_places;refine#[_,#[rfl,rfl],_,fF Lf,q.cls,q.cls_mem,gs,#[rfl,rfl],o2.fam,q,_,rfl,M4,hp.2,KK,rfl,f2,λw2 h2 s2 F2=>?_];obtain⟨a1,a2,a3,a4,a5,a6⟩:=f1.small F1;obtain⟨b1,b2,b3,b4,b5,b6⟩:=f2.small F2;exact#[w1,h1,s1,w2,h2,s2,rfl,a1,KK,a3,KK,a5,a6,b1,KK,b3,KK,b5,b6,λw h s A MR=>hR w h s (Pat.Fam.over F1 F2 MR)]
def FW(hL:3<=n)(T:V.Tm "Shifted" "family" "Shifted.family" iT iU)(uT:V.a "Shifted" "form")(uG:∀x,x∈(["Motif","Over","Shifted","Mirror","Turn","Rehue"]:List Kq)->V.Q n x "family" cC (ofX (bZ j x))):V.Q (n+1) "Shifted" "family" iU (ofX (bZ (j+1) "Shifted")):=by
 refine Txm.okM T D9 (λds M R RX h=>?_) (λf cdv A outer s H E J hr hx=>#[_,((av (aG (cr (hn:=Lm) uG hx hr (aE uT (ag (aa 0))))))),λds M R RX d6 h=>?_])
 .obtain⟨_,_,rfl,_⟩:=h;rfl
 .obtain⟨p,v,rfl,hv,hp,hd,hc,hf,hR⟩:=h;cases p<;>simp only[Pat.cls]at hc<;>try exact absurd hc Lf
  rename_i a b p;obtain⟨u,rfl,hu⟩:=hv;obtain⟨fs,rfl,o1⟩:=hu.objm;rw[Pat.depth]at hd;refine#[_,#[rfl,rfl],_,rfl,p.cls,p.cls_mem,fs,#[rfl,rfl],o1.fam,p,_,rfl,hu,hp.2.2,KK,rfl,hf.of_sh,λw h s F=>?_];exact hR w h s (F.sh a b)
def FX(hL:3<=n)(T:V.Tm "Mirror" "family" "Mirror.family" iV iW)(Nm:jC V)(uV:V.a "Mirror" "form")(uG:∀x,x∈(["Motif","Over","Shifted","Mirror","Turn","Rehue"]:List Kq)->V.Q n x "family" cC (ofX (bZ j x))):V.Q (n+1) "Mirror" "family" iW (ofX (bZ (j+1) "Mirror")):=by
 refine Txm.okM T Ea (λds M R RX h=>?_) (λf cdv A outer s H E J hr hx=>#[_,((av (aG (aM (hn:=Lm) (CalD.toM Nm) hx hr (aF (cr (hn:=Lm) uG hx hr (aE uV (ag (aa 0)))) aY))))),λds M R RX d6 h=>?_])
 .obtain⟨_,_,rfl,_⟩:=h;rfl
 .obtain⟨p,v,rfl,hv,hp,hd,hc,hf,hR⟩:=h;cases p<;>simp only[Pat.cls]at hc<;>try exact absurd hc Lf
  rename_i p;obtain⟨u,rfl,hu⟩:=hv;obtain⟨fs,rfl,o1⟩:=hu.objm;rw[Pat.depth]at hd;refine#[_,#[rfl,rfl],_,rfl,p.cls,p.cls_mem,fs,#[rfl,rfl],o1.fam,p,_,rfl,hu,hp,KK,rfl,Pat.Fits.of_mir (p:=p) hp hf,λw h s F=>?_];exact#[w,h,s,rfl,F.f.w0,hR w h _ F.mir]
def FY(hL:3<=n)(T:V.Tm "Turn" "family" "Turn.family" iX iY)(Nn:jD V)(uY:V.a "Turn" "form")(uG:∀x,x∈(["Motif","Over","Shifted","Mirror","Turn","Rehue"]:List Kq)->V.Q n x "family" cC (ofX (bZ j x))):V.Q (n+1) "Turn" "family" iY (ofX (bZ (j+1) "Turn")):=by
 refine Txm.okM T Eb (λds M R RX h=>?_) (λf cdv A outer s H E J hr hx=>#[_,((av (aG (aM (hn:=Lm) (CalD.toM Nn) hx hr (aF (cr (hn:=Lm) uG hx hr (aE uY (ag (aa 0)))) aY))))),λds M R RX d6 h=>?_])
 .obtain⟨_,_,rfl,_⟩:=h;rfl
 .obtain⟨p,v,rfl,hv,hp,hd,hc,hf,hR⟩:=h;cases p<;>simp only[Pat.cls]at hc<;>try exact absurd hc Lf
  rename_i p;obtain⟨u,rfl,hu⟩:=hv;obtain⟨fs,rfl,o1⟩:=hu.objm;rw[Pat.depth]at hd;refine#[_,#[rfl,rfl],_,rfl,p.cls,p.cls_mem,fs,#[rfl,rfl],o1.fam,p,_,rfl,hu,hp,KK,rfl,Pat.Fits.of_tur (p:=p) hp hf,λw h s F=>?_];obtain⟨a1,a2,a3,a4,a5,a6⟩:=(Pat.Fits.of_tur (p:=p) hp hf).small F;exact#[w,h,s,rfl,a1,a3,KK,KK,a5,KK,λw' h' s' F'=>hR w' h' s' (F.tur F')]
def FZ(hL:3<=n)(T:V.Tm "Rehue" "family" "Rehue.family" iZ ja)(uW:V.a "Rehue" "form")(uG:∀x,x∈(["Motif","Over","Shifted","Mirror","Turn","Rehue"]:List Kq)->V.Q n x "family" cC (ofX (bZ j x))):V.Q (n+1) "Rehue" "family" ja (ofX (bZ (j+1) "Rehue")):=by
 refine Txm.okM T Ec (λds M R RX h=>?_) (λf cdv A outer s H E J hr hx=>#[_,((av (aG (cr (hn:=Lm) uG hx hr (aE uW (ag (aa 0))))))),λds M R RX d6 h=>?_])
 .obtain⟨_,_,rfl,_⟩:=h;rfl
 .obtain⟨p,v,rfl,hv,hp,hd,hc,hf,hR⟩:=h;cases p<;>simp only[Pat.cls]at hc<;>try exact absurd hc Lf
  rename_i f g p;obtain⟨u,rfl,hu⟩:=hv;obtain⟨fs,rfl,o1⟩:=hu.objm;rw[Pat.depth]at hd;refine#[_,#[rfl,rfl],_,rfl,p.cls,p.cls_mem,fs,#[rfl,rfl],o1.fam,p,_,rfl,hu,hp.2.2,KK,rfl,hf.of_hue,λw h s F=>?_];exact hR w h s (F.hue f g)
def F4(Rb:V.Tm "Motif" "family" "Motif.family" iQ cC)(Rc:V.Tm "Over" "family" "Over.family" iR iS)(Rf:V.Tm "Shifted" "family" "Shifted.family" iT iU)(Rg:V.Tm "Mirror" "family" "Mirror.family" iV iW)(Rh:V.Tm "Turn" "family" "Turn.family" iX iY)(Ri:V.Tm "Rehue" "family" "Rehue.family" iZ ja)(uN:V.a "Motif" "shifts")(Nl:jB V)(uS:V.a "Over" "above")(uX:V.a "Over" "below")(uT:V.a "Shifted" "form")(Nm:jC V)(uV:V.a "Mirror" "form")(Nn:jD V)(uY:V.a "Turn" "form")(uW:V.a "Rehue" "form"):∀j x,x∈(["Motif","Over","Shifted","Mirror","Turn","Rehue"]:List Kq)->V.Q (3+j) x "family" cC (ofX (bZ j x)):=by
 intro j;induction j with
 |zero=>
  intro x hx;simp only[GP,HW,or_false]at hx;rcases hx with rfl|rfl|rfl|rfl|rfl|rfl
  .exact CalMth.never Rb (λds M R RX=>fG)
  .exact CalMth.never Rc (λds M R RX=>fG)
  .exact CalMth.never Rf (λds M R RX=>fG)
  .exact CalMth.never Rg (λds M R RX=>fG)
  .exact CalMth.never Rh (λds M R RX=>fG)
  .exact CalMth.never Ri (λds M R RX=>fG)
 |succ j No=>
  intro x hx;simp only[GP,HW,or_false]at hx;rcases hx with rfl|rfl|rfl|rfl|rfl|rfl
  .exact ok_Motif_family (n:=3+j) (j:=j) Lm Rb uN
  .exact FV (n:=3+j) (j:=j) Lm Rc Nl uS uX No
  .exact FW (n:=3+j) (j:=j) Lm Rf uT No
  .exact FX (n:=3+j) (j:=j) Lm Rg Nm uV No
  .exact FY (n:=3+j) (j:=j) Lm Rh Nn uY No
  .exact FZ (n:=3+j) (j:=j) Lm Ri uW No
abbrev wa(V:Bx):Prop:=V.MM 17 "form_from" cM (dG 6)
abbrev wc(V:Bx):Prop:=∀x,x∈(["Motif","Over","Shifted","Mirror","Turn","Rehue"]:List Kq)->V.Q 9 x "family" cC (ofX (bZ 6 x))
abbrev jE(V:Bx):Prop:=V.X 18 "read" ou S_read
def F5(T:V.T "read" ot ou)(uB:V.m "len")(uL:wa V)(PL:V.gi "MOST" 720)(uO:V.a "Reading" "place")(PM:pV V)(PN:pW V)(uG:wc V):jE V:=by
 refine CalMM.nilX (Tx.okM T sc_read (λds M R RX h=>?_) (λf cdv A outer s H E J hr hx=>⟨_,((aq (aH 1 sc_read.nd (As PM hr (aB (ac (aa 0) af))))
   (aq (aH 2 sc_read.nd (aM uL hx hr (aB (ac (aa 1) (ac ad af)))))
   (aq (bj (tL (aE uO (ag (aa 1))) (ag (bz uB (ac (aa 0) af)))) (av il) aZ)
   (aq (aH 3 sc_read.nd (cr uG hx hr (ag (aa 2))))
   (aq (bj (bx (kj (ax (ae (aa 3) ad) (ae (aa 3) ad)) (fg PL))) (av il) aZ)
   (av (aG (ag (kC PN hr (ac (aa 0) (ac (aa 3) (ac (aa 2) af))))))))))))),λds M R RX d6 h=>?_⟩))
 .obtain⟨_,R0,KJ,⟨_,rfl,_⟩,_⟩:=h;rfl
 .obtain⟨rfl,R0,KJ,⟨p,rfl,ok,hG⟩,hR,hX⟩:=h;have b7:=Pat.text_short ok.wf ok.deep;have c9:At p.text 0 (p.tl++[]):=#[by rw[Hn];exact cv p,Hc _,KK];have SM:=ok.deep;have hl:p.text.length=p.tl.length:=by rw[<-bb,cv]
  refine#[λd M'=>∃a,d=.ptr a/\M'=RdM a p.text 0,#[_,rfl,λa _=>#[a,rfl,rfl]],?_];rintro _ _⟨a,rfl,rfl⟩;k_places;refine#[λv M'=>FormOf p v/\M'=RdM a p.text p.tl.length,#[a,p.text,0,p,[],0,rfl,rfl,c9,rfl,Lj,ok.wf,KK,λv h=>#[h,by rw[Jo]]],?_];rintro v _⟨hv,rfl⟩;k_places;refine#[_,aV,_,fB,KK,ite2 (λc=>absurd (of_decide_eq_true c) KK) (λ_=>?_)];obtain⟨fs,rfl,o1⟩:=hv.objm;refine#[λd M'=>∃w h s,p.Fam w h s/\d=.tup [.int w,.int h,.int s],#[p.cls,p.cls_mem,fs,#[rfl,rfl],o1.fam,p,_,rfl,hv,ok.wf,KK,rfl,ok.fits,λw h s F=>#[w,h,s,F,rfl]],?_];rintro _ M'⟨w,h,s,F,rfl⟩;k_places;have a1:=ok.fits.small F;obtain⟨w',h',s',F',hb⟩:=ok.fits;obtain⟨rfl,rfl,_⟩:=F.uniq F';refine#[_,rfl,_,rfl,.inl #[KK,KK],ite2 (λc=>absurd (of_decide_eq_true c) KK) (λ_=>?_)];exact#[_,_,_,_,_,_,rfl,hR _ _ (hG _ #[_,_,s,_,rfl,rfl,fF Lf,#[F,#[_,lm Lf Lf,hv],by simp[noLF,noL,noLs,o1.nl]]])]
def F6:SpD:=λds R=>∃(p q:Pat) (d e:D) (w h:Int),ds=[d,e,.int w,.int h]/\bp p d/\bp q e/\p.Ok/\q.Ok/\0<=w/\w<=720/\0<=h/\h<=720/\((∀x y:Int,0<=x->x<w->0<=y->y<h->p.show x y=q.show x y)->R .non)/\∀x y:Int,0<=x->x<w->0<=y->y<h->p.show x y≠q.show x y->(∀x' y':Int,0<=x'->x'<w->0<=y'->(y'<y\/(y'=y/\x'<x))->p.show x' y'=q.show x' y')->R (.tup [.int x,.int y])
abbrev pY(V:Bx):Prop:=V.D 9 "first_unlike" oy F6
def F7(T:V.T "first_unlike" ow oy)(uA:V.m "range")(LB:jp V):pY V:=by
 refine Tx.okDW T sc_first_unlike (λds R h=>?_) (λf cdv A outer s H E J hr=>⟨_,((ai (bN 4 PassesOwn.never rfl sc_first_unlike.nd uA (aa 3) (ao (bN 5 PassesOwn.never rfl sc_first_unlike.nd uA (aa 2) (ao (br (bU (az (CalX.no LB) hr (ac (aa 0) (ac (aa 5) (ac (aa 4) af)))) (az (CalX.no LB) hr (ac (aa 1) (ac (aa 5) (ac (aa 4) af))))) (ao (aC (aL (ac (aa 5) (ac (aa 4) af))))) bg)))))
   (ao (aC bL)))),λds R h=>?_⟩)
 .obtain⟨_,_,_,_,_,_,rfl,_⟩:=h;rfl
 .obtain⟨p,q,d,e,w,h,rfl,hd,he,j5,g5,w0,w7,h0,h7,hN,hS⟩:=h;obtain⟨wd,e_,sd,fs,rfl,q1,q2,fam⟩:=hd;have hd:bp p (.obj "Pattern" fs):=#[wd,e_,sd,fs,rfl,q1,q2,fam];obtain⟨S6,LI,S7,NU,rfl,q3,q4,PP⟩:=he;have he:bp q (.obj "Pattern" NU):=#[S6,LI,S7,NU,rfl,q3,q4,PP];refine#[#[Lm,Lm],λk z=>∃o4 o5,z=[be (.obj "Pattern" fs),be (.obj "Pattern" NU),be (.int w),be (.int h),o4,o5]/\∀x y:Int,0<=x->x<w->0<=y->y<k->p.show x y=q.show x y,#[_,_,rfl,λx y _ _ a b=>Lm],?_,?_]
  .rintro k v z hk⟨o4,o5,rfl,hj⟩;k_places;obtain⟨n_,rfl⟩:=bG hk;refine#[#[Lm,Lm],λi z=>∃o5,z=[be (.obj "Pattern" fs),be (.obj "Pattern" NU),be (.int w),be (.int h),be (.int k),o5]/\∀x:Int,0<=x->x<i->p.show x k=q.show x k,#[_,rfl,λx a b=>Lm],?_,?_]
   .rintro i v z hi⟨o5,rfl,i_⟩;k_places;obtain⟨x_,rfl⟩:=bG hi;have nn:bc (i:Int)/\bc (k:Int):=#[#[Lm,Lm],Lm,Lm];refine#[p,_,i,k,rfl,hd,j5,λ_=>#[q,_,i,k,rfl,he,g5,λ_=>?_,λn=>n nn],λn=>n nn];refine ite2 (λc=>?_) (λc=>?_)
    .refine#[Nw,hS i k Lm Lm Lm Lm (λz=>by simp[z]at c) λx' y' a b c d=>?_];rcases d with d|⟨rfl,d⟩
     .exact hj x' y' a b c Lm
     .exact i_ x' a Lm
    .have c':p.show i k=q.show i k:=by simpa using c
     refine#[_,rfl,λx a b=>?_];by_cases e:x=i
     .rw[e];exact c'
     .exact i_ x a Lm
   .rintro z⟨o5,rfl,i_⟩;k_places;rw[bH]at i_;refine#[_,_,rfl,λx y a b c d=>?_];by_cases e:y=k
    .rw[e];exact i_ x a Lm
    .exact hj x y a b c Lm
  .rintro z⟨o4,o5,rfl,hj⟩;k_places;rw[bH]at hj;exact hN λx y a b c d=>hj x y a b c Lm
def F8:SiD:=λds R=>∃x y:Int,ds=[.int x,.int y]/\R [("y",.int y),("x",.int x)]
abbrev pZ(V:Bx):Prop:=V.E 1 "Parted" oA F8
def F9(T:V.Te "Parted" "Parted.__init__" oz oA)(PQ:V.b "MotifError")(uAH:V.ea "Parted")(PR:V.xf "Parted" "x")(PU:V.xf "Parted" "y"):pZ V:=by
 refine Txe.okE T Ed (λds R h=>?_) (λf cdv A outer s H E J hr=>#[_,((zK PQ uAH (ac (aa 1) (ac (aa 2) af)) (zM uAH PR (aa 1) (Dp uAH PU (aa 2) zI)))),λds R h=>?_])
 .obtain⟨_,_,rfl,_⟩:=h;rfl
 .obtain⟨x,y,rfl,hR⟩:=h;exact#[Nw,rfl,#[(λz=>nomatch z),by show(1:Nat)<=100;decide],hR]
def Ga:SpM:=λds M R _=>∃a q f p d,ds=[.ptr a,d]/\a≠q/\M=Fl.M f a q/\bp p d/\R .non ((f.stand p d).M a q)
abbrev qc(V:Bx):Prop:=V.Q 1 "Floor" "stand" oC Ga
def Gb(T:V.Tm "Floor" "stand" "Floor.stand" oB oC)(uF:V.a "Floor" "pattern")(Km:V.a "Floor" "text")(L_:V.a "Pattern" "text"):qc V:=by
 refine CalMth.drop (Txm.okM T Ee (λds M R RX h=>?_) (λf cdv A outer s H E J hr hx=>⟨_,((aq (bY uF (ag (aa 0)) (ag (aa 1)))
   (av (bY Km (ag (aa 0)) (aE L_ (ag (aa 1))))))),λds M R RX d6 h=>?_⟩))
 .obtain⟨_,_,⟨_,_,_,_,_,rfl,_⟩,_⟩:=h;rfl
 .obtain⟨R,RX,⟨a,q,f,p,d,rfl,ne,rfl,⟨wd,e_,sd,fs,rfl,e1,e2,fam⟩,hR⟩,rfl,rfl⟩:=h;refine#[_,Fl.ma ne,by show(6:Nat)<1000;decide,?_];rw[Fl.put ne];refine#[fs,#[rfl,rfl],_,e1,_,(dZ (Ne.symm ne)).trans cD,by show(6:Nat)<1000;decide,_,?_,hR];rw[eA (Ne.symm ne),df];exact Fl.sub (f:=f.stand p _) ne
def Fl.chg(f:Fl)(a:KF)(R:D->MS->Prop)(RX:XDM)(M:MS):D->Prop:=λd=>∃p,bp p d/\p.Ok/\(Same2 f.p p f.w f.l->∀q',a≠q'->R .non (((f.keep "change").stand p d).M a q'))/\∀x y,First2 f.p p f.w f.l x y->RX "Parted" [("y",.int y),("x",.int x)] M
def Gc:SpM:=λds M R RX=>∃a q f t,ds=[.ptr a,.str t]/\a≠q/\M=Fl.M f a q/\f.Ok/\S_read [.str t] (f.chg a R RX M) (λx fs=>RX x fs M)
abbrev qd(V:Bx):Prop:=V.Q 19 "Floor" "change" oF Gc
def Gd(T:V.Tm "Floor" "change" "Floor.change" oE oF)(Ma:jE V)(PV:pY V)(uE:V.a "Floor" "laid")(uK:V.a "Floor" "width")(uF:V.a "Floor" "pattern")(L6:jl V)(PX:qc V)(uAT:pZ V):qd V:=by
 refine CalMth.drop (Txm.okM T sc_Floor_change (λds M R RX h=>?_) (λf cdv A outer s H E J hr hx=>⟨_,((aq (aH 2 sc_Floor_change.nd (aM (CalX.toM Ma) hx hr (aB (ac (aa 1) af))))
   (aq (aH 3 sc_Floor_change.nd (aM (CalD.toM PV) hx hr (aF (aE uF (ag (aa 0))) (aF (ag (aa 2)) (aF (aE uK (ag (aa 0))) (aF (aE uE (ag (aa 0))) aY))))))
   (aq (bj (bx (yY (aa 3) bL)) (av (Ax uAT hr hx rfl (aB (ac (ae (aa 3) ad) (ac (ae (aa 3) ad) af))))) aZ)
   (aq (bX (aS (CalMth.one L6) hx hr (ag (aa 0)) (aB (ac ay af))))
   (av (bX (aS (CalMth.one PX) hx hr (ag (aa 0)) (aB (ac (aa 2) af)))))))))),λds M R RX d6 h=>?_⟩))
 .obtain⟨_,_,⟨_,_,_,_,rfl,_⟩,_⟩:=h;rfl
 .obtain⟨R,RX,⟨a,q,f,t,rfl,ne,rfl,ok,hR⟩,rfl,rfl⟩:=h;have w1:=ok.w1;have w2:=ok.w2;have l0:=ok.l0;have l1:=ok.l1;have h2:=ok.h2;refine#[λd M'=>M'=f.M a q/\f.chg a R RX (f.M a q) d,S_read.mono (RX':=λ_ _=>True) hR (λd h=>#[rfl,h]),?_];rintro d _⟨rfl,p,hd,j5,hS,hP⟩;k_places;obtain⟨wd,e_,sd,fs,rfl,e1,e2,fam⟩:=hd;have hd:bp p (.obj "Pattern" fs):=#[wd,e_,sd,fs,rfl,e1,e2,fam];refine#[λc M'=>M'=f.M a q/\((c=.non/\Same2 f.p p f.w f.l)\/∃x y,c=.tup [.int x,.int y]/\First2 f.p p f.w f.l x y),?_,?_]
  .exact#[_,Fl.ma ne,_,gB,_,Fl.ma ne,_,fJ,_,Fl.ma ne,_,eB,f.p,p,f.d,_,f.w,f.l,rfl,ok.is,hd,ok.ok,j5,KK,KK,l0,KK,λh=>#[rfl,.inl #[rfl,h]],λx y h1 h2 h3 h4 h5 h6=>#[rfl,.inr #[x,y,rfl,#[h1,h2,h3,h4],h5,h6]]]
  rintro c _⟨rfl,⟨rfl,Vc⟩|⟨x,y,rfl,hf⟩⟩;k_places
  .refine#[_,GN.mpr rfl,_,Fl.ma ne,rfl,a,q,f,"change",rfl,ne,rfl,ok.de,λq' f8=>?_];exact#[_,GN.mpr rfl,_,Fl.ma f8,rfl,a,q',_,p,_,rfl,f8,rfl,hd,_,Fl.sub f8,hS Vc q' f8]
  .refine#[_,rfl,_,rfl,Nw,x,y,rfl,?_];rw[d6];exact#[_,Fl.sub ne,hP x y hf]
def Ge:SpM:=λds M R _=>∃a q f p,ds=[.ptr a,.str (Pat.text p)]/\a≠q/\M=Fl.M f a q/\f.Ok/\p.Ok/\(Same2 f.p p f.w f.l->∀q' d,bp p d->a≠q'->R (.tup [.str "let in"]) (((f.keep "change").stand p d).M a q'))/\∀x y,First2 f.p p f.w f.l x y->R (.tup [.str "parted",.int x,.int y]) (f.M a q)
abbrev qe(V:Bx):Prop:=V.MM 20 "_law_change" oH Ge
def Gf(T:V.T "_law_change" oG oH)(PY:qd V)(PZ:V.x "y" ["Parted"])(P0:V.x "x" ["Parted"])(ek:pO V):qe V:=by
 refine Tx.okM T sc__law_change (λds M R RX h=>?_) (λf cdv A outer s H E J hr hx=>⟨_,((aq (aH 2 sc__law_change.nd (ag bL))
   (aq (ud (λpn xe J hp hx=>(av (fq (kI (aS (CalMth.one PY) hx hr (ag (aa 0)) (aB (ac (aa 1) af))) (ag bL)) (av (aH 2 sc__law_change.nd (ag (aL (ac ay af))))) aZ))) (λ_=>(zQ 3 ek sc__law_change.nd (λe=>(ao (am 2 sc__law_change.nd (aL (ac ay (ac (tD P0 (aa 3)) (ac (tD PZ (aa 3)) af))))))) tz)))
   (av (aG (ag (aa 2))))))),λds M R RX d6 h=>?_⟩)
 .obtain⟨_,_,_,_,rfl,_⟩:=h;rfl
 .obtain⟨a,q,f,p,rfl,ne,rfl,ok,j5,hS,hP⟩:=h;refine#[λd M'=>d=.non/\M'=f.M a q,#[rfl,rfl],?_];rintro _ _⟨rfl,rfl⟩;k_places;refine#[λz M' x fs=>z=[be (.ptr a),be (.str p.text),be .non,v7]/\M'=f.M a q/\x="Parted"/\∃x y,fs=([("y",.int y),("x",.int x)]:List (Kq×D))/\First2 f.p p f.w f.l x y,λJ hJ=>?_,?_]
  .refine#[λz M'=>Same2 f.p p f.w f.l/\∃q' d,bp p d/\a≠q'/\z=[be (.ptr a),be (.str p.text),be (.tup [.str "let in"]),v7]/\M'=((f.keep "change").stand p d).M a q',?_,λz M' ⟨c,q',d,hd,f8,e1,e2⟩=>?_]
   .refine#[_,GN.mpr rfl,_,Fl.ma ne,rfl,a,q,f,p.text,rfl,ne,rfl,ok,vC (RX:=λ_ _=>True) j5 λd hd=>#[p,hd,j5,λc q' f8=>?_,λx y hf=>by rw[hJ];exact#[rfl,rfl,rfl,x,y,rfl,hf]]];dsimp only[mP,dC,rdIs,ki,id];rw[if_pos rfl];refine#[λe M'=>e=.tup [.str "let in"]/\M'=((f.keep "change").stand p d).M a q',#[by show(1:Nat)<=1000;decide,rfl,rfl],?_];rintro _ _⟨rfl,rfl⟩;k_places;exact#[c,q',d,hd,f8,rfl,rfl]
   .subst e1 e2;exact hS c q' d hd f8
  .rintro z M' x fs⟨rfl,rfl,rfl,x,y,rfl,hf⟩;k_places;refine#[#[Ln,Ln],?_];rw[if_pos Lf];refine#[λd=>d=.tup [.str "parted",.int x,.int y],#[GN.mpr rfl,_,rfl,GN.mpr rfl,_,rfl,by show(3:Nat)<=1000;decide,rfl],?_];rintro _ rfl;k_places;exact#[hP x y hf,NoOwn.of rfl]
def Gg:SpD:=λds R=>∃(p q:Pat) (w:Int) (n m:Nat),ds=[.lst (aw p w 0 n),.lst (aw q w 0 m)]/\p.Ok/\q.Ok/\0<=w/\w<=30/\n<=m/\m<=30/\(Same2 p q w n->R .non)/\∀x y,First2 p q w n x y->R (.tup [.int x,.int y])
abbrev qf(V:Bx):Prop:=V.D 1 "_law_parted" oJ Gg
def Gh(T:V.T "_law_parted" oI oJ)(uA:V.m "range")(uB:V.m "len"):qf V:=by
 refine Tx.okDW T sc__law_parted (λds R h=>?_) (λf cdv A outer s H E J hr=>⟨_,((ai (bN 2 PassesOwn.never rfl sc__law_parted.nd uA (bz uB (ac (aa 0) af)) (ao (bN 3 PassesOwn.never rfl sc__law_parted.nd uA (bz uB (ac (ae (aa 0) (aa 2)) af)) (ao (br (bU (ae (ae (aa 0) (aa 2)) (aa 3)) (ae (ae (aa 1) (aa 2)) (aa 3))) (ao (aC (aL (ac (aa 3) (ac (aa 2) af))))) bg)))))
   (ao (aC bL)))),λds R h=>?_⟩)
 .obtain⟨_,_,_,_,_,rfl,_⟩:=h;rfl
 .obtain⟨p,q,w,n,m,rfl,j5,g5,w0,w7,nm,m7,hN,hS⟩:=h;have lp:∀{p:Pat} {n:Nat},(aw p w 0 n).length=n:=λ{p n}=>by unfold aw;simp
  refine#[#[KK,by rw[lp];lia],λk z=>∃o2 o3,z=[be (.lst (aw p w 0 n)),be (.lst (aw q w 0 m)),o2,o3]/\Same2 p q w k,#[_,_,rfl,λx y _ _ a b=>KK],?_,?_]
  .rintro k v z hk⟨o2,o3,rfl,hj⟩;k_places;obtain⟨n_,rfl⟩:=bG hk;rw[lp]at n_;have a1:=pz (p:=p) (w:=w) (lo:=0) (show k<n by lia);have a2:=pz (p:=q) (w:=w) (lo:=0) (show k<m by lia);rw[Ig]at a1 a2;refine#[_,a1,by rw[cA];lia,#[by rw[cA];lia,by rw[cA];lia],λi z=>∃o3,z=[be (.lst (aw p w 0 n)),be (.lst (aw q w 0 m)),be (.int k),o3]/\∀x:Int,0<=x->x<i->p.show x k=q.show x k,#[_,rfl,λx a b=>KK],?_,?_]
   .rintro i v z hi⟨o3,rfl,i_⟩;k_places;obtain⟨x_,rfl⟩:=bG hi;rw[cA]at x_;have b1:=vU (p:=p) (y:=(k:Int)) (show i<w.toNat by lia);have b2:=vU (p:=q) (y:=(k:Int)) (show i<w.toNat by lia);refine#[_,a1,_,#[by rw[cA];lia,b1],_,a2,_,#[by rw[cA];lia,b2],ite2 (λc=>?_) (λc=>?_)]
    .refine#[Nw,hS i k #[#[KK,KK,KK,KK],λz=>by simp[z]at c,λx' y' a b c d=>?_]];rcases d with d|⟨rfl,d⟩
     .exact hj x' y' a b c KK
     .exact i_ x' a KK
    .have c':(#[[aP (p.show i k)].toArray]:Kq)=#[[aP (q.show i k)].toArray]:=by simpa using c
     have c2:=EC (Pat.show_le j5.wf (by have:=j5.deep;lia) _ _).1 (Pat.show_le g5.wf (by have:=g5.deep;lia) _ _).1 (EE c');refine#[_,rfl,λx a b=>?_];by_cases e:x=i
     .rw[e];exact c2
     .exact i_ x a KK
   .rintro z⟨o3,rfl,i_⟩;k_places;rw[bH,Hw,cA]at i_;refine#[_,_,rfl,λx y a b c d=>?_];by_cases e:y=k
    .rw[e];exact i_ x a KK
    .exact hj x y a b c KK
  .rintro z⟨o2,o3,rfl,hj⟩;k_places;rw[bH,lp,Hw]at hj;exact hN hj
abbrev gD(V:Bx):Prop:=V.D 1 "_law_whole" oM Bt
def Gi(T:V.T "_law_whole" oK oM)(uH:V.m "isinstance")(P1:V.m "bool")(uD:V.m "int"):gD V:=by
 refine Tx.okDW T Ef (λds R h=>?_) (λf cdv A outer s H E J hr=>#[_,((ao (aC (fT (dN uH uD (aa 0) PyProof.Rows.boot_int zc) (fS (zb (dN uH P1 (aa 0) PyProof.Rows.boot_bool kit_bool))))))),λds R h=>?_])
 .obtain⟨i,rfl,_⟩:=h;rfl
 .obtain⟨i,rfl,hR⟩:=h;exact hR
abbrev qg(V:Bx):Prop:=V.D 2 "_law_numbers" oO C6
def Gj(T:V.T "_law_numbers" oN oO)(uB:V.m "len")(uH:V.m "isinstance")(Mb:V.m "tuple")(uA:V.m "range")(G':gD V):qg V:=by
 refine Tx.okDW T sc__law_numbers (λds R h=>?_) (λf cdv A outer s H E J hr=>⟨_,((ai (br (cz (cR (cF (bM (dN uH Mb (aa 0) PyProof.Rows.boot_tuple kit_tuple))) (cQ (bU (bz uB (ac (aa 0) af)) (bz uB (ac (aa 1) af)))))) (ao (aC bo)) bg)
   (ai (bN 2 PassesOwn.never rfl sc__law_numbers.nd uA (bz uB (ac (aa 1) af)) (ao (br (cz (cR (cF (bM (az G' hr (ac (ae (aa 0) (aa 2)) af)))) (cQ (bU (ae (aa 0) (aa 2)) (ae (aa 1) (aa 2)))))) (ao (aC bo)) bg)))
   (ao (aC bo))))),λds R h=>?_⟩)
 .obtain⟨xs,rfl,_⟩:=h;rfl
 .obtain⟨xs,rfl,xl,hR⟩:=h;refine ite2 (λc=>absurd c Ln) λ_=>?_;refine#[#[Lm,by rw[GQ];omega],λk z=>∃o,z=[be (.tup (xs.map D.int)),be (.tup (xs.map D.int)),o],#[_,rfl],?_,?_]
  .rintro k v z hk⟨o,rfl⟩;k_places;obtain⟨n_,rfl⟩:=bG hk;rw[GQ]at n_;have S8:k<xs.length:=by omega
   have ak:atI (xs.map D.int) (k:Int)=be (.int xs[k]):=bB (by rw[GX,G5 S8];rfl);exact#[_,ak,_,rfl,_,ak,_,ak,ite2 (λc=>absurd c Ln) λ_=>#[_,rfl]]
  .rintro z⟨o,rfl⟩;k_places;exact hR
def Gk:SpD:=λds R=>∃xs:List Int,ds=[.lst (xs.map D.int),.lst (xs.map D.int)]/\xs.length=7/\R (.bl true)
abbrev qh(V:Bx):Prop:=V.D 2 "_law_seven" oQ Gk
def Gm(T:V.T "_law_seven" oP oQ)(uB:V.m "len")(uH:V.m "isinstance")(w_:V.m "list")(uA:V.m "range")(G':gD V):qh V:=by
 refine Tx.okDW T sc__law_seven (λds R h=>?_) (λf cdv A outer s H E J hr=>⟨_,((ai (br (cz (cR (cF (bM (dN uH w_ (aa 0) PyProof.Rows.boot_list kit_list))) (cQ (bU (bz uB (ac (aa 0) af)) ad)))) (ao (aC bo)) bg)
   (ai (bN 2 PassesOwn.never rfl sc__law_seven.nd uA ad (ao (br (cz (cR (cF (bM (az G' hr (ac (ae (aa 0) (aa 2)) af)))) (cQ (bU (ae (aa 0) (aa 2)) (ae (aa 1) (aa 2)))))) (ao (aC bo)) bg)))
   (ao (aC bo))))),λds R h=>?_⟩)
 .obtain⟨_,rfl,_⟩:=h;rfl
 .obtain⟨xs,rfl,x7,hR⟩:=h;refine ite2 (λc=>absurd c (by simp[x7])) λ_=>?_;refine#[#[Lj,Lj],λk z=>∃o,z=[be (.lst (xs.map D.int)),be (.lst (xs.map D.int)),o],#[_,rfl],?_,?_]
  .rintro k v z hk⟨o,rfl⟩;k_places;obtain⟨n_,rfl⟩:=bG hk;have k7:k<7:=n_;have ak:atI (xs.map D.int) (k:Int)=be (.int (xs[k]' Lm)):=bB (by rw[GX,G5 Lm];rfl);exact#[_,ak,_,rfl,_,ak,_,ak,ite2 (λc=>absurd c Ln) λ_=>#[_,rfl]]
  .rintro z⟨o,rfl⟩;k_places;exact hR
def Gn:SpD:=λds R=>∃(p:Pat) (w lo:Int) (n:Nat),ds=[.lst (aw p w lo n)]/\p.Ok/\0<=w/\w<=30/\n<=30/\R (.lst ((cL p 0 lo w.toNat n).map D.int))
abbrev qi(V:Bx):Prop:=V.D 1 "_law_counts" oS Gn
def Go(T:V.T "_law_counts" oR oS):qi V:=by
 refine Tx.okDW T sc__law_counts (λds R h=>?_) (λf cdv A outer s H E J hr=>⟨_,((ai (eU 1 sc__law_counts.nd (ac ad (ac ad (ac ad (ac ad (ac ad (ac ad (ac ad af))))))))
   (ai (gT 2 PassesOwn.never rfl sc__law_counts.nd (aa 0) (ao (Ad 3 PassesOwn.never rfl sc__law_counts.nd (aa 2) (ao (Bj 1 (kF ay (ac (aa 3) af)) ad)))))
   (cS 1 (ao (aC (aa 1))))))),λds R h=>?_⟩)
 .obtain⟨_,_,_,_,rfl,_⟩:=h;rfl
 .obtain⟨p,w,lo,n,rfl,ok,w0,w7,n7,hR⟩:=h;have e0:([.int 0,.int 0,.int 0,.int 0,.int 0,.int 0,.int 0]:List D)=(due7 p 0 lo w.toNat 0 0).map D.int:=rfl;refine#[Lj,?_];refine#[λk z=>∃o1 o2,z=[be (.lst (aw p w lo n)),be (.own ((due7 p 0 lo w.toNat k 0).map D.int)),o1,o2],#[_,_,rfl],?_,?_]
  .rintro k v z hk⟨o1,o2,rfl⟩;k_places;obtain⟨n_,rfl⟩:=Ew hk;refine#[Ez ok 0 (lo+k) w.toNat,λi z=>∃o2,z=[be (.lst (aw p w lo n)),be (.own ((due7 p 0 lo w.toNat k i).map D.int)),be (.str (aK p 0 (lo+k) w.toNat)),o2],#[_,rfl],?_,?_]
   .rintro i v z hi⟨o2,rfl⟩;k_places;obtain⟨x_,rfl⟩:=EA hi;obtain⟨u,u7,eu,e3,e4⟩:=Et ok 0 lo w.toNat k i;obtain⟨rest,ho⟩:=EB u7;rw[eu];refine#[u,rest,ho,_,KK,by rw[GX,Hw,e3];rfl,?_];rw[Hw];exact#[_,by rw[<-e4];rfl]
   .rintro z⟨o2,rfl⟩;k_places;refine#[be (.str (aK p 0 (lo+k) w.toNat)),o2,?_];rw[fk,cA,Eu]
  .rintro z⟨o1,o2,rfl⟩;k_places;rw[show(aw p w lo n).length=n by unfold aw;simp,Ev];exact hR
abbrev qj(V:Bx):Prop:=V.D 10 "field_rows" oU C3
def Gp(T:V.T "field_rows" jb oU)(uA:V.m "range")(L5:jq V)(Kl:V.a "Pattern" "shifts"):qj V:=by
 refine Tx.okDW T Eg (λds R h=>?_) (λf cdv A outer s H E J hr=>#[_,((ao (aC (gW rfl (compScope (by change cV _ (ah jb) ["pattern"] _=true;decide+kernel)) uA (ae (eZ Kl (aa 0)) ad) (λcl s0 H0 fp=>(az L5 hr (ac (aa 0) (ac ad (ac (aa 1) (ac (ae (eZ Kl (aa 0)) ad) af)))))))))),λds R h=>?_])
 .obtain⟨_,_,rfl,_⟩:=h;rfl
 .obtain⟨p,d,rfl,hd,ok,hR⟩:=h;obtain⟨w,h,s,fs,rfl,e1,e2,hp⟩:=id hd;have F:=hp.toFam;have sm:=ok.fits.small F;have wh:w*h<=720:=by
   obtain⟨w',h',s',f',hb⟩:=ok.fits;obtain⟨rfl,rfl,_⟩:=F.uniq f';exact hb
  refine#[rfl,_,e2,_,rfl,#[KK,KK],by rw[bH];lia,λk ys=>ys=(GS k).map λ(y:Nat)=>D.str (aK p 0 (y:Int) w.toNat),rfl,?_,?_]
  .rintro k v ys hk hl rfl;obtain⟨n_,rfl⟩:=bG hk;refine#[rfl,_,e2,_,rfl,p,.obj "Pattern" fs,0,k,w.toNat,by rw[Hg KK],hd,ok,KK,#[KK,KK],#[KK,KK],#[KK,KK],?_];show _=Il _ (GS (k+1));rw[Im,Hl];rfl
  .rintro ys hl rfl;rw[bH];exact hR w h s F wh sm.2.1 sm.2.2.2.1
abbrev C_round_row(V:Bx):Prop:=V.D 2 "round_row" oW C4
def Gq(T:V.T "round_row" oV oW)(E_:fL V):C_round_row V:=by
 refine Tx.okDW T sc_round_row (λds R h=>?_) (λf cdv A outer s H E J hr=>⟨_,((ai (am 4 sc_round_row.nd (az E_ hr (ac (aa 0) (ac (aa 2) (ac (aa 3) af)))))
   (ai (am 5 sc_round_row.nd (ae (aa 1) (ae (aa 4) ad)))
   (ao (aC (aj (cf (aa 5) (bV (ae (aa 4) ad)) cq) (cf (aa 5) cq (bV (ae (aa 4) ad))))))))),λds R h=>?_⟩)
 .obtain⟨_,_,_,_,_,_,rfl,_⟩:=h;rfl
 .obtain⟨p,w,h,s,x,y,rfl,F,w7,h7,hR⟩:=h;have f:=F.f;have y0:=HG y (show h≠0 by have:=f.h0;lia);have y1:=HH y f.h0;refine#[λd=>d=.tup [.int (hmX w h s x y),.int (y%h)],#[w,h,s,x,y,rfl,f.w0,f.h0,KK,f.s0,by have:=f.sw;lia,rfl],?_];rintro _ rfl;k_places;refine#[λd=>d=.str (aK p 0 (y%h) w.toNat),#[_,rfl,_,?_,rfl],?_]
  .have e:y%h=(((y%h).toNat:Nat):Int):=by lia
   rw[e];exact bB (by rw[GX,Hs KK];simp)
  rintro _ rfl;k_places;have l:=cA p 0 (y%h) w.toNat;refine#[_,rfl,KK,_,rfl,KK,?_];have e:=C1 f.w0 f.h0 (λ_ _ q=>F.keeps q) x y;refine#[?_,?_]
  .rw[<-bb,<-bb,<-G0,<-bD,e,db];simp;lia
  .rw[e];exact hR
abbrev qk(V:Bx):Prop:=V.D 1 "count_sign" oY Dc
def Gr(T:V.T "count_sign" oX oY)(uB:V.m "len"):qk V:=by
 refine Tx.okDW T Eh (λds R h=>?_) (λf cdv A outer s H E J hr=>#[_,((ao (aC (aj (ax (aX (aa 2) (bz uB (ac (aa 0) af))) (uf (aa 0) (ac (aa 1) af))) (uf (cf (aa 0) cq (bV (aD (aa 2) (bz uB (ac (aa 0) af))))) (ac (aa 1) af)))))),λds R h=>?_])
 .obtain⟨_,_,_,_,_,_,rfl,_⟩:=h;rfl
 .obtain⟨p,x,y,v,m,w,rfl,ok,v0,v6,w0,w7,m0,m1,kw,hR⟩:=h;have l:=cA p x y w;have q0:0<=m/(w:Int):=IP m0 KK;have q1:m/(w:Int)<=m:=Ju _ m0;have r0:=HG m (show(w:Int)≠0 by lia);have r1:=HH m (show 0<(w:Int)by lia);have er:m%(w:Int)=(((m%(w:Int)).toNat:Nat):Int):=by lia
  have e2:Txt.slice (aK p x y w) v7 (be (m%(w:Int)))=aK p x y (m%(w:Int)).toNat:=by
   rw[er,Db p x y KK];rfl
  refine#[KK,#[by rw[l];lia,by rw[l];lia],.inl #[by rw[l];lia,by rw[l];lia],KK,by rw[l];lia,KK,?_];show R (.int (m/((aK p x y w).length:Int)*occC (aK p x y w) (aP v)+occC (Txt.slice (aK p x y w) v7 (be (m%((aK p x y w).length:Int)))) (aP v)));rw[l,e2,vI ok x y v0 v6,vI ok x y v0 v6];have LQ:∀k:Nat,(λk:Nat=>p.show (x+k) y) (k+w)=(λk:Nat=>p.show (x+k) y) k:=λk=>by
   have:=kw (x+k) y;rw[Iv]at this;show p.show (x+((k+w:Nat):Int)) y=p.show (x+(k:Int)) y;rw[<-this,Iu,Jr]
  have:=C8 (f:=λk:Nat=>p.show (x+k) y) w0 LQ v m.toNat;have d1:m/(w:Int)=((m.toNat/w:Nat):Int):=by rw[Int.natCast_ediv,Hg m0]
  have d2:(m%(w:Int)).toNat=m.toNat%w:=by
   have:m%(w:Int)=((m.toNat%w:Nat):Int):=by rw[J7,Hg m0]
   lia
  rw[d1,d2,this];exact hR
abbrev jF(V:Bx):Prop:=V.X 11 "count_all" oZ Dj
def Gs(T:V.T "count_all" jc oZ)(uU:V.m "max")(uA:V.m "range")(LF:V.m "min")(LC:V.m "enumerate")(LA:jn V)(P2:qj V)(P4:C_round_row V)(P5:qk V)(uQ:V.gs "SIGNS" ".123456")(Kl:V.a "Pattern" "shifts"):jF V:=by
  refine Tx.okXW T sc_count_all (λds R RX h=>?_) (λf cdv A outer s H E J hr hx=>⟨_,((ai (sE (sZ LA hx hr (ac (aa 1) (ac (aa 2) af))))
      (ai (sE (sZ LA hx hr (ac (aa 3) (ac (aa 4) af))))
      (ai (am 5 sc_count_all.nd (eZ Kl (aa 0)))
      (ai (am 6 sc_count_all.nd (az P2 hr (ac (aa 0) af)))
      (ai (am 7 sc_count_all.nd (fX rfl uU (ac (aj (bq (aa 3) (aa 1)) ad) (ac ad af))))
      (ai (am 8 sc_count_all.nd (ax (ae (aa 5) ad) (ae (aa 5) ad)))
      (ai (Bc 9 rfl (compScope (by change cV _ (ah jc) ["pattern","left","top","right","bottom","family","rows","many","again","counts","y","times","row","hue","sign"] _=true;decide+kernel)) sc_count_all.nd (fj uQ) (λcl s0 H0 fp=>ad))
      (ai (zE 10 PassesOwn.leaving rfl sc_count_all.nd uA (aa 2) (kr rfl LF (ac (aj (aa 4) ad) (ac (aj (aa 2) (aa 8)) af))) (ai (am 11 sc_count_all.nd (aj (aX (bq (aa 4) (aa 10)) (aa 8)) ad))
        (ai (am 12 sc_count_all.nd (az P4 hr (ac (aa 5) (ac (aa 6) (ac (aa 1) (ac (aa 10) af))))))
        (ao (Bg PassesOwn.leaving rfl LC (fj uQ) (dg_cons 13 sc_count_all.nd (dg_cons 14 sc_count_all.nd dO)) (ao (sY 9 (aj (ky 9 (aa 13)) (ax (aa 11) (az P5 hr (ac (aa 12) (ac (aa 14) (ac (aa 7) af)))))) (aa 13))))))))
      (cS 9 (ao (aC (aa 9))))))))))))),λds R RX d6 h=>?_⟩)
  . obtain⟨_,_,_,_,_,_,rfl,_⟩:=h;rfl
  . obtain⟨p,d,left,top,right,a_,rfl,hd,ok,hR,hX⟩:=h;obtain⟨w,h,s,fs,rfl,e1,e2,hp⟩:=id hd;have F:=hp.toFam;have sm:=ok.fits.small F;refine#[left,top,rfl,λn1=>?_,λn1=>by rw[d6];exact hX λz=>n1 #[z.1,z.2.1]];refine#[right,a_,rfl,λn2=>?_,λn2=>by rw[d6];exact hX λz=>n2 #[z.2.2.1,z.2.2.2]];have hR:=hR #[n1.1,n1.2,n2.1,n2.2];unfold bc at n1 n2;refine#[λd=>d=.tup [.int w,.int h,.int s],#[rfl,_,e2,rfl],?_];rintro _ rfl;k_places;refine#[λd=>d=gu p w h/\w*h<=720,#[p,_,rfl,hd,ok,λw' h' s' F' hb _ _=>by obtain⟨rfl,rfl,rfl⟩:=F.uniq F';exact#[rfl,hb]],?_];rintro _⟨rfl,hb⟩;k_places;refine#[λd=>d=.int ((right-left+1).toNat:Nat),congrArg D.int (Di _),?_];rintro _ rfl;k_places;have S9:0<w*h:=G6 F.f.w0 F.f.h0;refine#[λd=>d=.int (w*h),#[_,rfl,_,rfl,.inl #[KK,KK],rfl],?_];rintro _ rfl;k_places;generalize hm:(right-left+1).toNat=m at*;generalize hn:(a_-top+1).toNat=n at*;generalize hN:(w*h).toNat=N at*;refine#[Lf,Lf,λk ys=>ys=Hu k (D.int 0),rfl,?_,?_]
    . rintro k v ys hk hl rfl;show _=Hu (k+1) _;rw[List.replicate_succ']
    rintro ys hl rfl;have wN:w*h=(N:Int):=KK
    have x_:=Df (top:=top) hn wN;have TU:=vK n1.1 n2.1 hm;have TV:=vK n1.2 n2.2 hn;refine#[Dg #[n1.2.1,n1.2.2] #[n2.2.1,n2.2.2] S9 hb,λk z=>∃K_ x8 x9 n6 n8,z=[be (.obj "Pattern" fs),be (.int left),be (.int top),be (.int right),be (.int a_),be (.tup [.int w,.int h,.int s]),be (gu p w h),be (.int m),be (.int (w*h)),be (.own ((GS 7).map λ(v:Nat)=>D.int (cj p left top m n N k v))),K_,x8,x9,n6,n8],#[v7,v7,v7,v7,v7,?_],?_,?_]
    . have e7:(bP (".123456":Kq)).length=7:=by decide+kernel
      rw[e7];rfl
    . rintro k v z hk⟨K_,x8,x9,n6,n8,rfl⟩;k_places;obtain⟨n_,rfl⟩:=range2_int hk;rw[x_]at n_;refine#[λd=>d=.int (((n:Int)-1-k)/N+1),#[#[KK,KK],?_],?_]
      . rw[wN];congr 3;exact Dh hn n_
      rintro _ rfl;k_places;refine#[λd=>d=.str (aK p left (top+k) w.toNat),#[p,w,h,s,left,top+k,rfl,F,sm.2.1,sm.2.2.2.1,rfl],?_];rintro _ rfl;k_places;refine#[Lf,λi z=>∃n6 n8,z=[be (.obj "Pattern" fs),be (.int left),be (.int top),be (.int right),be (.int a_),be (.tup [.int w,.int h,.int s]),be (gu p w h),be (.int m),be (.int (w*h)),be (.own ((GS 7).map λ(v:Nat)=>D.int (if v<i then cj p left top m n N (k+1) v else cj p left top m n N k v))),be (.int (top+k)),be (.int (((n:Int)-1-k)/N+1)),be (.str (aK p left (top+k) w.toNat)),n6,n8],#[_,_,rfl],?_,?_]
      . rintro i v z hi⟨n6,n8,rfl⟩;k_places;rw[De]at hi;have i7:i<7:=by simpa using(G1.mp hi).1
        have ev:v=.str #[[aP (i:Int)].toArray]:=by
          rw[GX,Hs i7]at hi;exact(Option.some.inj hi).symm
        subst ev;have ci:=vG (λk'=>p.show (left+k') (top+k)) i m;have tq:0<=((n:Int)-1-k)/N/\((n:Int)-1-k)/N<=(n:Int)-1-k:=#[IP KK KK,Ju _ KK];refine#[_,bB (by rw[GX,Hs i7];rfl),p,left,top+k,i,m,w.toNat,rfl,ok,KK,KK,KK,KK,KK,KK,by rw[Hg KK];exact F.across,?_];refine#[.inl #[KK,KK],i,?_,?_]
        . unfold ixN;rw[if_pos KK,if_pos Ta];simp
        refine#[be (.int i),be (.str #[[aP (i:Int)].toArray]),?_];rw[Hw,if_neg (HJ i)];have e:cj p left top m n N k i+(((n:Int)-1-k)/N+1)*cntN (λk'=>p.show (left+k') (top+k)) i m=cj p left top m n N (k+1) i:=rfl;rw[e];have q:=vJ (n:=7) (i:=i) (λ(v:Nat)=>D.int (if v<i then cj p left top m n N (k+1) v else cj p left top m n N k v)) (λ(v:Nat)=>D.int (if v<i+1 then cj p left top m n N (k+1) v else cj p left top m n N k v)) (λv hv ne=>by
          by_cases c:v<i
          . rw[if_pos c,if_pos KK]
          . rw[if_neg c,if_neg KK])
        rw[if_pos (show i<i+1 by lia)]at q;rw[q];rfl
      . rintro z⟨n6,n8,rfl⟩;k_places;refine#[be (.int (top+k)),be (.int (((n:Int)-1-k)/N+1)),be (.str (aK p left (top+k) w.toNat)),n6,n8,?_];have:∀v∈GS 7,D.int (if v<(bP (".123456":Kq)).length then cj p left top m n N (k+1) v else cj p left top m n N k v)=D.int (cj p left top m n N (k+1) v):=λv hv=>by
          rw[if_pos (by  have e7:(bP (".123456":Kq)).length=7:=by decide+kernel
                         rw[e7];simpa using hv)]
        rw[Io this]
    . rintro z⟨K_,x8,x9,n6,n8,rfl⟩;k_places;have e:((GS ((if top+w*h<a_+1 then top+w*h else a_+1)-top).toNat).map λ(k:Nat)=>D.int (top+(k:Int))).length=min n N:=by simp[x_]
      rw[e];have fold:∀v:Nat,cj p left top m n N (min n N) v=cK p v left top m n:=λv=>Dd KK (by rw[<-wN];exact F.down) v left top m n;simp only[fold];have e2:((GS 7).map λ(v:Nat)=>D.int (cK p v left top m n))=(cL p left top m n).map D.int:=by unfold cL;rw[Iq];rfl
      rw[e2];exact hR
def Gu:SpM:=λds M R _=>∃a q f,ds=[.ptr a]/\a≠q/\M=Fl.M f a q/\f.Ok/\R (.lst ((cL f.p 0 0 f.w.toNat f.l.toNat).map D.int)) (f.M a q)
abbrev ql(V:Bx):Prop:=V.Q 12 "Floor" "lies" pe Gu
def Gv(T:V.Tm "Floor" "lies" "Floor.lies" pd pe)(Mc:jF V)(uE:V.a "Floor" "laid")(uK:V.a "Floor" "width")(uF:V.a "Floor" "pattern"):ql V:=by
 refine Txm.okM T Ei (λds M R RX h=>?_) (λf cdv A outer s H E J hr hx=>#[_,((av (aG (aM (CalX.toM Mc) hx hr (aF (aE uF (ag (aa 0))) (aF (ag ad) (aF (ag ad) (aF (dv (aE uK (ag (aa 0))) (ag ad)) (aF (dv (aE uE (ag (aa 0))) (ag ad)) aY))))))))),λds M R RX d6 h=>?_])
 .obtain⟨_,_,_,rfl,_⟩:=h;rfl
 .obtain⟨a,q,f,rfl,ne,rfl,ok,hR⟩:=h;have w1:=ok.w1;have w2:=ok.w2;have l0:=ok.l0;have l1:=ok.l1;have h2:=ok.h2;refine#[_,Fl.ma ne,_,gB,_,Fl.ma ne,_,fJ,_,Fl.ma ne,_,eB,f.p,f.d,0,0,f.w-1,f.l-1,rfl,ok.is,ok.ok,λ_=>?_,λz=>absurd #[#[KK,KK],#[KK,KK],#[KK,KK],KK,KK] z];rw[show(f.w-1-0+1).toNat=f.w.toNat by lia,show(f.l-1-0+1).toNat=f.l.toNat by lia];exact hR
def Gw:SpM:=λds M R _=>∃a q f,ds=[.ptr a]/\a≠q/\M=Fl.M f a q/\f.Ok/\R (.lst ((cL f.p 0 f.l f.w.toNat (f.h-f.l).toNat).map D.int)) (f.M a q)
abbrev qm(V:Bx):Prop:=V.Q 12 "Floor" "still" ph Gw
def Gx(T:V.Tm "Floor" "still" "Floor.still" pf ph)(Mc:jF V)(uZ:V.a "Floor" "height")(uK:V.a "Floor" "width")(uE:V.a "Floor" "laid")(uF:V.a "Floor" "pattern"):qm V:=by
 refine Txm.okM T Ej (λds M R RX h=>?_) (λf cdv A outer s H E J hr hx=>#[_,((av (aG (aM (CalX.toM Mc) hx hr (aF (aE uF (ag (aa 0))) (aF (ag ad) (aF (aE uE (ag (aa 0))) (aF (dv (aE uK (ag (aa 0))) (ag ad)) (aF (dv (aE uZ (ag (aa 0))) (ag ad)) aY))))))))),λds M R RX d6 h=>?_])
 .obtain⟨_,_,_,rfl,_⟩:=h;rfl
 .obtain⟨a,q,f,rfl,ne,rfl,ok,hR⟩:=h;have w1:=ok.w1;have w2:=ok.w2;have l0:=ok.l0;have l1:=ok.l1;have h2:=ok.h2;refine#[_,Fl.ma ne,_,gB,_,Fl.ma ne,_,eB,_,Fl.ma ne,_,fJ,_,Fl.ma ne,_,je,f.p,f.d,0,f.l,f.w-1,f.h-1,rfl,ok.is,ok.ok,λ_=>?_,λz=>absurd #[#[KK,KK],#[KK,KK],#[KK,KK],KK,KK] z];rw[show(f.w-1-0+1).toNat=f.w.toNat by lia,show(f.h-1-f.l+1).toNat=(f.h-f.l).toNat by lia];exact hR
def Gy:SpM:=λds M R _=>∃a q f,ds=[.ptr a]/\a≠q/\M=Fl.M f a q/\R (.int f.ds.length) (f.M a q)
abbrev qo(V:Bx):Prop:=V.Q 1 "Floor" "kept" pj Gy
def Gz(T:V.Tm "Floor" "kept" "Floor.kept" pi pj)(uB:V.m "len")(Kk:V.a "Floor" "deeds"):qo V:=by
 refine Txm.okM T El (λds M R RX h=>?_) (λf cdv A outer s H E J hr hx=>#[_,((av (aG (tR uB (aE Kk (ag (aa 0))))))),λds M R RX d6 h=>?_])
 .obtain⟨_,_,_,rfl,_⟩:=h;rfl
 .obtain⟨a,q,f,rfl,ne,rfl,hR⟩:=h;refine#[_,Fl.ma ne,_,vS,_,Fl.mq,?_];rw[GQ];exact hR
def GA:SpM:=λds M R _=>∃a q f,ds=[.ptr a,.str f.p.text,.tup [.int f.w,.int f.h],.lst (aw f.p f.w 0 f.l.toNat),.lst (aw f.p f.w f.l (f.h-f.l).toNat),.int f.ds.length]/\a≠q/\M=Fl.M f a q/\f.Ok/\R (.bl true) (f.M a q)
abbrev qp(V:Bx):Prop:=V.MM 13 "_law_view" pp GA
def GB(T:V.T "_law_view" pk pp)(uH:V.m "isinstance")(uM:V.m "str")(G':gD V)(Md:js V)(NV:qh V)(NW:qi V)(Km:V.a "Floor" "text")(uK:V.a "Floor" "width")(uZ:V.a "Floor" "height")(L7:jr V)(P6:ql V)(P7:qm V)(P8:qo V):qp V:=by
 refine Tx.okM T sc__law_view (λds M R RX h=>?_) (λf cdv A outer s H E J hr hx=>⟨_,((aq (bj (mt_w (ie (dY (dX (DB uH uM (aE Km (ag (aa 0))) PyProof.Rows.boot_str kit_str))) (ic (kH (aE Km (ag (aa 0))) (ag (aa 1)))))) (av (aG (ag bo))) aZ)
   (aq (bj (mt_w (ie (dY (dX (aM (CalD.toM G') hx hr (aF (aE uK (ag (aa 0))) aY)))) (ic (kH (aE uK (ag (aa 0))) (ag (ae (aa 2) ad)))))) (av (aG (ag bo))) aZ)
   (aq (bj (mt_w (ie (dY (dX (aM (CalD.toM G') hx hr (aF (aE uZ (ag (aa 0))) aY)))) (ic (kH (aE uZ (ag (aa 0))) (ag (ae (aa 2) ad)))))) (av (aG (ag bo))) aZ)
   (aq (bj (dY (dX (aM (CalD.toM Md) hx hr (aF (cr (CalMth.one (CalMth.lendD L7)) hx hr (ag (aa 0))) (aF (ag (aa 3)) aY))))) (av (aG (ag bo))) aZ)
   (aq (bj (dY (dX (aM (CalD.toM NV) hx hr (aF (cr (CalMth.one P6) hx hr (ag (aa 0))) (aF (ag (az NW hr (ac (aa 3) af))) aY))))) (av (aG (ag bo))) aZ)
   (aq (bj (dY (dX (aM (CalD.toM NV) hx hr (aF (cr (CalMth.one P7) hx hr (ag (aa 0))) (aF (ag (az NW hr (ac (aa 4) af))) aY))))) (av (aG (ag bo))) aZ)
   (aq (aH 6 sc__law_view.nd (cr (CalMth.one P8) hx hr (ag (aa 0))))
   (av (aG (ag (fT (az G' hr (ac (aa 6) af)) (fS (dh (aa 6) (aa 5))))))))))))))),λds M R RX d6 h=>?_⟩)
 .obtain⟨_,_,_,rfl,_⟩:=h;rfl
 .obtain⟨a,q,f,rfl,ne,rfl,ok,hR⟩:=h;have w1:=ok.w1;have w2:=ok.w2;have l0:=ok.l0;have l1:=ok.l1;have h2:=ok.h2;have ec:∀lo n,(cL f.p 0 lo f.w.toNat n).length=7:=λlo n=>by unfold cL;simp
  refine#[_,Fl.ma ne,_,vR,?_];dsimp only[ko];refine ite2 (λc=>nomatch c) λ_=>#[_,Fl.ma ne,_,vR,ite2 (λc=>absurd c Ln) λ_=>?_];refine#[_,Fl.ma ne,_,fJ,_,rfl,ite2 (λc=>nomatch c) λ_=>#[_,Fl.ma ne,_,fJ,_,rfl,ite2 (λc=>absurd c Ln) λ_=>?_]];refine#[_,Fl.ma ne,_,je,_,rfl,ite2 (λc=>nomatch c) λ_=>#[_,Fl.ma ne,_,je,_,rfl,ite2 (λc=>absurd c Ln) λ_=>?_]];refine#[_,GN.mpr rfl,_,Fl.ma ne,rfl,?_];dsimp only[mNil];refine vZ ne ok #[f.p,f.w,0,_,rfl,KK,ite2 (λc=>nomatch c) λ_=>?_];refine#[_,GN.mpr rfl,_,Fl.ma ne,rfl,a,q,f,rfl,ne,rfl,ok,f.p,f.w,0,_,rfl,ok.ok,KK,w2,KK,_,rfl,ec _ _,ite2 (λc=>nomatch c) λ_=>?_];refine#[_,GN.mpr rfl,_,Fl.ma ne,rfl,a,q,f,rfl,ne,rfl,ok,f.p,f.w,f.l,_,rfl,ok.ok,KK,w2,KK,_,rfl,ec _ _,ite2 (λc=>nomatch c) λ_=>?_];refine#[λd M'=>d=.int f.ds.length/\M'=f.M a q,#[_,GN.mpr rfl,_,Fl.ma ne,rfl,a,q,f,rfl,ne,rfl,rfl,rfl],?_];rintro _ _⟨rfl,rfl⟩;k_places;refine#[_,rfl,?_];show R (.bl (decide ((f.ds.length:Int)=f.ds.length))) (f.M a q);rw[decide_eq_true rfl];exact hR
def GC:SiM:=λa ds R=>∃p w h,ds=[.str (Pat.text p),.int w,.int h]/\p.Ok/\∀d q,bp p d->a≠q->R (Fl.M #[p,d,w,h,0,[]] a q)
abbrev qq(V:Bx):Prop:=V.N 19 "Floor" pr GC
def GD(T:V.Ti "Floor" "Floor.__init__" pq pr)(Ma:jE V)(uF:V.a "Floor" "pattern")(Km:V.a "Floor" "text")(uK:V.a "Floor" "width")(uZ:V.a "Floor" "height")(uE:V.a "Floor" "laid")(Kk:V.a "Floor" "deeds"):qq V:=by
 refine Txi.okIN T Em (λa ds R h=>?_) (λf cdv A outer s H E J hr hx=>⟨_,((aq (bY uF (ag (aa 0)) (aM (CalX.toM Ma) hx hr (aB (ac (aa 1) af))))
   (aq (bY Km (ag (aa 0)) (ag (aa 1)))
   (aq (bY uK (ag (aa 0)) (ag (aa 2)))
   (aq (bY uZ (ag (aa 0)) (ag (aa 3)))
   (aq (bY uE (ag (aa 0)) (ag ad))
   (av (bY Kk (ag (aa 0)) (kJ (aB af)))))))))),λa ds R LJ h=>?_⟩)
 .obtain⟨_,_,_,rfl,_⟩:=h;rfl
 .obtain⟨p,w,h,rfl,ok,hR⟩:=h;refine vC (RX:=λ_ _=>True) ok λd hd=>?_;refine#[_,cD,by show(0:Nat)<1000;decide,?_];rw[df];refine#[_,cD,Qx,?_];rw[df];refine#[_,cD,by show(2:Nat)<1000;decide,?_];rw[df];refine#[_,cD,by show(3:Nat)<1000;decide,?_];rw[df];refine#[_,cD,by show(4:Nat)<1000;decide,?_];rw[df];refine#[by show(0:Nat)<=1000;decide,λq hq=>?_];have ne:a≠q:=λe=>hq (e ▸ GU);refine#[_,(dZ (Ne.symm ne)).trans cD,by show(5:Nat)<1000;decide,?_];rw[eA (Ne.symm ne),df];exact hR d q hd ne
def GE{fa:KF}{fd:Ua}(F:Fun V.K "law" "law" gz fa fd)(LF:V.m "min")(uD:V.m "int")(uH:V.m "isinstance")(Mb:V.m "tuple")(P9:pK V)(KN:jg V)(P':pM V)(w9:fK V)(P_:pP V)(Md:js V)(Qa:qe V)(Qb:qf V)(Qc:qg V)(Qe:qp V)(Qf:qq V):FnOk V.P V.w V.K V.mg V.base (Exc.CX1 V.P V.w) 21 fa fd pv (lSp V.K eX):=by
 refine Dz (Fun.okM F sc_law (λds M R RX h=>?_) (λcdv A outer s H E J hr hx=>⟨_,((aq (aH 1 sc_law.nd (ag (az P9 hr (ac (aa 0) af))))
   (aq (aH 2 sc_law.nd (ag (aL (ac (aj ad (aD (az KN hr (ac (aa 0) (ac ad af))) ad)) (ac (aj ad (aD (az KN hr (ac (aa 0) (ac ad af))) ad)) af)))))
   (aq (A8 (λ_=>(sS 3 rfl (compScope (by change cV _ (ah gz) ["_law_script","_law_six_here","_law_size","_law_lines_here","_law_floor","_law_stands","_law_laid","_law_deeds","_law_draw","_law_many","_law_refused","_law_found","_law_new","_law_due","_law_rest"] _=true;decide+kernel)) sc_law.nd (aa 1) (λcl s0 H0 fp=>(az P' hr (ac (ae (aa 15) ad) (ac (ae (aa 2) ad) (ac (ae (aa 2) ad) af))))))))
   (aq (aH 4 sc_law.nd (Dx Qf hr (aB (ac (ae (ae (aa 1) ad) ad) (ac (ae (aa 2) ad) (ac (ae (aa 2) ad) af))))))
   (aq (aH 5 sc_law.nd (ag ad))
   (aq (aH 6 sc_law.nd (ag ad))
   (aq (aH 7 sc_law.nd (ag ad))
   (aq (DC 8 PassesOwn.leaving rfl sc_law.nd (ag (az w9 hr (ac (aa 0) (ac ad (ac ad af))))) (aq (aH 9 sc_law.nd (ag (kr rfl LF (ac (aD (aa 8) ad) (ac (bq (ae (aa 2) ad) (aa 6)) af)))))
    (aq (fq (bx (kj (aa 9) ad)) (aq (DF rfl (aM P_ hx hr (aB (ac (aa 4) (ac (aa 9) (ac bo af))))) (dg_cons 10 sc_law.nd (dg_cons 11 sc_law.nd dO)))
     (aq (bj (bx (cz (cR (bM (aa 10)) (cQ (cF (bM (az Md hr (ac (aa 11) (ac (cf (ae (aa 3) (aa 5)) (bV (aa 6)) (bV (aj (aa 6) (aa 9)))) af))))))))) (av (aG (ag bo))) aZ)
     (aq (aH 6 sc_law.nd (ag (aj (aa 6) (aa 9))))
     (av (aH 7 sc_law.nd (ag (aj (aa 7) ad))))))) aZ)
    (aq (aH 12 sc_law.nd (ag (aD (aX (aa 8) ad) ad)))
    (aq (aH 11 sc_law.nd (aM Qa hx hr (aB (ac (aa 4) (ac (ae (ae (aa 1) (aa 12)) ad) af)))))
    (aq (aH 13 sc_law.nd (ag (az Qb hr (ac (cf (ae (aa 3) (aa 5)) cq (bV (aa 6))) (ac (ae (aa 3) (aa 12)) af)))))
    (aq (bj (bx (cz (cR (cF (bM (dN uH Mb (aa 11) PyProof.Rows.boot_tuple kit_tuple))) (cQ (bU (ae (aa 11) ad) (ae (bt (ac ay (ac ay af))) (fW uD (ac (yQ (aa 13) bL) af)))))))) (av (aG (ag bo))) aZ)
    (aq (fq (bx (km (aa 13) bL)) (aq (aH 5 sc_law.nd (ag (aa 12)))
     (av (aH 7 sc_law.nd (ag (aj (aa 7) ad))))) (av (bj (bx (cF (bM (az Qc hr (ac (cf (aa 11) (bV ad) cq) (ac (aa 13) af)))))) (av (aG (ag bo))) aZ)))
    (aq (aH 14 sc_law.nd (ag (ae (aa 3) (aa 5))))
    (av (bj (dY (dX (aM Qe hx hr (aB (ac (aa 4) (ac (ae (ae (aa 1) (aa 5)) ad) (ac (aa 2) (ac (cf (aa 14) cq (bV (aa 6))) (ac (cf (aa 14) (bV (aa 6)) cq) (ac (kr rfl LF (ac (aa 7) (ac ad af))) af)))))))))) (av (aG (ag bo))) aZ)))))))))))
   (av (aG (ag bo)))))))))))),λds M R RX d6 h=>?_⟩))
 .obtain⟨rfl,_,⟨ns,rfl,_⟩,rfl⟩:=h;rfl
 .obtain⟨rfl,R0,⟨ns,rfl,hl,hR⟩,rfl⟩:=h;refine#[λd M'=>M'=[]/\∃ps:List Pat,d=.lst (ps.map Pat.D)/\ps.length=6/\∀p∈ps,p.Ok,#[ns,rfl,λps a b=>#[rfl,ps,rfl,a,b]],?_];rintro _ _⟨rfl,ps,rfl,p6,LG⟩;k_places;refine#[λd M'=>M'=[]/\∃w h:Int,d=.tup [.int w,.int h]/\(1<=w/\w<=10)/\1<=h/\h<=10,#[ns,0,rfl,Lj,Lj,ns,1,rfl,Lj,Lj,Nw,rfl,_,_,rfl,#[KK,KK],KK,KK],?_];rintro _ _⟨rfl,w,h,rfl,⟨w1,w2⟩,h1,h2⟩;k_places
  let LN:List D:=ps.map λp=>D.lst (aw p w 0 h.toNat)
  refine#[λd=>d=.lst LN,#[by rw[GQ];lia,λk ys=>ys=(ps.take k).map λp=>D.lst (aw p w 0 h.toNat),rfl,?_,?_],?_]
  .rintro k v ys hk hl rfl;rw[GX]at hk;obtain⟨p,hp,rfl⟩:=Ki.mp hk;refine#[_,rfl,_,rfl,_,rfl,p,w,h,rfl,LG p (Hz hp),KK,KK,KK,KK,?_];show _=Il _ (List.take (k+1) ps);rw[List.take_add_one,hp,Hl];rfl
  .rintro ys hl rfl;rw[GQ,Ir]
  rintro _ rfl;k_places;refine#[?_,NoOwn.of rfl];obtain⟨p0,e0⟩:∃p0,ps[0]?=be p0:=#[_,G5 KK];have LH:=LG p0 (Hz e0);refine#[λd M'=>∃a qa d0,d=.ptr a/\a≠qa/\bp p0 d0/\M'=Fl.M #[p0,d0,w,h,0,[]] a qa,#[_,dg Pat.D e0,_,rfl,_,rfl,_,rfl,λa _=>#[p0,w,h,rfl,LH,λd0 qa is ne=>#[a,qa,d0,rfl,ne,is,rfl]]],?_];rintro _ _⟨a,qa,d0,rfl,ne,is,rfl⟩;k_places;have NN:=Fl.ok_new is LH w1 KK h1 KK;refine#[λd M'=>d=.int 0/\M'=Fl.M #[p0,d0,w,h,0,[]] a qa,#[rfl,rfl],?_];rintro _ _⟨rfl,rfl⟩;k_places;refine#[λd M'=>d=.int 0/\M'=Fl.M #[p0,d0,w,h,0,[]] a qa,#[rfl,rfl],?_];rintro _ _⟨rfl,rfl⟩;k_places;refine#[λd M'=>d=.int 0/\M'=Fl.M #[p0,d0,w,h,0,[]] a qa,#[rfl,rfl],?_];rintro _ _⟨rfl,rfl⟩;k_places;refine#[ns,2,10,rfl,Lj,Lj,λxs xl xd=>?_]
  let I:Option D->SD->MS->Prop:=λo8 z M=>∃(g:Fl) (qb:KF) (s n:Nat) (o9 K_ x8 x9 n6 n8:Option D),z=[be (.rol (ns.map D.int)),be (.lst (ps.map Pat.D)),be (.tup [.int w,.int h]),be (.lst LN),be (.ptr a),be (.int s),be (.int g.l),be (.int n),o8,o9,K_,x8,x9,n6,n8]/\M=g.M a qb/\a≠qb/\g.Ok/\g.w=w/\g.h=h/\ps[s]?=be g.p/\g.ds.length=min n 20
  refine#[λk z M=>∃o8,I o8 z M,#[_,_,qa,0,0,_,_,_,_,_,_,rfl,rfl,ne,NN,rfl,rfl,e0,rfl],?_,?_]
  .clear NN ne is e0 LH;rintro k v z M' hk⟨o8,g,qb,s,n,o9,K_,x8,x9,n6,n8,rfl,rfl,ne,o6,ew,eh,eg,en⟩;k_places;obtain⟨x,rfl,x0⟩:∃x:Int,v=.int x/\0<=x:=by
    rw[GX]at hk;obtain⟨x,hx,rfl⟩:=Ki.mp hk;exact#[x,rfl,(xd x (Hz hx)).1]
   have l0:=o6.l0;have l1:=o6.l1;refine#[λd M'=>M'=g.M a qb/\∃m:Nat,d=.int m/\(m:Int)<=h-g.l,#[Lj,_,rfl,rfl,(if h-g.l<x%3 then h-g.l else x%3).toNat,by rw[Hg (by split<;>lia)],by split<;>lia],?_];rintro _ _⟨rfl,m,rfl,hm⟩;k_places;refine#[I (be (.int x)),ite2 (λc=>?_) (λ_=>?_),?_]
   .have c':=of_decide_eq_true c;have v3:=EF (p:=g.p) (w:=w) (l:=g.l.toNat) (m:=m) (n:=h.toNat) KK;rw[Hg l0]at v3;refine#[a,qb,g,m,true,rfl,ne,rfl,o6,KK,KK,λz=>absurd z KK,λ_ q' f8=>#[rfl,?_]];refine#[_,dg (λp=>D.lst (aw p w 0 h.toNat)) eg,g.p,w,g.l,m,?_,KK,?_]
    .show[D.lst (aw g.p g.w g.l (m:Int).toNat),D.lst (cutD (aw g.p w 0 h.toNat) (be g.l) (be (g.l+m)))]=_;rw[v3,Hw,ew]
    .refine#[λd M'=>d=.int (g.l+m)/\M'=(g.lay m).M a q',#[rfl,rfl],?_];rintro _ _⟨rfl,rfl⟩;k_places;refine#[λd M'=>d=.int (n+1:Nat)/\M'=(g.lay m).M a q',#[rfl,rfl],?_];rintro _ _⟨rfl,rfl⟩;k_places;exact#[g.lay m,q',s,n+1,_,_,_,_,_,_,rfl,rfl,f8,o6.lay KK KK,ew,eh,eg,vW en]
   .exact#[g,qb,s,n,_,_,_,_,_,_,rfl,rfl,ne,o6,ew,eh,eg,en]
   clear hm m en eg l0 l1 ne o6 ew eh;rintro _ _⟨g',qb,s,n,o9,K_,x8,x9,n6,n8,rfl,rfl,ne,o6,rfl,rfl,eg,en⟩;k_places;refine#[λd M'=>M'=g'.M a qb/\∃i:Nat,d=.int i/\i<6,?_,?_]
   .exact#[Lj,Lj,rfl,(x/3%6).toNat,by rw[Hg KK],KK]
   rintro _ _⟨rfl,i,rfl,hi⟩;k_places;obtain⟨r,er⟩:∃r,ps[i]?=be r:=#[_,G5 KK];have NX:=LG r (Hz er);have j5:=o6.ok;have w1:=o6.w1;have w2:=o6.w2;have h2:=o6.h2;have l0:=o6.l0;have l1:=o6.l1;have v3:cutD (aw g'.p g'.w 0 g'.h.toNat) v7 (be g'.l)=aw g'.p g'.w 0 g'.l.toNat:=by
    have:=vV (p:=g'.p) (w:=g'.w) (lo:=0) (n:=g'.h.toNat) (k:=g'.l.toNat) KK;rw[Hg l0]at this;exact this
   have et:=Hg l0;refine#[λd M'=>(d=.tup [.str "let in"]/\Same2 g'.p r g'.w g'.l/\∃q' d',bp r d'/\a≠q'/\M'=((g'.keep "change").stand r d').M a q')\/∃x y,d=.tup [.str "parted",.int x,.int y]/\First2 g'.p r g'.w g'.l x y/\M'=g'.M a qb,#[_,dg Pat.D er,_,rfl,a,qb,g',r,rfl,ne,rfl,o6,NX,λsm q' d' is f8=>.inl #[rfl,sm,q',d',is,f8,rfl],λx y f2=>.inr #[x,y,rfl,f2,rfl]],?_];rintro _ _ (⟨rfl,sm,q',d',is,f8,rfl⟩|⟨x',y',rfl,f2,rfl⟩);k_places
   focus
    refine#[λd M'=>d=.non/\M'=((g'.keep "change").stand r d').M a q',#[_,dg (λp=>D.lst (aw p g'.w 0 g'.h.toNat)) eg,_,dg (λp=>D.lst (aw p g'.w 0 g'.h.toNat)) er,g'.p,r,g'.w,g'.l.toNat,g'.h.toNat,?_,j5,NX,KK,KK,KK,KK,λ_=>#[rfl,rfl],λx y f2=>(First2.not (by rw[et]at f2;exact f2) sm).elim],?_]
    .show[D.lst (cutD (aw g'.p g'.w 0 g'.h.toNat) v7 (be g'.l)),_]=_;rw[v3]
    rintro _ _⟨rfl,rfl⟩;k_places;refine#[_,rfl,Nw,_,rfl,I (be (.int x)),?_,?_]
    .refine#[λd M'=>d=.int i/\M'=((g'.keep "change").stand r d').M a q',#[rfl,rfl],?_];rintro _ _⟨rfl,rfl⟩;k_places;refine#[λd M'=>d=.int (n+1:Nat)/\M'=((g'.keep "change").stand r d').M a q',#[rfl,rfl],?_];rintro _ _⟨rfl,rfl⟩;k_places;exact#[(g'.keep "change").stand r d',q',i,n+1,_,_,_,_,_,_,rfl,rfl,f8,(o6.keep _).stand is NX,rfl,rfl,er,vW en]
   rotate_left
   focus
    refine#[λd M'=>d=.tup [.int x',.int y']/\M'=g'.M a qb,#[_,dg (λp=>D.lst (aw p g'.w 0 g'.h.toNat)) eg,_,dg (λp=>D.lst (aw p g'.w 0 g'.h.toNat)) er,g'.p,r,g'.w,g'.l.toNat,g'.h.toNat,?_,j5,NX,KK,KK,KK,KK,λsm=>(First2.not f2 (by rw[et]at sm;exact sm)).elim,λx y f3=>?_],?_]
    .show[D.lst (cutD (aw g'.p g'.w 0 g'.h.toNat) v7 (be g'.l)),_]=_;rw[v3]
    .rw[et]at f3;obtain⟨rfl,rfl⟩:=First2.uniq f2 f3;exact#[rfl,rfl]
    rintro _ _⟨rfl,rfl⟩;k_places;refine#[_,rfl,Nw,_,rfl,I (be (.int x)),?_,?_]
    .exact#[(λz=>absurd (show HT.sIx 3 0 (be 1)=0 from z.1) Lj),[x',y'],rfl,Nw,g',qb,s,n,_,_,_,_,_,_,rfl,rfl,ne,o6,rfl,rfl,eg,en]
   all_goals
    clear v3 et;rintro _ _⟨f,q,s',n',p9,TW,TX,TY,TZ,T1,rfl,rfl,Rj,NY,ew,eh,Qg,Rk⟩;k_places;refine#[λd M'=>d=.lst (aw f.p g'.w 0 g'.h.toNat)/\M'=f.M a q,#[_,dg (λp=>D.lst (aw p g'.w 0 g'.h.toNat)) Qg,rfl,rfl],?_];rintro _ _⟨rfl,rfl⟩;k_places;refine#[_,dg Pat.D Qg,_,rfl,a,q,f,?_,Rj,rfl,NY,?_]
    .have q0:=NY.l0;have q1:=NY.l1;have e1:=vV (p:=f.p) (w:=f.w) (lo:=0) (n:=f.h.toNat) (k:=f.l.toNat) KK;have e2:=vT f.p f.w (f.h-f.l).toNat q0;rw[show f.l.toNat+(f.h-f.l).toNat=f.h.toNat by lia]at e2;rw[Hg q0]at e1;have e3:(f.ds.length:Int)=if(20:Int)<n' then 20 else(n':Int):=by rw[Rk];split<;>lia
     show[D.ptr a,D.str f.p.text,D.tup [D.int g'.w,D.int g'.h],D.lst (cutD (aw f.p g'.w 0 g'.h.toNat) v7 (be f.l)),D.lst (cutD (aw f.p g'.w 0 g'.h.toNat) (be f.l) v7),D.int (if(20:Int)<n' then 20 else n')]=_;rw[<-ew,<-eh,e1,e2,<-e3]
    .exact#[_,f,q,s',n',_,_,_,_,_,_,rfl,rfl,Rj,NY,ew,eh,Qg,Rk]
  .rintro z M'⟨_,g,qb,s,n,o9,K_,x8,x9,n6,n8,rfl,rfl,_⟩;k_places;exact hR
end
local macro_rules | `(tactic| walk_at "b1") => `(tactic| exact A9 λ_ _ _ _ _ _ _ => rfl)
local macro_rules | `(tactic| walk_at "b2") => `(tactic| exact bind2 λ_ _ _ _ _ _ _ _ => rfl)
local macro_rules | `(tactic| walk_at "b3") => `(tactic| exact bind3 λ_ _ _ _ _ _ _ _ _ => rfl)
local macro_rules | `(tactic| walk_at "b4") => `(tactic| exact bind4 λ_ _ _ _ _ _ _ _ _ _ => rfl)
local macro_rules | `(tactic| walk_at "b5") => `(tactic| exact bind5 λ_ _ _ _ _ _ _ _ _ _ _ => rfl)
local macro_rules | `(tactic| walk_at "b6") => `(tactic| exact bind6 λ_ _ _ _ _ _ _ _ _ _ _ _ => rfl)
local macro_rules | `(tactic| walk_at "bd") => `(tactic| exact λ_ _ _ _ _ _ _ _ _ _ _ _ _ _ h hs => ⟨.of_defaults rfl h hs rfl rfl, .of_defaults rfl h hs rfl rfl⟩)
structure TopIn(K:Ex):Prop where
 uHS:FnIn K "_law_at" lr
 uJY:FnIn K "_law_draws" lv
 uIV:FnIn K "_law_lines" ly
 uIY:FnIn K "_law_shift_pair" lC
 uHE:FnIn K "_law_motif_text" lF
 uFQ:FnIn K "_law_motif" lH
 uHO:FnIn K "_law_wrapped" ir
 uGT:FnIn K "_law_gcd" lL
 uIR:FnIn K "_law_on" lN
 uGB:FnIn K "_law_leaf_family" lQ
 uEZ:FnIn K "_law_in_family" lU
 uIH:FnIn K "_law_both" lW
 uGI:FnIn K "_law_family" lZ
 uHV:FnIn K "_law_over" mf
 uFM:FnIn K "_law_pattern" mj
 uJG:FnIn K "_law_respelled" mm
 uHT:FnIn K "_law_six" mo
 uIM:FnIn K "_law_leaf_shows" mx
 uGV:FnIn K "_law_shows" mz
 uFA:FnIn K "_law_floor_rows" iu
 uIA:FnIn K "refuse_far" mG
 uJL:FnIn K "home" mI
 uHZ:FnIn K "cell_at" mK
 uGP:FnIn K "row_from" iJ
 uJK:FnIn K "_law_lay" mR
 uGK:FnIn K "_law_texts" mV
 uHC:FnIn K "line_from" nj
 uGZ:FnIn K "lines_from" nt
 uFI:FnIn K "number_from" nv
 uFB:FnIn K "shift_from" ny
 uJA:FnIn K "levelled" nA
 uIU:FnIn K "spread" nC
 uGO:FnIn K "hues_by_home" nE
 uJU:FnIn K "motif_from" nI
 uHW:FnIn K "over_from" iM
 uKF:FnIn K "shifted_from" iN
 uJN:FnIn K "rehue_from" iO
 uEX:FnIn K "form_from" iP
 uJT:FnIn K "measure" oa
 uGG:FnIn K "met" oh
 uIT:FnIn K "mirrored" oj
 uJS:FnIn K "turned" om
 uFC:FnIn K "read" ot
 uIZ:FnIn K "first_unlike" ow
 uJB:FnIn K "_law_change" oG
 uGS:FnIn K "_law_parted" oI
 uGR:FnIn K "_law_whole" oK
 uGC:FnIn K "_law_numbers" oN
 uIE:FnIn K "_law_seven" oP
 uKA:FnIn K "_law_counts" oR
 uHX:FnIn K "field_rows" jb
 uGU:FnIn K "round_row" oV
 uJQ:FnIn K "count_sign" oX
 uFJ:FnIn K "count_all" jc
 uFR:FnIn K "_law_view" pk
 uIK:FnIn K "law" gz
 uFT:NnIn K "len"
 uHU:NnIn K "range"
 uHB:NnIn K "int"
 uFX:NnIn K "str"
 uGE:NnIn K "list"
 uGN:NnIn K "abs"
 uGX:NnIn K "max"
 uJZ:NnIn K "isinstance"
 uFH:NnIn K "enumerate"
 uGD:NnIn K "bool"
 uHG:NnIn K "tuple"
 uKB:NnIn K "min"
 uR:ClIn K "Floor"
 uBW:ClIn K "Motif"
 uCI:ClIn K "Over"
 uBM:ClIn K "Shifted"
 uEB:ClIn K "Mirror"
 uDW:ClIn K "Turn"
 uBX:ClIn K "Rehue"
 uCM:ClIn K "Pattern"
 uCC:ClIn K "Reading"
 uJP:InIn K "Motif" "Motif.__init__" nG
 uJX:InIn K "Mirror" "Mirror.__init__" nK
 uHY:InIn K "Turn" "Turn.__init__" nN
 uHD:InIn K "Over" "Over.__init__" nP
 uHI:InIn K "Shifted" "Shifted.__init__" nR
 uIF:InIn K "Rehue" "Rehue.__init__" nU
 uFG:InIn K "Reading" "Reading.__init__" nW
 uJM:InIn K "Pattern" "Pattern.__init__" nY
 uJR:InIn K "Floor" "Floor.__init__" pq
 uID:MtIn K "Floor" "keep" "Floor.keep" mD
 uJD:MtIn K "Motif" "shows" "Motif.shows" iy
 uFS:MtIn K "Over" "shows" "Over.shows" iz
 uHJ:MtIn K "Shifted" "shows" "Shifted.shows" iB
 uFY:MtIn K "Mirror" "shows" "Mirror.shows" iD
 uJF:MtIn K "Turn" "shows" "Turn.shows" iF
 uFE:MtIn K "Rehue" "shows" "Rehue.shows" iH
 uHQ:MtIn K "Floor" "rows" "Floor.rows" iK
 uHK:MdIn K "Floor" "lay" "Floor.lay" mQ 1
 uIW:MtIn K "Reading" "may_take" "Reading.may_take" mY
 uGM:MtIn K "Reading" "take" "Reading.take" ng
 uKH:MtIn K "Motif" "family" "Motif.family" iQ
 uII:MtIn K "Over" "family" "Over.family" iR
 uHF:MtIn K "Shifted" "family" "Shifted.family" iT
 uEY:MtIn K "Mirror" "family" "Mirror.family" iV
 uIC:MtIn K "Turn" "family" "Turn.family" iX
 uFP:MtIn K "Rehue" "family" "Rehue.family" iZ
 uKC:MtIn K "Floor" "stand" "Floor.stand" oB
 uJE:MtIn K "Floor" "change" "Floor.change" oE
 uHA:MtIn K "Floor" "lies" "Floor.lies" pd
 uFN:MtIn K "Floor" "still" "Floor.still" pf
 uJJ:MtIn K "Floor" "kept" "Floor.kept" pi
 uGW:NoIn K "Floor" "deeds"
 uHR:NoIn K "Floor" "laid"
 uGL:NoIn K "Floor" "pattern"
 uFL:NoIn K "Motif" "hues"
 uFO:NoIn K "Motif" "shifts"
 uGY:NoIn K "Over" "above"
 uIJ:NoIn K "Over" "below"
 uGA:NoIn K "Shifted" "form"
 uHM:NoIn K "Shifted" "y"
 uHH:NoIn K "Shifted" "x"
 uFD:NoIn K "Mirror" "form"
 uFZ:NoIn K "Turn" "form"
 uIL:NoIn K "Rehue" "form"
 uFV:NoIn K "Rehue" "old"
 uIO:NoIn K "Rehue" "new"
 uHN:NoIn K "Pattern" "form"
 uJI:NoIn K "Floor" "width"
 uGJ:NoIn K "Floor" "height"
 uFK:NoIn K "Reading" "text"
 uGQ:NoIn K "Reading" "place"
 uIQ:NoIn K "Motif" "place"
 uIN:NoIn K "Pattern" "text"
 uGF:NoIn K "Pattern" "shifts"
 uKG:NoIn K "Floor" "text"
 uJH:CiIn K "KEPT" 20
 uIS:CiIn K "FAR" 1000000000000
 uGH:CsIn K "SIGNS" ".123456"
 uJO:CiIn K "LONGEST" 8
 uFW:CiIn K "DEEP" 5
 uHL:CiIn K "MOST" 720
 eb:EbIn K
 uEN:E0In K "TooFar"
 uEF:E0In K "NoRow"
 uAT:E1In K "Parted" "Parted.__init__" oz
 uAH:EaIn K "Parted"
 uER:NoIn K "Parted" "x"
 uES:NoIn K "Parted" "y"
 uEE:EgIn K "Parted"
 uJC:EiIn K "MotifError"
 uKD:EmIn K "TooFar" "TooFar"
 uJV:EmIn K "TooFar" "NoRow"
 uIX:EmIn K "TooFar" "Parted"
 uFU:EmIn K "NoRow" "TooFar"
 uIG:EmIn K "NoRow" "NoRow"
 uJW:EmIn K "NoRow" "Parted"
 uEW:EmIn K "Parted" "TooFar"
 uFF:EmIn K "Parted" "NoRow"
 uHP:EmIn K "Parted" "Parted"
def GF{V:Bx}{h:Heap}(t:TopIn V.K)(X:V.K.In h)(G:h.Ns Pi V.mg){fa:KF}{fd:Ua}(F:Fun V.K "law" "law" gz fa fd):FnOk V.P V.w V.K V.mg V.base (Exc.CX1 V.P V.w) 21 fa fd pv (lSp V.K eX):=by
 have uB:=mg_none_of X G t.uFT;have uA:=mg_none_of X G t.uHU;have uD:=mg_none_of X G t.uHB;have uM:=mg_none_of X G t.uFX;have w_:=mg_none_of X G t.uGE;have uP:=mg_none_of X G t.uGN;have uU:=mg_none_of X G t.uGX;have uH:=mg_none_of X G t.uJZ;have LC:=mg_none_of X G t.uFH;have P1:=mg_none_of X G t.uGD;have Mb:=mg_none_of X G t.uHG;have LF:=mg_none_of X G t.uKB;have Kk:=t.uR.a t.uGW;have uE:=t.uR.a t.uHR;have uF:=t.uR.a t.uGL;have K5:=t.uBW.a t.uFL;have uN:=t.uBW.a t.uFO;have uS:=t.uCI.a t.uGY;have uX:=t.uCI.a t.uIJ;have uT:=t.uBM.a t.uGA;have K6:=t.uBM.a t.uHM;have K7:=t.uBM.a t.uHH;have uV:=t.uEB.a t.uFD;have uY:=t.uDW.a t.uFZ;have uW:=t.uBX.a t.uIL;have K8:=t.uBX.a t.uFV;have K9:=t.uBX.a t.uIO;have L4:=t.uCM.a t.uHN;have uK:=t.uR.a t.uJI;have uZ:=t.uR.a t.uGJ;have K':=t.uCC.a t.uFK;have uO:=t.uCC.a t.uGQ;have PB:=t.uBW.a t.uIQ;have L_:=t.uCM.a t.uIN;have Kl:=t.uCM.a t.uGF;have Km:=t.uR.a t.uKG;have Pt:=t.uJH.g X G;have Pu:=t.uIS.g X G;have uQ:=t.uGH.g X G;have NS:=t.uJO.g X G;have Ng:=t.uFW.g X G;have PL:=t.uHL.g X G;have Pw:=t.uEN.k t.eb X G;have Px:=t.uEF.k t.eb X G;have uAH:=t.uAT.a t.eb t.uAH X G;have PR:=t.uER.all;have PU:=t.uES.all;have PQ:=t.uJC.b X G;have PZ:V.x "y" ["Parted"]:=AllP.mem #[t.uEE.g uAH t.uES,trivial];have P0:V.x "x" ["Parted"]:=AllP.mem #[t.uEE.g uAH t.uER,trivial];have ek:pO V:=Ba #[(let ⟨C,N,bm,k,_⟩:=t.uEN.k t.eb X G;#[C,N,bm,k]),(let ⟨C,N,bm,k,_⟩:=t.uEF.k t.eb X G;#[C,N,bm,k]),(t.uAT.c t.eb X G),trivial] #[#[t.uKD,t.uJV,t.uIX,trivial],#[t.uFU,t.uIG,t.uJW,trivial],#[t.uEW,t.uFF,t.uHP,trivial],trivial];have KN:jg V:=EG (t.uHS.tx X G Mr) uB;have w9:fK V:=EH (t.uJY.tx X G Ph) uA KN;have O7:pA V:=EI (t.uIV.tx X G MB) uA uB;have O8:pB V:=EJ (t.uIY.tx X G MB) uD;have O9:pC V:=EK (t.uHE.tx X G Ph) uM;have Ly:jh V:=EL (t.uFQ.tx X G Mr) w9 O7 O8 O9;have NM:pD V:=EM (t.uHO.tx X G Mr) uM w_ uD;have LW:ji V:=EN (t.uGT.tx X G Mr) uP;have LX:jj V:=EO (t.uIR.tx X G (by walk_at "b4"));have NL:pE V:=EQ (t.uGB.tx X G MB) uP LW LX;have Pe:pF V:=ER (t.uEZ.tx X G Ph);have Pj:pG V:=ES (t.uIH.tx X G Mr) LW Pe;have Pk:pH V:=ET (t.uGI.tx X G MB) NL Pj;have K3:jk V:=EU (t.uHV.tx X G Mr) uU Pk;have NO:pI V:=EV (t.uFM.tx X G Mr) uA w9 Ly NM K3;have NP:pJ V:=EY (t.uJG.tx X G Ph) uB w_;have P9:pK V:=E1 (t.uHT.tx X G MB) NO Ly w9 NP K3;have Pr:C__law_leaf_shows V:=E2 (t.uIM.tx X G Ph) uA uB uD LX;have Ps:pL V:=E3 (t.uGV.tx X G Ph) Pr;have P':pM V:=E5 (t.uFA.tx X G Ph) uA Ps;have L6:jl V:=E7 (t.uID.txm t.uR Mr) Pt Kk uE uF;have LA:jn V:=E8 (t.uIA.tx X G Mr) uU uP Pu Pw;have E_:fL V:=E9 (t.uJL.tx X G Ph);have uI:vX V:=Fg (t.uJD.txm t.uBW Ph) (t.uFS.txm t.uCI Ph) (t.uHJ.txm t.uBM Ph) (t.uFY.txm t.uEB Ph) (t.uJF.txm t.uDW Ph) (t.uFE.txm t.uBX Ph) E_ K5 uN uS uX uT K6 K7 uV uY uW K8 K9 6;have LB:jp V:=Fh (t.uHZ.tx X G Ph) LA L4 uI;have L5:jq V:=Fi (t.uGP.tx X G (by walk_at "b4")) uA LB uQ;have L7:jr V:=Fj (t.uHQ.txm t.uR MB) uA L5 uE uK uF;have NQ:pN V:=Fk (t.uHK.txd t.uR (by walk_at "bd")) uU uZ uE L6 L7 Px;have P_:pP V:=Fp (t.uJK.tx X G Ph) NQ ek;have Md:js V:=Fs (t.uGK.tx X G Mr) uB uH w_ uA uM;have uJ:dH V:=Ft (t.uIW.txm t.uCC Mr) uB K' uO;have uC:cN V:=Fu (t.uGM.txm t.uCC Mr) uJ;have NR:pQ V:=Fv (t.uHC.tx X G Ph) uA uQ uC uJ;have PC:pR V:=Fw (t.uGZ.tx X G MB) uB NR NS uJ;have NT:pS V:=Fx (t.uFI.tx X G MB) uD uJ uC;have KR:gC V:=Fy (t.uFB.tx X G MB) NT uC;have L8:jt V:=Fz (t.uJA.tx X G Mr);have L9:ju V:=FA (t.uIU.tx X G Mr) uP L8;have Pz:pT V:=FC (t.uGO.tx X G Mr) LC E_ uQ;have PD:pU V:=FD (t.uJP.txi X G (by walk_at "b5")) L9 Pz PB uN K5;have Nf:jv V:=FE (t.uJU.tx X G MB) PC KR uO PD uC;have Nh:jw V:=FF (t.uJX.txi X G Mr) uV;have Ni:jx V:=FG (t.uHY.txi X G Mr) uY;have Na:jy V:=FH (t.uHD.txi X G Ph) uS uX;have Nb:jz V:=FI (t.uHI.txi X G (by walk_at "b4")) uT K7 K6;have Nd:jA V:=FJ (t.uIF.txi X G (by walk_at "b4")) uW K8 K9;have uL:wa V:=FO (t.uHW.tx X G Mr) (t.uKF.tx X G Mr) (t.uJN.tx X G Mr) (t.uEX.tx X G Mr) Na uC KR Nb uD Nd Nf Ng Nh Ni uJ 6;have PM:pV V:=FP (t.uFG.txi X G Mr) K' uO;have PN:pW V:=FQ (t.uJM.txi X G (by walk_at "b4")) L_ Kl L4;have Nk:pX V:=FR (t.uJT.tx X G Mr) L8;have Nl:jB V:=FS (t.uGG.tx X G Mr) Nk;have Nm:jC V:=FT (t.uIT.tx X G MB);have Nn:jD V:=FU (t.uJS.tx X G MB) L9;have uG:wc V:=F4 (t.uKH.txm t.uBW MB) (t.uII.txm t.uCI MB) (t.uHF.txm t.uBM MB) (t.uEY.txm t.uEB MB) (t.uIC.txm t.uDW MB) (t.uFP.txm t.uBX MB) uN Nl uS uX uT Nm uV Nn uY uW 6;have Ma:jE V:=F5 (t.uFC.tx X G MB) uB uL PL uO PM PN uG;have PV:pY V:=F7 (t.uIZ.tx X G (by walk_at "b4")) uA LB;have uAT:pZ V:=F9 (t.uAT.txe t.eb X G Ph) PQ uAH PR PU;have PX:qc V:=Gb (t.uKC.txm t.uR Mr) uF Km L_;have PY:qd V:=Gd (t.uJE.txm t.uR Mr) Ma PV uE uK uF L6 PX uAT;have Qa:qe V:=Gf (t.uJB.tx X G Mr) PY PZ P0 ek;have Qb:qf V:=Gh (t.uGS.tx X G Mr) uA uB;have G':gD V:=Gi (t.uGR.tx X G MB) uH P1 uD;have Qc:qg V:=Gj (t.uGC.tx X G Mr) uB uH Mb uA G';have NV:qh V:=Gm (t.uIE.tx X G Mr) uB uH w_ uA G';have NW:qi V:=Go (t.uKA.tx X G MB);have P2:qj V:=Gp (t.uHX.tx X G MB) uA L5 Kl;have P4:C_round_row V:=Gq (t.uGU.tx X G (by walk_at "b4")) E_;have P5:qk V:=Gr (t.uJQ.tx X G Ph) uB;have Mc:jF V:=Gs (t.uFJ.tx X G (by walk_at "b5")) uU uA LF LC LA P2 P4 P5 uQ Kl;have P6:ql V:=Gv (t.uHA.txm t.uR MB) Mc uE uK uF;have P7:qm V:=Gx (t.uFN.txm t.uR MB) Mc uZ uK uE uF;have P8:qo V:=Gz (t.uJJ.txm t.uR MB) uB Kk;have Qe:qp V:=GB (t.uFR.tx X G (by walk_at "b6")) uH uM G' Md NV NW Km uK uZ L7 P6 P7 P8;have Qf:qq V:=GD (t.uJR.txi X G (by walk_at "b4")) Ma uF Km uK uZ uE Kk;exact GE F LF uD uH Mb P9 KN P' w9 P_ Md Qa Qb Qc Qe Qf
def all_mk{l:IU}{w:T5}{K:Ex}{h:Heap}{mg:Kq->Option KB}{fa:KF}(X:K.In h)(G:h.Ns Pi mg)(Ls:mg "law"=be (.ref fa))(t:TopIn K):
  ∃fd:Ua,(∀(s:Os) (v:KB),UY s fd #[[v],[]] [("_law_script",v)])/\∀base:Heap,K.In base->base.Ns Pi mg->FnOk l.prog w K mg base (Exc.CX1 l.prog w) 21 fa fd ["_law_script"] (lSp K eX):=by
 obtain⟨fd,b,F⟩:=t.uIK.law X G Ls (λ_ _ _ _ _ _ _=>rfl);exact#[fd,b,λbase _ _=>GF (V:=#[l.prog,w,K,mg,base]) t X G F]
def law_walk{l:IU}{q:T3}{k8:List Kq}{XP:(Kq->Option KB)->Heap->Prop}{YP:T5->Heap->Prop}{d:DefRec}{K:Params->Ex}(hn:l.most=be 63)(Mp:d.params.defaults=[])
  (hY:∀(w:T5) (h:Heap),YP w h->(K w.params).In h)
  (F:∀(w:T5) (mg:Kq->Option KB) (fa:KF) (h:Heap),(K w.params).In h->h.Ns Pi mg->mg d.name=be (.ref fa)->
   ∃fd:Ua,(∀(s:Os) (u:KB),UY s fd #[[u],[]] [("_law_script",u)])/\∀base:Heap,(K w.params).In base->base.Ns Pi mg->FnOk l.prog w (K w.params) mg base (Exc.CX1 l.prog w) 21 fa fd ["_law_script"] (lSp (K w.params) eX)):
  JC q k8 XP YP l.row.toRowW d [] (λf vs=>PySem.call f vs):=
 L2.walk_of (n:=63) (k:=21) (x:="_law_script") (CX:=λw=>Exc.CX1 l.prog w) (sp:=λw=>lSp (K w.params) eX) hn Lj Mp #[rfl,Lj,Lj] hY F (λ_ _ a ns hl _ hS=>zj hl hS) λ_ _ _ _ _ h=>by obtain⟨_,_,_,_,_,_,_,_,_,_,_,_,_,_,_,z⟩:=h;exact z
end My
open PySem PySem.W PyProof.Rows
set_option maxRecDepth 100000 in
set_option maxHeartbeats 0 in
theorem PySem.Challenge.cw_motiffield_k43_whole_changed_text_holds : PySem.Challenge.rw_motiffield_k43_whole_changed_text.Holds := by
  w_on;o_law;k_head;(case hw =>w_witness2)
  k_fill
  refine My.law_walk (l :=PySem.Challenge.rw_motiffield_k43_whole_changed_text) rfl rfl (λw h Y =>kIn_of Y) ?F
  case F =>
    intro w mg fa h KX G j_;refine My.all_mk KX G j_ ?_;constructor
    all_goals first|((with_reducible refine' My.fnIn_mk ?a ?l ?c ?k);(case a =>k_is);(case l =>k_is);(case c =>k_is);(case k =>k_is))|((with_reducible refine' My.nnIn_mk ?a);(case a =>k_is))|((with_reducible refine' My.noIn_mk ?a ?b);(case a =>k_is);(case b =>k_is))|((with_reducible refine' My.mtIn_mk ?a ?b ?i ?l ?c ?k);(case a =>k_is);(case b =>k_is);(case i =>k_is);(case l =>k_is);(case c =>k_is);(case k =>k_is))|((with_reducible refine' My.mdIn_mk ?a ?b ?i' ?l ?c ?k ?d);(case a =>k_is);(case b =>k_is);(case i' =>k_is);(case l =>k_is);(case c =>k_is);(case k =>k_is);(case d =>k_is))|((with_reducible refine' My.inIn_mk ?a ?mk ?b ?i ?kp ?l ?c ?k);(case a =>k_is);(case mk =>k_is);(case b =>k_is);(case i =>k_is);(case kp =>k_is);(case l =>k_is);(case c =>k_is);(case k =>k_is))|((with_reducible refine' My.clIn_mk ?a ?pg ?hd ?po ?sa ?ha ?hn ?ht ?hm);(case a =>k_is);(case pg =>k_is);(case hd =>k_is);(case po =>k_is);(case sa =>k_is);(case ha =>k_is);(case hn =>k_is);(case ht =>k_is);(case hm =>k_is))|((with_reducible refine' My.ciIn_mk ?a);(case a =>k_is))|((with_reducible refine' My.csIn_mk ?a);(case a =>k_is))|((with_reducible refine' My.ebIn_mk ?a ?kp ?o ?nk ?al ?ni);(case a =>k_is);(case kp =>k_is);(case o =>k_is);(case nk =>k_is);(case al =>rfl);(case ni =>k_is))|((with_reducible refine' My.e0In_mk ?b ?a ?kp ?o ?nk ?al ?ni);(case b =>k_is);(case a =>k_is);(case kp =>k_is);(case o =>k_is);(case nk =>k_is);(case al =>rfl);(case ni =>k_is))|((with_reducible refine' My.e1In_mk ?b ?a ?kp ?o ?j ?i ?l ?c ?k);(case b =>k_is);(case a =>k_is);(case kp =>k_is);(case o =>k_is);(case j =>k_is);(case i =>k_is);(case l =>k_is);(case c =>k_is);(case k =>k_is))|((with_reducible refine' My.eaIn_mk ?a ?b);(case a =>k_is);(case b =>k_is))|((with_reducible refine' My.egIn_mk ?a ?b ?c);(case a =>k_is);(case b =>k_is);(case c =>k_is))|((with_reducible refine' My.eiIn_mk ?a ?b ?c ?d);(case a =>k_is);(case b =>k_is);(case c =>k_is);(case d =>k_is))|((with_reducible refine' My.emIn_mkT ?e ?a ?c ?d);(case e =>decide);(case a =>k_is);(case c =>k_is);(case d =>k_is))|((with_reducible refine' My.emIn_mkF ?e ?a ?c ?d);(case e =>decide);(case a =>k_is);(case c =>k_is);(case d =>k_is))
end
