import PyProof.Rows.All
import Wide.All
import OpenK.AllK
import Wide.FinOn
import Lean
import PyProof.EqAt
import PyProof.EqKinds
import PyProof.TupleCall
import PySem.Challenge.RW_motiffield_k26_counts_all
set_option compiler.extract_closed false
set_option Elab.async false
set_option linter.all false
set_option maxRecDepth 100000
set_option maxHeartbeats 4000000
open PySem renaming Str->y'
open Option renaming some->be,none->o_
open PySem renaming Value->KB,Addr->KF,Shared->KM,wpAny_bind->Os,mainGlobals->Pi,Program->PH,Expr->PJ,wpAny_pure->PK,Stmt->PL,model->PM,wpAny->PN,World->PP,Around->PQ,starEach->PR,assignEach->PU,attributeBase->PV,eval->PX,FuncData->PY,wpAny_Call_Name_kw->PZ,Pos->P0,wpAny_newObj_type->P1,wpAny_mono->P3,swapsWith->P4,bootBuiltins->P5,compareOp->P6,Obj->P7,binaryOp->P8,wpAny_passesOwn->P9,behindInMarks->P',wpAny_loadPart_at->P_,sysModules->Qa,excClassObj->Qb,PassesOwn->Qc,wpAny_standAt->Qd,wpAny_holding->Qe,Scope->Qf,wpAny_getItem_str_slice->Qg,holding->Qh,swapsWithSole->Qi,swappedStores->Qj,wpAny_field->Qk,sliceBounds->Ql,keywordEach->Qm,NameKind->Qn,backTo->Qo,assign->Qp,codeAny_mono->Qq,bindArgs->Qr,Env->Qs,wpAny_truthy_bool->Qt,wpAny_pyIter_enum->Qu,wpAny_assign_Name->Qv,tupleKind->Qx,wpAny_call->Qy,standAt->Qz,codeAny->QA,wpAny_execs_nil->QB,post_val_or_str->QC,letOwnedTupleGo->QD,wpAny_setField->QE,sizeLine_eq->QF,rawInt->QG,backToKw->QH,Keyword->QI,callerA->QK,BindsTo->QM,plainObj_wpAny_Assign_Attribute->QN,noteFrame->QO,getMethod->QP,IsPart->QQ,atKey->QR,valueAt->QS,getItem->QT,wpAny_letOwnedTupleGo_enum->QU,dictSetDefault->QV,compEnvC->QW,Operator->QX,wpAny_comprehension_free->QY,assignInOrder->QZ,cLine->Q0,bindL->Q1,bindC->Q2,setItem->Q4,seqIndex_neg->Q5,leaving->Q7,codeAny_compStart_list->Q8,call_meetsIn->Q9,Sem->Q_,wpAny_newFunctionEnv->Ra,seqIndex_of->Rb,lookup_relabel_local->Rc,codeAny_call_builtin->Re,bindName->Rf,wpAny_isSubtype_exc->Rg,wpAny_call_exc_subT->Rh,wpAny_rule->Ri,wpAny_entryPlaceOf->Rj,wpAny_Name->Rk,typeIs_str->Rl,tupleKind_room_in1->Rm,isInstance->Rn,builtinsNs->Ro,wpAny_frameOf_fun->Rp,release->Rq,relabel->Rr,foldedSetIterable->Rt,CmpOp->Rv
open PyProof.Rows renaming envOfC->P2,AllBare->Qw,assignInOrder_cons->QJ,IntsAre->QL,subscriptTail_builtinR->Q3,assignInOrder_nil->Ru
open PySem.Spec renaming same->Q6
open PySem.W renaming Frag->D6,findIn->Ee,mroIn->Fg,OpenLaw->F8,clsIn->Gc,WalkO->GH
open Nat renaming le_refl->D7,ne_of_lt->Eh,le_trans->Ei,lt_of_lt_of_le->Ez,zero_le->EA,pow_succ->EH,pow_le_pow_right->ET,pow_pos->E5,lt_irrefl->E7,ne_of_gt->E8,le_succ->Fb,lt_or_ge->Fl,zero_add->FI,le_of_lt->FK,le_of_eq->FN,mul_le_mul->FS,le_of_not_lt->F7,not_lt_zero->Gf,add_comm->Go,le_max_left->Gp,le_max_right->Gq,pow_add->Gr,lt_succ_self->GC,lt_of_le_of_lt->GI,lt_trans->GJ,log2_lt->GM,lt_succ_of_lt->GO,add_sub_add_right->GP,succ_ne_self->GU,add_sub_cancel->G3,mod_eq_of_lt->Hd,min_eq_left->Hi,mul_succ->Hk
open List renaming mem_singleton->D8,range->D9,mem_cons->Ea,length_cons->Eb,mem_cons_of_mem->Ec,mem_cons_self->Ed,length_map->Ef,length_append->Eg,mem_append_right->Ek,size_toArray->El,getElem?_eq_some_iff->Em,map_cons->En,getElem?_map->Eo,lookup_cons->Er,getElem?_eq_getElem->Es,getElem?_set_ne->Et,set_cons_succ->Eu,set_cons_zero->Ev,mem_map->EB,mem_append->EC,append_nil->EI,getD->EJ,getElem_mem->EK,append_assoc->EL,getElem?_set_self->EM,replicate->EN,getElem?_append_left->EO,map_append->EQ,cons_append->ER,mem_append_left->EV,nodup_cons->EW,getElem?_append_right->EY,length_set->EZ,getElem?_eq_none->E3,not_mem_nil->E6,lookup->E9,map_nil->Fc,getElem?_range->Ff,all_cons->Fh,any_cons->Fi,find?_cons->Fj,getElem?_set->Fk,all_eq_true->Fo,map_map->Fu,drop_eq_getElem_cons->Fw,length->Fy,length_take->Fz,length_drop->FA,length_nil->FB,ext_getElem?->FC,map_congr_left->FD,nodup_append->FE,take_length->FF,filterMap_cons->FL,map->FO,range_succ->FQ,eq_nil_of_length_eq_zero->FR,of_mem_zip->F4,getElem?_replicate->F5,mem_of_getElem?->F6,forIn_cons->Gb,take_succ->Gd,drop->Ge,sum_cons->Gg,length_range->Gs,drop_of_length_le->Gv,drop_eq_nil_of_le->Gy,mem_filter->GA,mem_filterMap->GB,getElem?_take_of_lt->GD,filterMap_map->GE,nodup_nil->GK,contains_cons->GL,take_of_length_le->GR,dropLast_cons₂->GT,mem_of_mem_take->GV,nil_append->G4,drop_zero->Hf,mem_of_mem_drop->Hn,drop_length->Ho
open Bool renaming false_ne_true->Ej,and_eq_true->Ew,eq_false_iff->EF,eq_iff_iff->FM,or_true->F9
open Int renaming mul_pos->Ep,mul_le_mul_of_nonneg_right->Ex,mul_comm->Ey,toNat_of_nonneg->EE,mul_ediv_cancel->EG,emod_def->ES,add_zero->EU,neg_mul->E1,mul_nonpos_of_nonpos_of_nonneg->E2,mul_neg->E4,natAbs_mul->Fd,natCast_add->Fe,emod_nonneg->Fp,emod_lt_of_pos->Fq,eq_of_mul_eq_mul_right->Fs,toNat->Ft,emod_add_mul_ediv->Fv,mul_eq_zero->FG,add_assoc->FH,toNat_natCast->FJ,dvd_mul_of_dvd_right->FT,zero_mul->FU,sub_mul->FV,add_mul->FW,lt_trichotomy->FX,neg_add->FY,le_trans->FZ,mul_nonneg->Gh,mul_emod_left->Gi,fmod_eq_zero_of_dvd->Gj,mul_le_mul_of_nonneg_left->Gk,eq_of_mul_eq_mul_left->Gm,dvd_add->Gn,mul_neg_of_neg_of_pos->Gu,ediv_nonneg->Gw,ediv_le_self->Gx,natAbs_eq_zero->GN,le_total->GW,fmod_nonneg_of_pos->GX,fmod_lt_of_pos->GY,dvd_mul_of_dvd_left->GZ,mul_fdiv_cancel_of_fmod_eq_zero->G0,dvd_antisymm->G1,sub_zero->G2,add_mul_emod_self_right->G6,add_mul_ediv_right->G7,dvd_add_left->G8,dvd_mul_right->G9,sub_eq_add_neg->Ha,mul_zero->Hb,zero_add->Hc,natCast_emod->Hg,ediv_eq_zero_of_lt->Hj,neg_neg->Hl,add_comm->Hm
open Array renaming length_toList->Fx,getElem?_eq_some_iff->FP,append_assoc->Gz,all_toList->GQ,getElem?_eq_getElem->GS,toList_inj->G5
open Option renaming bind_some->Ga,getD_none->GF
open PySem.W (InitBack any_some callWith_K callWith_K0 cellsFrom_some cls_value codeIn codeRec_of emptyDict eq_bytes findCls findObj_own fnOf get_value handedIn hasDictIn hideAll hideAll_get hideAll_none hideAll_size instObj isFn isNs_of_in kIn_of keepIn ki_setAt ki_setBack kia_one kitOne kitx_bool kitx_dict kitx_float kitx_int kitx_list kitx_none kitx_own kitx_str kitx_tuple kun_itemsOf len_bytes lookIn make_core makesIn makes_of methodCall_KW methodObj method_cls method_fn mg_none_of mg_of ne_bytes nsIn nsMap_none_of_in nsOkIn of_hideAll osa_open plainGet plainGet_of plainOver readsIn specialIn tailIn tail_of_in takerIn takesIn truthy_bytes)
def qZ0(_:0=0:=by rfl):=0
def zA0:=qZ0._auto_1
def qZ1(_:0=0:=by decide):=0
def zA1:=qZ1._auto_1
def qZ2(_:0=0:=by first|exact .inl rfl|exact .inr rfl|assumption):=0
def zA2:=qZ2._auto_1
def qZ3(_:0=0:=by exact λ_=>rfl):=0
def zA3:=qZ3._auto_1
def qZ4(_:0=0:=by first|exact Or.inl rfl|exact Or.inr rfl):=0
def zA4:=qZ4._auto_1
def qZ5(_:0=0:=by first|exact Or.inl rfl|exact Or.inr (Or.inl rfl)|exact Or.inr (Or.inr rfl)):=0
def zA5:=qZ5._auto_1
def qZ6(_:0=0:=by exact λ_ _=>rfl):=0
def zA6:=qZ6._auto_1
def qZ7(_:0=0:=by intros;rfl):=0
def zA7:=qZ7._auto_1
namespace PySem.W.Fast
def tw6864855828211424959:=Nat
def tw12184835076390724810:=Nat
def tw18153697849476624141:=Nat
def tw8208355401402965649:=Nat
def tw5739575896224332283:=Nat
def tw16555427326916396513:=Nat
def tw262786525232079050:=Nat
def tw7694747809677256768:=Nat
def tw9796839500863504016:=Nat
def tw6755292854170507062:=Nat
def tw5197236607609714381:=Nat
def tw18410145165808490854:=Nat
def tw14486617466450950804:=Nat
def tw16878506447816442408:=Nat
def tw1109603165081285843:=Nat
def tw6645052532245881464:=Nat
def tw2434970787016085850:=Nat
def tw14103824280087643087:=Nat
def tw11042950899857831292:=Nat
def tw14399025890295173261:=Nat
def tw8841305147972468454:=Nat
def tw8513681031108029049:=Nat
def tw11444058913760854166:=Nat
def tw16361572321768567707:=Nat
def tw16674037445592862753:=Nat
def tw9117724579503294112:=Nat
def tw5892027344894968248:=Nat
def tw1172963036656736121:=Nat
def tw9179050079966667073:=Nat
def tw6273642467758334800:=Nat
def tw3395407044686412710:=Nat
def tw16151841888966881345:=Nat
def tw6290643466592386092:=Nat
def tw3107880057448394019:=Nat
def tw16004971382103996121:=Nat
def tw8563649194003481055:=Nat
def tw1494107087367599654:=Nat
def tw15787297523552577944:=Nat
def tw17562755814263293354:=Nat
def tw15504285165178058665:=Nat
def tw6959568930723689825:=Nat
def tw2454947656431823626:=Nat
def tw1152298100127756867:=Nat
def tw11088302025380118640:=Nat
def tw4590361699350574457:=Nat
def tw597469137260884438:=Nat
def tw8803913652862237312:=Nat
def tw11601233533935641141:=Nat
def tw14555484489684699759:=Nat
def tw14634931052771504858:=Nat
def tw12934117122426422461:=Nat
def tw45684387702271824:=Nat
def tw16316195841715054941:=Nat
def tw9168803983944432176:=Nat
def tw6439686955672594789:=Nat
def tw12761434495788599986:=Nat
def tw10097860154374688394:=Nat
def tw8922015367052344629:=Nat
def tw285815924343579861:=Nat
def tw1489826868630639960:=Nat
def tw16439058444918199752:=Nat
def tw7600765937005837775:=Nat
def tw11432904239789199392:=Nat
def tw8919581679421831204:=Nat
def tw5607385569128975291:=Nat
def tw12793269918701877369:=Nat
def tw5699628987690879227:=Nat
def tw8824642095273032164:=Nat
def tw10176080049469311879:=Nat
def tw7735692832931135444:=Nat
def tw13682981674224832223:=Nat
def tw17008529703080296054:=Nat
def tw12136263678123290851:=Nat
def tw15072330648669037310:=Nat
def tw539379218026123026:=Nat
def tw7371390052995187564:=Nat
def tw13196644812717234591:=Nat
def tw15801588196243675683:=Nat
def tw16044413244599709175:=Nat
def tw14856931069198102540:=Nat
def tw8139307233508817753:=Nat
def tw1587337285129319115:=Nat
def tw14477162344224194446:=Nat
def tw17971100131727917229:=Nat
def tw756853556689795186:=Nat
def tw8725870286749335958:=Nat
def tw9718687157224562581:=Nat
def tw14820536439267652140:=Nat
def tw7651893056601108780:=Nat
def tw3654428847811982722:=Nat
def tw4496146410998127098:=Nat
def tw4565083525616894379:=Nat
def tw2408751688564628881:=Nat
def tw15550083333009439408:=Nat
def tw9134425484239659949:=Nat
def tw302738716920347895:=Nat
def tw16834344609389844046:=Nat
def tw8928467390314929800:=Nat
def tw2843494059513709575:=Nat
def tw5644574770938716391:=Nat
def tw12119239669200791233:=Nat
def tw11782807942763394135:=Nat
def tw14657163800765905932:=Nat
def tw15391646331813292306:=Nat
def tw16902694120257037546:=Nat
def tw10657425757838949117:=Nat
def tw11044857757696658397:=Nat
def tw9288591504164937490:=Nat
def tw4017976127037834947:=Nat
def tw3516520503507536508:=Nat
def tw5749094392008207192:=Nat
def tw7518169682288912351:=Nat
def tw2424335950918407561:=Nat
def tw8128945174543448961:=Nat
def tw1975593485771954969:=Nat
def tw8486374991359072159:=Nat
def tw15006670741010459256:=Nat
def tw3036450894854323019:=Nat
def tw2447085727120204037:=Nat
def tw14091334032690476056:=Nat
def tw16092617056180763000:=Nat
def tw16525305416752749003:=Nat
def tw18123542304326151064:=Nat
def tw10180905511189345651:=Nat
def tw1543905041458591271:=Nat
def tw15289153355088955640:=Nat
def tw10170088179466684963:=Nat
def tw2517992921400160394:=Nat
def tw17514348434479812993:=Nat
def tw15934644545103074605:=Nat
def tw2548436238731561066:=Nat
def tw10453310933661024474:=Nat
def tw10518353308793263896:=Nat
def tw4959206751944065410:=Nat
def tw10428423531477736765:=Nat
def tw17732834267421580454:=Nat
def tw14658642756056933969:=Nat
def tw15525301278629767558:=Nat
def tw11125081910974882395:=Nat
def tw12671299674395796116:=Nat
def tw5188219814488212606:=Nat
def tw13123363399886128930:=Nat
def tw9303703391522684319:=Nat
def tw3142493986769434487:=Nat
def tw11288707970427871281:=Nat
def tw6049806982302274375:=Nat
def tw10300403672678433074:=Nat
def tw4251970626272612381:=Nat
def tw10436217372314334988:=Nat
def tw16437301017984577027:=Nat
def tw11314219829578562441:=Nat
def tw5286634975674543376:=Nat
def tw1412378660992270226:=Nat
def tw18138470861532832382:=Nat
def tw11631719744283726168:=Nat
def tw4457653810396721108:=Nat
def tw534392742086824065:=Nat
def tw1801446415412377825:=Nat
def tw15342979231520304870:=Nat
def tw927796649649847775:=Nat
def tw17518359954585283104:=Nat
def tw7318466741174395155:=Nat
def tw16143435159025227002:=Nat
def tw8075253037357423243:=Nat
def tw16866673495350702604:=Nat
def tw9150868457075883354:=Nat
def tw8527372095517700941:=Nat
def tw18027159263023240845:=Nat
def tw13074310924405927720:=Nat
def tw11637128283428295945:=Nat
def tw13196736351435583142:=Nat
def tw14064220158037503929:=Nat
def tw3454859525778779114:=Nat
def tw313951277129558417:=Nat
def tw3524761996640397414:=Nat
def tw14018630613600295427:=Nat
def tw14164658525154530041:=Nat
def tw1135246366632680856:=Nat
def tw5825396030530731731:=Nat
def tw12386081130976770245:=Nat
def tw12768028379570356979:=Nat
def tw7417348494511079670:=Nat
def tw15319353378198685664:=Nat
def tw3829845350942903241:=Nat
def tw3902020230729986697:=Nat
def tw11108908359842186672:=Nat
def tw5906711605543699175:=Nat
def tw2726119690374445420:=Nat
def tw9349107645472463114:=Nat
def tw8364645147297117191:=Nat
def tw17876081381586208738:=Nat
def tw18108156997950353470:=Nat
def tw8640669990279163592:=Nat
def tw9448061786947429620:=Nat
def tw796154596214970358:=Nat
def tw11577755105992291083:=Nat
def tw4402395419165689668:=Nat
def tw17161939835468294337:=Nat
def tw17080439832268426636:=Nat
def tw12995742088208388462:=Nat
def tw11392009993106950143:=Nat
def tw1293442692746843567:=Nat
def tw11350774890071613258:=Nat
def tw17664112468568253868:=Nat
def tw4807912193863264448:=Nat
def tw2706828559327604024:=Nat
def tw2226785721322685287:=Nat
def tw10108695092799506443:=Nat
def tw207425341248001522:=Nat
def tw11824065576890565999:=Nat
def tw4766346338917171840:=Nat
def tw4825455100491915486:=Nat
def tw10143398715269018496:=Nat
def tw17035152707477914992:=Nat
def tw17909218767778769128:=Nat
def tw16448096893446177080:=Nat
def tw4094476056065869114:=Nat
def tw13982513473651252109:=Nat
def tw3022137257989674453:=Nat
def tw3714844330332275695:=Nat
def tw7299887103989286863:=Nat
def tw3652782522146966904:=Nat
def tw9138317326855334012:=Nat
def tw183333469308357476:=Nat
def tw6761516399941892170:=Nat
def tw2712896928108531565:=Nat
def tw2429184321823569203:=Nat
def tw1274779144648295793:=Nat
def tw9031762558085426799:=Nat
def tw10147300275847719350:=Nat
def tw267691788036451816:=Nat
def tw3168357759985800455:=Nat
def tw4741842633117176332:=Nat
def tw6628691031835981229:=Nat
def tw11061773628493205999:=Nat
def tw8654635923770416452:=Nat
def tw3684645855127052990:=Nat
def tw3810937656534496917:=Nat
def tw6039437473979783766:=Nat
def tw17709146742393269870:=Nat
def tw16031722272489674594:=Nat
def tw15689391012263709757:=Nat
def tw18273270176351803349:=Nat
def tw16471800508247310024:=Nat
def tw10281648100560407817:=Nat
def tw17471698110191881634:=Nat
def tw17214540474154105336:=Nat
def tw17284253066781504496:=Nat
def tw13078369495553524827:=Nat
def tw8666207939586345860:=Nat
def tw13467209706504272750:=Nat
def tw14542052572587962311:=Nat
def tw10595342798877355800:=Nat
def tw17741484045595234857:=Nat
def tw10481141725951778682:=Nat
def tw18191953863728429421:=Nat
def tw12365593916122879857:=Nat
def tw13987497107369262073:=Nat
def tw12655694133792308959:=Nat
def tw13523697041362321149:=Nat
def tw17279774098176516699:=Nat
def tw15813269771678881224:=Nat
def tw14518140312334123789:=Nat
def tw15889741850145605825:=Nat
def tw10630491635101990267:=Nat
def tw13111513832744871252:=Nat
def tw8865241748934709901:=Nat
def tw15016742812271219598:=Nat
def tw5098229067535150966:=Nat
def tw5652062281527798700:=Nat
def tw14642595591826479552:=Nat
def tw14670119854660682399:=Nat
def tw15250616904834006225:=Nat
def tw10129855360920134183:=Nat
def tw129974407351858100:=Nat
def tw1886908278080223606:=Nat
def tw10232910456066985734:=Nat
def tw2973380694923145648:=Nat
def tw15977088515231457461:=Nat
def tw12068396735619534186:=Nat
def tw6021178076143839318:=Nat
def tw10592870221020975:=Nat
def tw9130504242130746998:=Nat
def tw17809699924537101506:=Nat
def tw14761605756272159692:=Nat
def tw5039684874638184906:=Nat
def tw16607890375324500912:=Nat
def tw7415078623382881776:=Nat
def tw344791729756690843:=Nat
def tw8296905463090328723:=Nat
def tw12893413149076204307:=Nat
def tw6989827132242514007:=Nat
def tw265497829567626848:=Nat
def tw14601938738328741905:=Nat
def tw2646351087495550474:=Nat
def tw13134366721598871630:=Nat
def tw1886190968839551163:=Nat
def tw484128766903731778:=Nat
def tw5795614316151683860:=Nat
def tw7244049624999035855:=Nat
def tw10300076668612951941:=Nat
def tw12561662084507722572:=Nat
def tw8911419679646999891:=Nat
def tw6392380501473869026:=Nat
def tw9929486984075593501:=Nat
def tw10161497097784215011:=Nat
def tw5974735463987362391:=Nat
def tw16118618773213206533:=Nat
def tw8195083469307152836:=Nat
def tw11941383753599273130:=Nat
def tw1967164945648235653:=Nat
def tw10875297160428619053:=Nat
def tw16997386455967535521:=Nat
def tw2990441382381289879:=Nat
def tw12516896929396521794:=Nat
def tw11079861880431283255:=Nat
def tw16540572553055455966:=Nat
def tw12181605247103646064:=Nat
def tw13876624209559695803:=Nat
def tw10137937158984040923:=Nat
def tw14782544207156615546:=Nat
def tw12345258203578535943:=Nat
def tw2326504799653406241:=Nat
def tw11642744245310316390:=Nat
def tw3332127641483724822:=Nat
def tw4045945646912302063:=Nat
def tw6317323978606376691:=Nat
def tw17955975322030666381:=Nat
def tw16916722745853873968:=Nat
def tw12413371817900736127:=Nat
def tw12033910762455676775:=Nat
def tw1338010470778942765:=Nat
def tw9899452582927479189:=Nat
def tw13183193707624446112:=Nat
def tw4844016340307198756:=Nat
def tw4239449324821838319:=Nat
def tw12685041666448730305:=Nat
def tw16665203939503542637:=Nat
def tw8774227944200846395:=Nat
def tw9893676149378700165:=Nat
def tw826720536968619946:=Nat
def tw16603990499283662694:=Nat
def tw17554883719560100054:=Nat
def tw7868423929607962804:=Nat
def tw15463777972309483949:=Nat
def tw6594487409633875922:=Nat
def tw17107648124709684793:=Nat
def tw928697095242497624:=Nat
def tw5106767917858339549:=Nat
def tw3384806298304501255:=Nat
def tw2191983557171468263:=Nat
def tw9746242978984604131:=Nat
def tw13888954455852736975:=Nat
def tw1491333494866499666:=Nat
def tw13131986421088584595:=Nat
def tw11035805143263274039:=Nat
def tw15436041324993059169:=Nat
def tw7081225176927166075:=Nat
def tw12285504293847078258:=Nat
def tw9329862247325152052:=Nat
def tw17952962495917637865:=Nat
def tw7822647053551712308:=Nat
def tw5902197046230961435:=Nat
def tw7192732805581857679:=Nat
def tw3719940881506893100:=Nat
def tw15890663302740724756:=Nat
def tw18113569818894078653:=Nat
def tw7848157964073021118:=Nat
def tw11230912977105508661:=Nat
def tw9637888907744787856:=Nat
def tw1342801426839225918:=Nat
def tw102639243710512212:=Nat
def tw1980587018743377715:=Nat
def tw13918302613713048616:=Nat
def tw17819574585858265437:=Nat
def tw12676098322541964081:=Nat
def tw1355557519318509211:=Nat
def tw1712724186437898297:=Nat
def tw13868100763904218069:=Nat
def tw14344759840866566111:=Nat
def tw7858507654029431839:=Nat
def tw9740879016744723837:=Nat
def tw15595074842090670373:=Nat
def tw18232418414115607770:=Nat
def tw363116084004035008:=Nat
def tw994524200777466880:=Nat
def tw14035650467523686105:=Nat
def tw8992679744151100407:=Nat
def tw9043397612875560962:=Nat
def tw16040840066833433639:=Nat
def tw10457846626402250126:=Nat
def tw14736252710082971640:=Nat
def tw9181818590518376367:=Nat
def tw17664986967011857580:=Nat
def tw11157136546288806890:=Nat
def tw13062403612238913442:=Nat
def tw15699623214087449547:=Nat
def tw10665895404809903161:=Nat
def tw12447499031378172098:=Nat
def tw1010021521921772125:=Nat
def tw10616217142614349432:=Nat
def tw10404509972243886487:=Nat
def tw3087951745519630690:=Nat
def tw15635220986225290252:=Nat
def tw12903376117816141258:=Nat
def tw11131526182613116208:=Nat
def tw5951324942623858818:=Nat
def tw8008301811029296522:=Nat
def tw17252254404308082575:=Nat
def tw12324748594783208142:=Nat
def tw10495418553273454088:=Nat
def tw4717399641626213240:=Nat
def tw18232642264506801169:=Nat
def tw15355370668919583595:=Nat
def tw13690682185940281711:=Nat
def tw15212791711303010923:=Nat
def tw4229569945198712227:=Nat
def tw9437576454716059473:=Nat
def tw11514601531323610397:=Nat
def tw11571220329322837261:=Nat
def tw13371530153212481109:=Nat
def tw18106299440338387284:=Nat
def tw10075458760175083724:=Nat
def tw5737393245096572957:=Nat
def tw4765805793523921521:=Nat
def tw5333844372557542480:=Nat
def tw5964665299905430674:=Nat
def tw7065580221018370352:=Nat
def tw6046672239577176023:=Nat
def tw17973126119832860697:=Nat
def tw10323692345642878706:=Nat
def tw2137339176729891737:=Nat
def tw16870731254248335395:=Nat
def tw2404273939547903107:=Nat
def tw3016324431388912110:=Nat
def tw5084623353373300124:=Nat
def tw15665336443213125135:=Nat
def tw7237292733132948210:=Nat
def tw14625794973518755093:=Nat
def tw10697372539051062659:=Nat
def tw16544698785772892616:=Nat
end PySem.W.Fast
section
namespace L2
open PySem PySem.Spec PyProof.Rows
abbrev Key:=Sum Int y'
def dR:Key->KB->Bool
 | .inl k,v=>Value.isInt k v
 | .inr x,v=>Value.isStrOf x v
def keyH(w:PP):Key->Int
 | .inl k=>hashInt k
 | .inr x=>hashStr w x
def keyIs_shape:∀ {k:Key} {v:KB},dR k v=true->(∃ i t,k=Sum.inl i/\v=Value.int i t)\/(∃ x t,k=Sum.inr x/\v=Value.str x t)
 | .inl i,v,h=>by
  obtain⟨t,e⟩:=Value.isInt_shape (k:=i) (v:=v) h;exact .inl ⟨i,t,rfl,e⟩
 | .inr x,v,h=>by
  obtain⟨t,e⟩:=Value.isStrOf_shape (x:=x) (v:=v) h;exact .inr ⟨x,t,rfl,e⟩
def sW(i:Int)(t:Tok):dR (.inl i) (.int i t)=true:=by simp[dR,Value.isInt]
def sX(x:y')(t:Tok):dR (.inr x) (.str x t)=true:=by simp[dR,Value.isStrOf]
def sY(a b:Int):decide ((Sum.inl a:Key)=Sum.inl b)=(a==b):=by
 by_cases e:a=b
 .subst e;simp
 .have h:¬ (Sum.inl a:Key)=Sum.inl b:=λq=>e (Sum.inl.inj q);rw[decide_eq_false h];exact(beq_eq_false_iff_ne.mpr e).symm
def sZ(a b:y'):decide ((Sum.inr a:Key)=Sum.inr b)=decide (a=b):=by
 by_cases e:a=b
 .subst e;simp
 .have h:¬ (Sum.inr a:Key)=Sum.inr b:=λq=>e (Sum.inr.inj q);rw[decide_eq_false h,decide_eq_false e]
def tf(a:Int)(b:y'):decide ((Sum.inl a:Key)=Sum.inr b)=false:=decide_eq_false (λq=>nomatch q)
def tm(a:y')(b:Int):decide ((Sum.inr a:Key)=Sum.inl b)=false:=decide_eq_false (λq=>nomatch q)
def bC(prog:PH)(w:PP):PySem.KeyKind prog w Key where
 is:=dR
 hash:=keyH w
 inj:=λv a b ha hb=>by
  rcases keyIs_shape ha with⟨i,t,rfl,rfl⟩|⟨x,t,rfl,rfl⟩
  .rcases keyIs_shape hb with⟨j,u,rfl,e⟩|⟨y,u,rfl,e⟩
   .injection e with e1 _;rw[e1]
   .exact nomatch e
  .rcases keyIs_shape hb with⟨j,u,rfl,e⟩|⟨y,u,rfl,e⟩
   .exact nomatch e
   .injection e with e1 _;rw[e1]
 byValue:=λk v h=>by
  rcases keyIs_shape h with⟨i,t,rfl,rfl⟩|⟨x,t,rfl,rfl⟩<;>rfl
 pyHash:=λhv h=>by
  rcases keyIs_shape hv with⟨i,t,rfl,rfl⟩|⟨x,t,rfl,rfl⟩
  .exact wpAny_pyHash_int h
  .exact wpAny_pyHash_str h
 eqBool:=λhu hv h=>by
  rcases keyIs_shape hu with⟨i,t,rfl,rfl⟩|⟨x,t,rfl,rfl⟩
  .rcases keyIs_shape hv with⟨j,u,rfl,rfl⟩|⟨y,u,rfl,rfl⟩
   .rw[sY] at h;exact wpAny_eqBool_int h
   .rw[tf] at h;exact SeqAt.EqAt.int_str i t y u _ _ _ _ h
  .rcases keyIs_shape hv with⟨j,u,rfl,rfl⟩|⟨y,u,rfl,rfl⟩
   .rw[tm] at h;exact SeqAt.EqAt.str_int x t j u _ _ _ _ h
   .rw[sZ] at h;exact wpAny_eqBool_str h
 «strs»:=λk x t v h=>by
  rcases keyIs_shape h with⟨i,u,rfl,e⟩|⟨y,u,rfl,e⟩
  .exact nomatch e
  .injection e with e1 _;subst e1;cases v<;>rfl
def mixKind_int(prog:PH)(w:PP)(i:Int)(t:Tok):(bC prog w).is (.inl i) (.int i t)=true:=sW i t
def tw(prog:PH)(w:PP)(x:y')(t:Tok):(bC prog w).is (.inr x) (.str x t)=true:=sX x t
inductive V where
 |non|bl (b:Bool)|int (i:Int)|str (x:Str)|byt (b:Array UInt8)|flt (b:UInt64)|ref (a:KF)|ty (n:String)
 deriving DecidableEq
def RelV:V->KB->Prop
 | .non,u=>u=Value.none
 | .bl b,u=>u=Value.bool b
 | .int i,u=>∃ t,u=Value.int i t
 | .str x,u=>∃ t,u=Value.str x t
 | .byt b,u=>∃ t,u=Value.bytes b t
 | .flt b,u=>∃ t,u=Value.float b t
 | .ref a,u=>u=Value.ref a
 | .ty n,u=>u=Value.type n
abbrev Vals:List V->List KB->Prop:=Paired RelV
variable{xs:List V}{us:List KB}
def Vals.length(r:Vals xs us):xs.length=us.length:=Paired.length r
def Vals.get:∀ {xs:List V} {us:List KB} {i:Nat} {x:V},Vals xs us->xs[i]?=be x->∃ u,us[i]?=be u/\RelV x u
 |_,_,_,_,.nil,e=>by simp at e
 |_,_,0,_,.cons r _,e=>by simp at e;subst e;exact⟨_,rfl,r⟩
 |_,_,i+1,x,.cons _ t,e=>by
  obtain⟨u,h1,h2⟩:=Vals.get (i:=i) (x:=x) t (by simpa using e);exact⟨u,by simpa using h1,h2⟩
def Vals.set{x:V}{u:KB}(r:RelV x u):∀ {xs:List V} {us:List KB} (i:Nat),Vals xs us->Vals (xs.set i x) (us.set i u)
 |_,_,_,.nil=> .nil
 |_,_,0,.cons _ t=> .cons r t
 |_,_,i+1,.cons q t=> .cons q (Vals.set r i t)
def Vals.append:∀ {xs ys:List V} {us ws:List KB},Vals xs us->Vals ys ws->Vals (xs++ys) (us++ws):=by
 intro xs ys us ws h s;induction h with
 |nil=>exact s
 |cons r _ e=>exact .cons r e
def Vals.take:∀ {xs:List V} {us:List KB} (n:Nat),Vals xs us->Vals (xs.take n) (us.take n)
 |_,_,0,_=> .nil
 |_,_,_+1,.nil=> .nil
 |_,_,n+1,.cons r t=> .cons r (Vals.take n t)
def Vals.drop:∀ {xs:List V} {us:List KB} (n:Nat),Vals xs us->Vals (xs.drop n) (us.drop n)
 |_,_,0,r=>r
 |_,_,_+1,.nil=> .nil
 |_,_,n+1,.cons _ t=>Vals.drop n t
def RelO:Option V->Option KB->Prop
 |some v,be u=>RelV v u
 |none,o_=>True
 |_,_=>False
def KV{κ:Type}:List (κ × V)->List (κ × KB)->Prop:=Paired λ(p:κ × V) (q:κ × KB)=>p.1=q.1/\RelV p.2 q.2
def kV:Key->V
 | .inl i=> .int i
 | .inr x=> .str x
inductive HO where
  |lst (xs:List V)
  |tup (xs:List V)
  |dK (a8:List (Key × V))|dT (a8:List (List Key × V))
  |set (S:Int->Bool) (n:Nat)
  |ins (C dx:KF) (fs:List (y' × V))
  |own (x:KF)
  |xd (fs:List (y' × V))
  |met (f x:KF)
  |rng (lo hi:Int)
  |frz (o:P7) (u:HO)
  |tbl (ps:Array KB)
  |ext (φ:Heap->Prop)
abbrev Hp:=KF->Option HO
def upd(H:Hp)(a:KF)(o:HO):Hp:=λb=>if b=a then be o else H b
variable{H:Hp}{a:KF}{o:HO}
def ax:upd H a o a=be o:=by unfold upd;rw[if_pos rfl]
variable{b:KF}
def aq(h:b≠a):upd H a o b=H b:=by unfold upd;rw[if_neg h]
def tz{u:HO}(h:H a=be o)(h':H b=be u)(d:o≠u):a≠b:=by
 intro e;subst e;rw[h] at h';exact d (Option.some.inj h')
def bL(h:H a=be o)(h':H b=o_):a≠b:=by
 intro e;subst e;rw[h] at h';cases h'
section
variable (P:PH)(w:PP)
def ObjOk(H:Hp)(h:Heap)(a:KF):HO->Prop
 | .lst xs=>xs.length<=sizeLine/\∃ (its:List KB) (n:Nat),Vals xs its/\h.get? a=be {cls:= .type "list",data:= .seq its.toArray n}
 | .tup xs=>xs.length<=sizeLine/\∃ its:List KB,Vals xs its/\IsTup h a its.toArray
 | .dK a8=>a8.length<=sizeLine/\(a==Qa)=false/\∃ vs,KV a8 vs/\h.DictOf (bC P w) a vs
 | .dT a8=>a8.length<=sizeLine/\(a==Qa)=false/\∃ xs:List (List Key × KF × KB),
   Paired (λ(p:List Key × V) (q:List Key × KF × KB)=>p.1=q.1/\H q.2.1=be (.tup (p.1.map kV))/\RelV p.2 q.2.2) a8 xs/\
   ∃ o es ep,h.get? a=be o/\o.ExactDict/\o.data= .dict es ep/\es.toList=xs.map (entryOfKey (Qx (bC P w)))/\(xs.map (·.1)).Nodup
 | .set S n=>h.SetOf (intKind P w) a S n
 | .ins C dx fs=>H dx=be (.own a)/\fs.length<=1000/\dx≠a/\h.get? a=be (instObj C dx)/\
   ∃ mA,h.Ns1 dx mA/\(∀ f,RelO (fs.lookup f) (mA f))/\PySem.Within mA (fs.map (·.1))
 | .own _=>∃ o,h.get? a=be o
 | .xd fs=>∃ mA,h.Ns1 a mA/\∀ f,RelO (fs.lookup f) (mA f)
 | .rng lo hi=>∃ t u v,h.get? a=be {cls:= .type "range",data:= .fields #[.int lo t,.int hi u,.int 1 v]}
 | .frz o u=>h.get? a=be o/\ObjOk H h a u
 | .tbl ps=>h.get? a=be {cls:= .none,data:= .fields ps}
 | .met f x=>h.get? a=be (methodObj (.ref f) (.ref x))
 | .ext φ=>φ h/\(∃ o,h.get? a=be o)/\∀ h1 h2:Heap,φ h1->(∀ o,h1.get? a=be o->h2.get? a=be o)->φ h2
def HOk(H:Hp)(h:Heap):Prop:=∀ a o,H a=be o->ObjOk P w H h a o
end
section
variable {P:PH}{w:PP}{H H':Hp}{h h':Heap}{a:KF}{o:HO}
def ObjOk.lt(x:ObjOk P w H h a o):a<h.objs.size:=by
 cases o with
 |lst xs=>obtain⟨_,_,_,_,e⟩:=x;exact Heap.lt_size e
 |tup xs=>obtain⟨_,_,_,p⟩:=x;exact p.lt
 |dK a8=>obtain⟨_,_,_,_,o,_,_,e,_⟩:=x;exact Heap.lt_size e
 |dT a8=>obtain⟨_,_,_,_,o,_,_,e,_⟩:=x;exact Heap.lt_size e
 |set S n=>obtain⟨o,_,_,_,e,_⟩:=x;exact Heap.lt_size e
 |ins C dx fs=>obtain⟨_,_,_,e,_⟩:=x;exact Heap.lt_size e
 |own y=>obtain⟨_,e⟩:=x;exact Heap.lt_size e
 |xd fs=>obtain⟨_,⟨_,_,_,e,_⟩,_⟩:=x;exact Heap.lt_size e
 |rng lo hi=>obtain⟨_,_,_,e⟩:=x;exact Heap.lt_size e
 |frz ob u=>obtain⟨e,_⟩:=x;exact Heap.lt_size e
 |tbl ps=>exact Heap.lt_size (show h.get? a=be _ from x)
 |met f y=>exact Heap.lt_size (show h.get? a=be _ from x)
 |ext φ=>obtain⟨_,⟨_,e⟩,_⟩:=x;exact Heap.lt_size e
def Paired.mapP{α β:Type}{F G:α->β->Prop}:∀ {l₁:List α} {l₂:List β},Paired F l₁ l₂->(∀ a b,F a b->G a b)->Paired G l₁ l₂:=by
 intro l₁ l₂ h f;induction h with
 |nil=>exact .nil
 |cons r _ e=>exact .cons (f _ _ r) e
def ObjOk.stay(x:ObjOk P w H h a o)(k:∀ b u,(b=a\/H b=be (.own a))->h.get? b=be u->h'.get? b=be u)
  (ho:∀ b,H b=be (.own a)->H' b=be (.own a)) (ht:∀ b xs,H b=be (.tup xs)->H' b=be (.tup xs)):ObjOk P w H' h' a o:=by
 induction o with
 |lst xs=>obtain⟨z,its,n,r,e⟩:=x;exact⟨z,its,n,r,k _ _ (.inl rfl) e⟩
 |tup xs=>obtain⟨z,its,r,ob,e,c⟩:=x;exact⟨z,its,r,ob,k _ _ (.inl rfl) e,c⟩
 |dK a8=>obtain⟨z,y,vs,r,ob,es,ep,e,c⟩:=x;exact⟨z,y,vs,r,ob,es,ep,k _ _ (.inl rfl) e,c⟩
 |dT a8=>
  obtain⟨z,y,xs,r,ob,es,ep,e,c⟩:=x;exact⟨z,y,xs,Paired.mapP r λp q z=>⟨z.1,ht _ _ z.2.1,z.2.2⟩,ob,es,ep,k _ _ (.inl rfl) e,c⟩
 |set S n=>obtain⟨ob,es,ep,t,e,c⟩:=x;exact⟨ob,es,ep,t,k _ _ (.inl rfl) e,c⟩
 |ins C dx fs=>
  obtain⟨d,z,ne,e,mA,⟨od,es,ep,e2,c⟩,r⟩:=x;exact⟨ho _ d,z,ne,k _ _ (.inl rfl) e,mA,⟨od,es,ep,k _ _ (.inr d) e2,c⟩,r⟩
 |own y=>obtain⟨ob,e⟩:=x;exact⟨ob,k _ _ (.inl rfl) e⟩
 |xd fs=>obtain⟨mA,⟨od,es,ep,e,c⟩,r⟩:=x;exact⟨mA,⟨od,es,ep,k _ _ (.inl rfl) e,c⟩,r⟩
 |rng lo hi=>obtain⟨t,u,v,e⟩:=x;exact⟨t,u,v,k _ _ (.inl rfl) e⟩
 |frz ob u ih=>obtain⟨e,q⟩:=x;exact⟨k _ _ (.inl rfl) e,ih q⟩
 |tbl ps=>
  have e:h.get? a=be {cls:= .none,data:= .fields ps}:=x;show h'.get? a=be {cls:= .none,data:= .fields ps};exact k a _ (.inl rfl) e
 |met f y=>
  have e:h.get? a=be (methodObj (.ref f) (.ref y)):=x;show h'.get? a=be (methodObj (.ref f) (.ref y));exact k a _ (.inl rfl) e
 |ext φ=>obtain⟨p,⟨o,e⟩,st⟩:=x;exact⟨st _ _ p λo q=>k _ _ (.inl rfl) q,⟨o,k _ _ (.inl rfl) e⟩,st⟩
def HOk.lt(x:HOk P w H h)(e:H a=be o):a<h.objs.size:=(x a o e).lt
def HOk.fresh(x:HOk P w H h)(e:h.objs.size<=a):H a=none:=by
 cases q:H a with
 |none=>rfl
 |some u=>exact absurd (Ez (x.lt q) e) (E7 _)
def HOk.kept(x:HOk P w H h)(k:∀ b u,h.get? b=be u->h'.get? b=be u):HOk P w H h':=λa o e=>
 (x a o e).stay (λb u _ q=>k b u q) (λ_ q=>q) λ_ _ q=>q
def HOk.laid(x:HOk P w H h)(k:∀ b u,h.get? b=be u->h'.get? b=be u)(hp:h.objs.size<=a)(new:ObjOk P w (upd H a o) h' a o):HOk P w (upd H a o) h':=λb u e=>by
 have hn:=x.fresh hp;by_cases hb:b=a
 .subst hb;rw[ax] at e;cases e;exact new
 .rw[aq hb] at e;exact(x b u e).stay (λc v _ q=>k c v q) (λc q=>by rw[aq (bL q hn)];exact q) λc xs q=>by rw[aq (bL q hn)];exact q
end
def Rd(H:Hp)(a:KF)(u:HO):Prop:=H a=be u\/∃ o,H a=be (.frz o u)
def Rd.of{u:HO}(h:H a=be u):Rd H a u:= .inl h
variable{P:PH}{w:PP}{h:Heap}
def Rd.ok{u:HO}(r:Rd H a u)(x:HOk P w H h):ObjOk P w H h a u:=by
 rcases r with r|⟨o,r⟩
 .exact x a u r
 .obtain⟨_,q⟩:=x a _ r;exact q
def Mut:Option HO->Prop
 |some (.lst _)=>True
 |some (.dK _)=>True
 |some (.dT _)=>True
 |some (.set _ _)=>True
 |some (.ins _ _ _)=>True
 |some (.ext _)=>True
 |_=>False
section
variable {P:PH}{w:PP}{H:Hp}{h h':Heap}{x e:KF}{o':HO}
def HOk.write(ok:HOk P w H h)(mu:Mut (H x))(he:e=x\/H e=be (.own x))(k:∀ b u,b≠e->h.get? b=be u->h'.get? b=be u)(x8:∃ u,h'.get? e=be u)
  (new:ObjOk P w (upd H x o') h' x o'):HOk P w (upd H x o') h':=λb u q=>by
 have IJ:∀ c y,H c=be (.own y)->c≠x:=λc y r z=>by subst z;rw[r] at mu;exact mu
 have Kw:∀ c xs,H c=be (.tup xs)->c≠x:=λc xs r z=>by subst z;rw[r] at mu;exact mu
 by_cases hb:b=x
 .subst hb;rw[ax] at q;cases q;exact new
 .rw[aq hb] at q;by_cases HL:b=e
  .have q':H b=be (.own x):=by
    rcases he with z|z
    .exact absurd (HL.trans z) hb
    .rw[HL];exact z
   rw[q] at q';cases q';obtain⟨v,hv⟩:=x8;exact⟨v,by rw[HL];exact hv⟩
  .refine(ok b u q).stay (λc v hc r=>k c v ?_ r) (λc r=>by rw[aq (IJ c b r)];exact r) λc xs r=>by rw[aq (Kw c xs r)];exact r
   rcases hc with rfl|hc
   .exact HL
   .rintro rfl;rcases he with z|z
    .exact IJ c b hc z
    .rw[hc] at z;cases z;exact hb rfl
end
structure Un(fs ex:List KF)(H H':Hp)(h h':Heap):Prop where
 keep:∀ b o,h.get? b=be o->H b=o_->b ∉ fs->b ∉ ex->h'.get? b=be o
 slot:∀ b o,h.get? b=be o->H b=o_->b∈fs->b ∉ ex->∃ sl,h'.get? b=be {o with slots:=sl}
 free:∀ b o,h.get? b=be o->H b=o_->b ∉ ex->H' b=o_
 there:∀ b o,h.get? b=be o->b ∉ ex->∃ o',h'.get? b=be o'
 tups:∀ b xs,H b=be (.tup xs)->H' b=be (.tup xs)
 frzs:∀ b o u,H b=be (.frz o u)->H' b=be (.frz o u)
 tbls:∀ b ps,H b=be (.tbl ps)->∃ more,H' b=be (.tbl (ps++more))
section
variable {fs n_ ex IK:List KF}{H H1 H2:Hp}{h h1 h2 h':Heap}{a x e:KF}{o:HO}
def Un.any(u:Un fs ex H H1 h h1){b:KF}{ob:P7}(q:h.get? b=be ob)(n:H b=o_)(hx:b ∉ ex):∃ sl,h1.get? b=be {ob with slots:=sl}:=by
 by_cases hb:b∈fs
 .exact u.slot b ob q n hb hx
 .exact⟨ob.slots,u.keep b ob q n hb hx⟩
def Un.trans(a:Un fs ex H H1 h h1)(b:Un fs ex H1 H2 h1 h2):Un fs ex H H2 h h2 where
 keep:=λc ob q n hc hx=>b.keep c ob (a.keep c ob q n hc hx) (a.free c ob q n hx) hc hx
 slot:=λc ob q n hc hx=>by
  obtain⟨sl,e1⟩:=a.slot c ob q n hc hx;obtain⟨u6,e2⟩:=b.slot c _ e1 (a.free c ob q n hx) hc hx;exact⟨u6,e2⟩
 free:=λc ob q n hx=>by
  obtain⟨o',e1⟩:=a.there c ob q hx;exact b.free c o' e1 (a.free c ob q n hx) hx
 there:=λc ob q hx=>by
  obtain⟨o',e1⟩:=a.there c ob q hx;exact b.there c o' e1 hx
 tups:=λc xs q=>b.tups c xs (a.tups c xs q)
 frzs:=λc ob xs q=>b.frzs c ob xs (a.frzs c ob xs q)
 tbls:=λc ps q=>by
  obtain⟨m1,e1⟩:=a.tbls c ps q;obtain⟨m2,e2⟩:=b.tbls c _ e1;exact⟨m1++m2,by rw[e2,Gz]⟩
def Un.kept(k:∀ b u,h.get? b=be u->h'.get? b=be u):Un fs ex H H h h':=
 ⟨λb ob q _ _ _=>k b ob q,λb ob q _ _ _=>⟨ob.slots,k b ob q⟩,λ_ _ _ n _=>n,λb ob q _=>⟨ob,k b ob q⟩,λ_ _ q=>q,λ_ _ _ q=>q,λ_ ps q=>⟨#[],by rw[q];simp⟩⟩
def Un.refl:Un fs ex H H h h:=Un.kept λ_ _ q=>q
def Un.laid(k:∀ b u,h.get? b=be u->h'.get? b=be u)(hp:h.objs.size<=a)(hn:H a=o_):Un fs ex H (upd H a o) h h' where
 keep:=λb u q _ _ _=>k b u q
 slot:=λb u q _ _ _=>⟨u.slots,k b u q⟩
 free:=λb u q n _=>by rw[aq (Eh (Ez (Heap.lt_size q) hp))];exact n
 there:=λb u q _=>⟨u,k b u q⟩
 tups:=λb xs q=>by rw[aq (bL q hn)];exact q
 frzs:=λb u xs q=>by rw[aq (bL q hn)];exact q
 tbls:=λb ps q=>⟨#[],by rw[aq (bL q hn),q];simp⟩
def Un.write(mu:Mut (H x))(he:e=x\/H e=be (.own x))(k:∀ b u,b≠e->h.get? b=be u->h'.get? b=be u)(x8:∃ u,h'.get? e=be u):Un fs ex H (upd H x o) h h':=by
 have hx:∀ b,H b=o_->b≠x:=λb n z=>by subst z;rw[n] at mu;exact mu
 have hb:∀ b,H b=o_->b≠e:=λb n z=>by
  subst z;rcases he with r|r
  .exact hx b n r
  .rw[n] at r;cases r
 have hm:∀ b u,H b=be u->¬ Mut (be u)->b≠x:=λb u q nm z=>by subst z;rw[q] at mu;exact nm mu
 refine⟨λb u q n _ _=>k b u (hb b n) q,λb u q n _ _=>⟨u.slots,k b u (hb b n) q⟩,λb u q n _=>by rw[aq (hx b n)];exact n,λb u q _=>?_,
  λb xs q=>by rw[aq (hm b _ q λz=>z)];exact q,λb u xs q=>by rw[aq (hm b _ q λz=>z)];exact q,λb ps q=>⟨#[],by rw[aq (hm b _ q λz=>z),q];simp⟩⟩
 by_cases HL:b=e
 .subst HL;exact x8
 .exact⟨u,k b u HL q⟩
end
def trk(h:Heap)(H:Hp):List KF:=(D9 h.objs.size).filter λa=>(H a).isSome
def hidT(h:Heap)(H:Hp):Heap:=hideAll h (trk h H)
def tD(h:Heap)(H:Hp):(hidT h H).objs.size=h.objs.size:=hideAll_size _ _
def tE{o:P7}(e:h.get? b=be o)(n:H b=o_):(hidT h H).get? b=be o:=
 hideAll_get _ e λhm=>by
  have q:(H b).isSome=true:=(GA.mp hm).2;rw[n] at q;simp at q
def tF{o:P7}(e:(hidT h H).get? b=be o):h.get? b=be o/\H b=none:=by
 have e':h.get? b=be o:=of_hideAll (trk h H) e;refine⟨e',?_⟩;cases q:H b with
 |none=>rfl
 |some x=>
  have hm:b∈trk h H:=GA.mpr ⟨List.mem_range.mpr (Heap.lt_size e'),by simp[q]⟩;have z:(hidT h H).get? b=none:=hideAll_none (trk h H) hm;rw[z] at e;cases e
def allNews(g h:Heap)(L:KF):List (KF × P7):=(D9 h.objs.size).filterMap λa=>if a=L\/(g.get? a).isSome=true then o_ else(h.get? a).map λo=>(a,o)
def rest(g h:Heap)(L d:KF):List (KF × P7):=(allNews g h L).filter λp=>decide (p.1≠d)
structure Mod(K:D6)(mg:Str->Option KB)(base:Heap):Prop where
 kin:K.In base
 glob:base.Ns Pi mg
 blt:∃ mb,base.Ns Ro mb/\∀ x:y',x≠"__name__"->mb x=P5 x
 nolimit:base.NoLimit
structure Cx where
 prog:PH
 w:PP
 K:D6
 mg:y'->Option KB
 base:Heap
 A:PQ
 N:List y'
 s₀:KM
 H₀:Hp
 env:Qs
 outer:List Qs
 stack:List Qs
 ex:List KF
 fn:y'->Bool
 calm:Bool
 pn:List (KF × P7)
 xe:KB->KM->Prop
abbrev zSE(X:Cx)(e:PJ)(es:List PJ):Prop:=PR (e::es) X.env=(false,PX e X.env)::PR es X.env
abbrev zPL(X:Cx)(p:P0)(es:List PJ):Prop:=(Qo p (PR es X.env)).any (·.1)=false
abbrev zHF(X:Cx)(p:P0)(es:List PJ):Prop:=((Qo p (PR es X.env)).all (λx=>!x.1) && (QH p (Qm [] X.env)).all (λx=>x.1.isSome) && decide (es.length+([]:List QI).length+(if([]:List QI).isEmpty then 0 else 1)<30))=true
abbrev zFN(X:Cx)(x:y'):Prop:=X.fn x=true\/X.env.scope.names.lookup x=be .local
abbrev zND(x:y'):Prop:=(x==("__debug__":y'))=false
abbrev zNC(x:y'):Prop:=(x==("__classdict__":y'))=false
abbrev zFS(X:Cx)(e:PJ)(y:KB):Prop:=Rt e X.env y=pure y
def frs(l:List Qs):List KF:=l.filterMap (·.frame)
abbrev Cx.fs(X:Cx):List KF:=frs X.outer
def Vis(sc:Qf)(x:y'):Prop:=sc.names.lookup x=be .local\/sc.names.lookup x=be .cell\/sc.names.lookup x=be .free
def Loc(sc:Qf)(x:y'):Prop:=sc.names.lookup x=be .local\/sc.names.lookup x=be .cell
def Look(env:Qs)(h:Heap)(m:y'->Option KB)(x:y')(u:KB):Prop:=
 (env.kindOf x=be .local/\m x=be u)\/((env.kindOf x=be .cell\/env.kindOf x=be .free)/\∃ c,env.cells.lookup x=be c/\h.IsCell c (be u))
structure Cx.Ok(X:Cx):Prop where
 mod:Mod X.K X.mg X.base
 kind:X.env.scope.kind= .function
 glob:X.env.globals=Pi
 blt:X.env.builtins=Ro
 above:X.s₀.heap.objs.size<=X.env.locals
 inj:∀ x y c,X.env.cells.lookup x=be c->X.env.cells.lookup y=be c->x=y
 has:∀ x,(X.env.kindOf x=be .cell\/X.env.kindOf x=be .free)->∃ c,X.env.cells.lookup x=be c
 cab:∀ x c,X.fn x=true->X.env.cells.lookup x=be c->X.s₀.heap.objs.size<=c
 hd:X.calm=true->X.A.handled=o_
 frames:X.A.frames=be X.stack
 stk:X.stack=X.outer\/(X.stack=X.env::X.outer/\X.env.frame=be X.env.locals)
 exf:∀ b∈X.ex,b≠X.env.locals/\∀ x c,X.env.cells.lookup x=be c->c≠b
 bs:∀ b o,X.base.get? b=be o->X.s₀.heap.get? b=be o/\X.H₀ b=o_
 bsz:X.base.objs.size<=X.s₀.heap.objs.size
 noex:∀ b o,X.base.get? b=be o->b ∉ X.ex
 exfs:∀ b∈X.ex,b ∉ X.fs
 funs:X.s₀.heap.FunFrames X.base X.outer
 frf:∀ b∈X.fs,X.H₀ b=o_
structure Inv(X:Cx)(pins:List (KF × P7))(σ:List (Option V))(H:Hp)(s:KM):Prop where
 ok:X.Ok
 os:s.os=X.s₀.os
 bare:Qw s.gens
 base:Un X.fs X.ex X.H₀ H X.s₀.heap s.heap
 loc:∃ m,s.heap.Ns X.env.locals m/\∀ (i:Nat) (x:y') (v:V),X.N[i]?=be x->σ[i]?=be (be v)->Vis X.env.scope x->∃ u,RelV v u/\Look X.env s.heap m x u
 cell:∀ x c,X.env.cells.lookup x=be c->∃ v,s.heap.IsCell c v
 free:H X.env.locals=o_
 freeC:∀ x c,X.env.cells.lookup x=be c->H c=o_
 pin:∀ p∈X.pn++pins,s.heap.get? p.1=be p.2/\H p.1=o_/\p.1≠X.env.locals/\p.1 ∉ X.fs/\∀ v,p.2.data≠.cell v
 hok:HOk X.prog X.w H s.heap
 len:σ.length=X.N.length
section
variable {X:Cx}{pins:List (KF × P7)}{σ:List (Option V)}{H H':Hp}{s:KM}{h':Heap}
def Cx.Ok.nofr(ok:X.Ok){b:KF}{o:P7}(e:X.base.get? b=be o):b ∉ X.fs:=λhb=>by
 have:=(ok.funs.mem hb).1;rw[e] at this;cases this
def Inv.bs(I:Inv X pins σ H s):∀ b o,X.base.get? b=be o->s.heap.get? b=be o/\H b=none:=λb o e=>
 ⟨I.base.keep b o (I.ok.bs b o e).1 (I.ok.bs b o e).2 (I.ok.nofr e) (I.ok.noex b o e),I.base.free b o (I.ok.bs b o e).1 (I.ok.bs b o e).2 (I.ok.noex b o e)⟩
def Inv.bk(I:Inv X pins σ H s):∀ b o,X.base.get? b=be o->s.heap.get? b=be o:=λb o e=>(I.bs b o e).1
def Inv.mod(I:Inv X pins σ H s):Mod X.K X.mg X.base:=I.ok.mod
def Inv.kIn(I:Inv X pins σ H s):X.K.In s.heap:=I.ok.mod.kin.keeps I.bk
def Inv.nolimit(I:Inv X pins σ H s):s.heap.NoLimit:=I.ok.mod.nolimit.keeps I.bk
def Inv.fr(I:Inv X pins σ H s):∃ m,Fr X.base X.env.locals s.heap m:=
 let ⟨m,hn,_⟩:=I.loc
 ⟨m,hn,I.bk,Ei I.ok.bsz I.ok.above⟩
def Inv.lt(I:Inv X pins σ H s):X.env.locals<s.heap.objs.size:=let ⟨_,hn,_⟩:=I.loc;hn.lt
def Inv.sz(I:Inv X pins σ H s):X.s₀.heap.objs.size<=s.heap.objs.size:=Ei I.ok.above (FK I.lt)
def Inv.nofs(I:Inv X pins σ H s){a:KF}(h:s.heap.objs.size<=a):a ∉ X.fs:=λhb=>by
 obtain⟨_,o,ho,_⟩:=I.ok.funs.mem hb;exact absurd (Ez (Heap.lt_size ho) (Ei I.sz h)) (E7 _)
def Inv.cne(I:Inv X pins σ H s):∀ x c,X.env.cells.lookup x=be c->c≠X.env.locals:=λx c e z=>by
 obtain⟨v,o,ho,hd⟩:=I.cell x c e;obtain⟨m,⟨o',es,ep,HM,j3,_⟩,_⟩:=I.loc;rw[z,HM] at ho;cases ho;rw[j3] at hd;cases hd
def Inv.funs(I:Inv X pins σ H s):s.heap.FunFrames X.base X.outer:=by
 have all:∀ (l:List Qs),(∀ b∈frs l,b∈X.fs)->X.s₀.heap.FunFrames X.base l->s.heap.FunFrames X.base l:=by
  intro l;induction l with
  |nil=>intro _ _;trivial
  |cons env r ih=>
   intro hs hl;obtain⟨hk,⟨L,o,hf,hn,ho,hd⟩,hr⟩:=hl;have hL:L∈X.fs:=hs L (by unfold frs;rw[FL,hf];exact Ed);obtain⟨sl,e⟩:=I.base.slot L o ho (I.ok.frf L hL) hL λz=>I.ok.exfs L z hL;exact⟨hk,⟨L,_,hf,hn,e,hd⟩,ih (λb hb=>hs b (by unfold frs;rw[FL,hf];exact Ec _ hb)) hr⟩
 exact all X.outer (λ_ hb=>hb) I.ok.funs
def Inv.stack(I:Inv X pins σ H s):s.heap.FunFrames X.base X.stack:=by
 rcases I.ok.stk with e|⟨e,hf⟩
 .rw[e];exact I.funs
 .rw[e];obtain⟨m,hn,_⟩:=I.loc;refine .cons (by rw[I.ok.kind];decide) hf hn ?_ I.funs;exact Heap.get?_none_of_le (Ei I.ok.bsz I.ok.above)
def Inv.stkSub(I:Inv X pins σ H s):∀ b∈frs X.stack,b∈X.env.locals::X.fs:=λb hb=>by
 rcases I.ok.stk with e|⟨e,hf⟩
 .rw[e] at hb;exact Ec _ hb
 .rw[e] at hb;unfold frs at hb;rw[FL,hf] at hb;exact hb
def Inv.stkFree(I:Inv X pins σ H s):∀ b∈frs X.stack,H b=none:=λb hb=>by
 rcases Ea.mp (I.stkSub b hb) with e|hb
 .rw[e];exact I.free
 .obtain⟨_,o,ho,_⟩:=I.ok.funs.mem hb;exact I.base.free b o ho (I.ok.frf b hb) λz=>I.ok.exfs b z hb
variable{g':Array GenState}{t':Nat}{d':Drawn}{ch:List KF}
def Inv.step(I:Inv X pins σ H s)
  (x9:∀ b∈ch,(b∈X.ex\/X.s₀.heap.objs.size<=b)/\b≠X.env.locals/\(∀ x c,X.env.cells.lookup x=be c->c≠b)/\∀ p∈X.pn++pins,p.1≠b)
  (keep:∀ b o,b≠X.env.locals->b ∉ X.fs->b ∉ ch->s.heap.get? b=be o->H b=o_->h'.get? b=be o)
  (slot:∀ b o,b≠X.env.locals->b∈X.fs->b ∉ ch->s.heap.get? b=be o->H b=o_->∃ sl,h'.get? b=be {o with slots:=sl}) (free:∀ b o,b ∉ ch->s.heap.get? b=be o->H b=o_->H' b=o_)
  (there:∀ b o,b ∉ ch->s.heap.get? b=be o->∃ o',h'.get? b=be o')
  (tups:∀ b xs,H b=be (.tup xs)->H' b=be (.tup xs)) (frzs:∀ b o u,H b=be (.frz o u)->H' b=be (.frz o u)) (tbls:∀ b ps,H b=be (.tbl ps)->∃ more,H' b=be (.tbl (ps++more)))
  (ns:∀ m,s.heap.Ns X.env.locals m->h'.Ns X.env.locals m) (hok:HOk X.prog X.w H' h') (hg:Qw g'):
  Inv X pins σ H' {s with heap:=h',gens:=g',drawn:=d',toks:=t'}:=by
 have MB:∀ b o,X.s₀.heap.get? b=be o->b≠X.env.locals:=λb o e=>Eh (Ez (Heap.lt_size e) I.ok.above);have J1:∀ b o,X.s₀.heap.get? b=be o->b ∉ X.ex->b ∉ ch:=λb o e hx hb=>by
  rcases(x9 b hb).1 with z|z
  .exact hx z
  .exact absurd (Ez (Heap.lt_size e) z) (E7 _)
 have Hv:∀ x c,X.env.cells.lookup x=be c->∀ v,s.heap.IsCell c v->h'.IsCell c v:=λx c e v ⟨o,ho,hd⟩=>by
  have IL:c ∉ ch:=λz=>(x9 c z).2.2.1 x c e rfl;by_cases hc:c∈X.fs
  .obtain⟨sl,q⟩:=slot c o (I.cne x c e) hc IL ho (I.freeC x c e);exact⟨_,q,hd⟩
  .exact⟨o,keep c o (I.cne x c e) hc IL ho (I.freeC x c e),hd⟩
 refine⟨I.ok,I.os,hg,⟨λb o e n hb hx=>?_,λb o e n hb hx=>?_,λb o e n hx=>?_,λb o e hx=>?_,λb xs e=>tups b xs (I.base.tups b xs e),λb o xs e=>frzs b o xs (I.base.frzs b o xs e),λb ps e=>?_⟩,?_,λx c e=>?_,?_,λx c e=>?_,λp hp=>?_,hok,I.len⟩
 .exact keep b o (MB b o e) hb (J1 b o e hx) (I.base.keep b o e n hb hx) (I.base.free b o e n hx)
 .obtain⟨sl,e1⟩:=I.base.slot b o e n hb hx;obtain⟨u6,e2⟩:=slot b _ (MB b o e) hb (J1 b o e hx) e1 (I.base.free b o e n hx);exact⟨u6,e2⟩
 .obtain⟨o',e1⟩:=I.base.there b o e hx;exact free b o' (J1 b o e hx) e1 (I.base.free b o e n hx)
 .obtain⟨o',e1⟩:=I.base.there b o e hx;exact there b o' (J1 b o e hx) e1
 .obtain⟨m1,e1⟩:=I.base.tbls b ps e;obtain⟨m2,e2⟩:=tbls b _ e1;exact⟨m1++m2,by rw[e2,Gz]⟩
 .obtain⟨m,hn,hl⟩:=I.loc;refine⟨m,ns m hn,λi x v e1 e2 e3=>?_⟩;obtain⟨u,r,l⟩:=hl i x v e1 e2 e3;refine⟨u,r,?_⟩;rcases l with l|⟨k,c,e,z⟩
  .exact .inl l
  .exact .inr ⟨k,c,e,Hv x c e _ z⟩
 .obtain⟨v,z⟩:=I.cell x c e;exact⟨v,Hv x c e v z⟩
 .obtain⟨m,⟨o,_,_,ho,_⟩,_⟩:=I.loc;exact free _ o (λz=>(x9 _ z).2.1 rfl) ho I.free
 .obtain⟨v,o,ho,hd⟩:=I.cell x c e;exact free c o (λz=>(x9 c z).2.2.1 x c e rfl) ho (I.freeC x c e)
 .obtain⟨e,n,ne,nf,d⟩:=I.pin p hp;have IL:p.1 ∉ ch:=λz=>(x9 p.1 z).2.2.2 p hp rfl;exact⟨keep p.1 p.2 ne nf IL e n,free p.1 p.2 IL e n,ne,nf,d⟩
def Inv.un(I:Inv X pins σ H s)(u:Un X.fs [] H H' s.heap h')(hok:HOk X.prog X.w H' h'):Inv X pins σ H' {s with heap:=h',toks:=t'}:=by
 obtain⟨m,⟨o,es,ep,ho,r⟩,_⟩:=id I.loc;obtain⟨sl,hL⟩:=u.any ho I.free (by simp);exact I.step (g':=s.gens) (d':=s.drawn) (ch:=[]) (λ_ z=>nomatch z) (λb o _ hb _ e n=>u.keep b o e n hb (by simp)) (λb o _ hb _ e n=>u.slot b o e n hb (by simp)) (λb o _ e n=>u.free b o e n (by simp)) (λb o _ e=>u.there b o e (by simp)) u.tups u.frzs u.tbls (λm' hm=>by
  obtain⟨o',Kx,Ky,HM,r'⟩:=hm;rw[ho] at HM;cases HM;exact⟨_,Kx,Ky,hL,r'⟩) hok I.bare
def Inv.call(I:Inv X pins σ H s)(u:Un (frs X.stack) ch H H' s.heap h')(hok:HOk X.prog X.w H' h')(hg:Qw g')
  (x9:∀ b∈ch,(b∈X.ex\/X.s₀.heap.objs.size<=b)/\b≠X.env.locals/\(∀ x c,X.env.cells.lookup x=be c->c≠b)/\∀ p∈X.pn++pins,p.1≠b):
  Inv X pins σ H' {s with heap:=h',gens:=g',drawn:=d',toks:=t'}:=by
 obtain⟨m,⟨o,es,ep,ho,r⟩,_⟩:=id I.loc;obtain⟨sl,hL⟩:=u.any ho I.free λz=>(x9 _ z).2.1 rfl;exact I.step (ch:=ch) x9 (λb o hL hb hc e n=>u.keep b o e n (λz=>(Ea.mp (I.stkSub b z)).elim hL hb) hc) (λb o _ _ hc e n=>u.any e n hc) (λb o hc e n=>u.free b o e n hc) (λb o hc e=>u.there b o e hc) u.tups u.frzs u.tbls (λm' hm=>by
  obtain⟨o',Kx,Ky,HM,r'⟩:=hm;rw[ho] at HM;cases HM;exact⟨_,Kx,Ky,hL,r'⟩) hok hg
def Inv.turned{it:KF}(I:Inv X pins σ H s)(k:∀ b o,b≠it->s.heap.get? b=be o->h'.get? b=be o)(hn:H it=o_)(hL:it≠X.env.locals)
  (h1:it∈X.ex\/X.s₀.heap.objs.size<=it) (h2:∀ x c,X.env.cells.lookup x=be c->c≠it) (h3:∀ p∈X.pn++pins,p.1≠it):Inv X pins σ H {s with heap:=h',toks:=t'}:=by
 have HN:∀ b u,H b=be u->b≠it:=λb u e z=>by rw[z,hn] at e;cases e
 refine I.step (g':=s.gens) (d':=s.drawn) (ch:=[it]) (λb hb=>?_) (λb o _ _ hc e _=>k b o (λz=>hc (by simp[z])) e) (λb o _ _ hc e _=>⟨o.slots,k b o (λz=>hc (by simp[z])) e⟩) (λ_ _ _ _ n=>n)
  (λb o hc e=>⟨o,k b o (λz=>hc (by simp[z])) e⟩) (λ_ _ e=>e) (λ_ _ _ e=>e) (λb ps e=>⟨#[],by rw[e];simp⟩) (λm hm=>?_) (λb u e=>?_) I.bare
 .have e:b=it:=by simpa using hb
  subst e;exact⟨h1,hL,h2,h3⟩
 .obtain⟨o,es,ep,ho,r⟩:=hm;exact⟨o,es,ep,k _ o (Ne.symm hL) ho,r⟩
 .refine(I.hok b u e).stay (λc v hc q=>k c v ?_ q) (λ_ q=>q) λ_ _ q=>q;rcases hc with z|z
  .rw[z];exact HN b u e
  .exact HN c _ z
def Inv.tok(I:Inv X pins σ H s)(t:Nat):Inv X pins σ H {s with toks:=t}:=I.un (h':=s.heap) (t':=t) Un.refl I.hok
def Inv.kept(I:Inv X pins σ H s)(k:∀ b u,s.heap.get? b=be u->h'.get? b=be u):Inv X pins σ H {s with heap:=h',toks:=t'}:=I.un (Un.kept k) (I.hok.kept k)
def Inv.laid{a:KF}{o:HO}(I:Inv X pins σ H s)(k:∀ b u,s.heap.get? b=be u->h'.get? b=be u)(hp:s.heap.objs.size<=a)(new:ObjOk X.prog X.w (upd H a o) h' a o):
  Inv X pins σ (upd H a o) {s with heap:=h',toks:=t'}:=I.un (Un.laid k hp (I.hok.fresh hp)) (I.hok.laid k hp new)
def Inv.write{x e:KF}{o:HO}(I:Inv X pins σ H s)(mu:Mut (H x))(he:e=x\/H e=be (.own x))(k:∀ b u,b≠e->s.heap.get? b=be u->h'.get? b=be u)(x8:∃ u,h'.get? e=be u)
  (new:ObjOk X.prog X.w (upd H x o) h' x o):Inv X pins σ (upd H x o) {s with heap:=h',toks:=t'}:=I.un (Un.write mu he k x8) (I.hok.write mu he k x8 new)
def Inv.pins_of{Hw:List (KF × P7)}(I:Inv X pins σ H s)(h:∀ p∈Hw,s.heap.get? p.1=be p.2/\H p.1=o_/\p.1≠X.env.locals/\p.1 ∉ X.fs/\∀ v,p.2.data≠.cell v):Inv X Hw σ H s:=
 ⟨I.ok,I.os,I.bare,I.base,I.loc,I.cell,I.free,I.freeC,λp hp=>(EC.mp hp).elim (λz=>I.pin p (EV _ z)) (h p),I.hok,I.len⟩
variable{x:y'}{i:Nat}
def og{N:List y'}(hN:N.Nodup){j:Nat}(a:N[i]?=be x)(b:N[j]?=be x):i=j:=by
 obtain⟨h1,e1⟩:=Em.mp a;obtain⟨h2,e2⟩:=Em.mp b;exact(List.getElem_inj hN).mp (e1.trans e2.symm)
variable{E:KB->KM->Prop}{Q:Unit->KM->Prop}
def oh{M:Model}{A:PQ}{v:V}{u:KB}(I:Inv X pins σ H s)(hN:X.N.Nodup)(hi:X.N[i]?=be x)(hx:Loc X.env.scope x)(r:RelV v u)
  (h:∀ s',Inv X pins (σ.set i (be v)) H s'->(∃ a,Heap.SameBut a s.heap s'.heap/\(a=X.env.locals\/X.env.cells.lookup x=be a))->Q () s') (hf:autoParam (zFN X x) zA2):PN M A (storeName X.env x u) Q E s:=by
 obtain⟨m,hn,hl⟩:=id I.loc;have Kz:(X.env.scope.kind== .class||(X.env.scope.kind== .module && X.env.locals !=X.env.globals))=false:=by rw[I.ok.kind];rfl
 have hiσ:i<σ.length:=by rw[I.len];exact(Em.mp hi).1
 have cne:=I.cne;have j9:∀ {a:KF} {h':Heap},(∃ o,s.heap.get? a=be o/\H a=o_)->Heap.SameBut a s.heap h'->HOk X.prog X.w H h':=λ{a h'} ha hs b ob e=>by
  obtain⟨_,_,j5⟩:=ha;refine(I.hok b ob e).stay (λc w' hc q=>(hs.2 c ?_).trans q) (λ_ q=>q) λ_ _ q=>q;rintro rfl;rcases hc with rfl|hc
  .rw[j5] at e;cases e
  .rw[j5] at hc;cases hc
 rcases hx with hk|hk
 .refine wpAny_storeName_local hk hn (λh' k8 hs=>?_) Kz;obtain⟨oL,_,_,NF,_⟩:=id hn;refine h _ ⟨I.ok,I.os,I.bare,⟨λb o e n hb hx=>?_,λb o e n hb hx=>?_,I.base.free,λb o e hx=>?_,I.base.tups,I.base.frzs,I.base.tbls⟩,⟨_,k8,λj y v' e1 e2 e3=>?_⟩,λy c e=>?_,I.free,I.freeC,λp hp=>?_,j9 ⟨oL,NF,I.free⟩ hs,by simpa using I.len⟩ ⟨_,hs,.inl rfl⟩
  .exact(hs.2 b (Eh (Ez (Heap.lt_size e) I.ok.above))).trans (I.base.keep b o e n hb hx)
  .obtain⟨sl,e1⟩:=I.base.slot b o e n hb hx;exact⟨sl,(hs.2 b (Eh (Ez (Heap.lt_size e) I.ok.above))).trans e1⟩
  .obtain⟨o',e1⟩:=I.base.there b o e hx;exact⟨o',(hs.2 b (Eh (Ez (Heap.lt_size e) I.ok.above))).trans e1⟩
  .by_cases hj:j=i
   .subst hj;rw[hi] at e1;cases e1;rw[EM hiσ] at e2;cases e2;exact⟨u,r,.inl ⟨hk,by simp⟩⟩
   .rw[Et (Ne.symm hj)] at e2;obtain⟨u',r',q⟩:=hl j y v' e1 e2 e3;refine⟨u',r',?_⟩;rcases q with⟨k,e⟩|⟨k,c,e,z⟩
    .refine .inl ⟨k,?_⟩;have:y≠x:=λe=>hj (og hN e1 (e ▸ hi));simp[this,e]
    .exact .inr ⟨k,c,e,z.sameBut hs (cne y c e)⟩
  .obtain⟨w',z⟩:=I.cell y c e;exact⟨w',z.sameBut hs (cne y c e)⟩
  .obtain⟨e,n,ne,nf,d⟩:=I.pin p hp;exact⟨(hs.2 p.1 ne).trans e,n,ne,nf,d⟩
 .have IM:X.fn x=true:=by
   rcases hf with z|z
   .exact z
   .rw[z] at hk;cases hk
  obtain⟨c,hc⟩:=I.ok.has x (.inl hk);obtain⟨w',z⟩:=I.cell x c hc;refine wpAny_storeName_cell I.ok.kind hk hc z (λh' Hx hs=>?_);obtain⟨oc,MC,KA⟩:=id z;refine h {s with heap:=h'} ⟨I.ok,I.os,I.bare,⟨λb o e n hb hx=>?_,λb o e n hb hx=>?_,I.base.free,λb o e hx=>?_,I.base.tups,I.base.frzs,I.base.tbls⟩,⟨m,hn.sameBut hs (Ne.symm (cne x c hc)),λj y v' e1 e2 e3=>?_⟩,λy c' e=>?_,I.free,I.freeC,λp hp=>?_,j9 ⟨oc,MC,I.freeC x c hc⟩ hs,by simpa using I.len⟩ ⟨c,hs,.inr hc⟩
  .exact(hs.2 b (Eh (Ez (Heap.lt_size e) (I.ok.cab x c IM hc)))).trans (I.base.keep b o e n hb hx)
  .obtain⟨sl,e1⟩:=I.base.slot b o e n hb hx;exact⟨sl,(hs.2 b (Eh (Ez (Heap.lt_size e) (I.ok.cab x c IM hc)))).trans e1⟩
  .obtain⟨o',e1⟩:=I.base.there b o e hx;exact⟨o',(hs.2 b (Eh (Ez (Heap.lt_size e) (I.ok.cab x c IM hc)))).trans e1⟩
  .by_cases hj:j=i
   .subst hj;rw[hi] at e1;cases e1;rw[EM hiσ] at e2;cases e2;exact⟨u,r,.inr ⟨.inl hk,c,hc,Hx⟩⟩
   .rw[Et (Ne.symm hj)] at e2;obtain⟨u',r',q⟩:=hl j y v' e1 e2 e3;refine⟨u',r',?_⟩;rcases q with q|⟨k,c',e,z'⟩
    .exact .inl q
    .refine .inr ⟨k,c',e,z'.sameBut hs ?_⟩;rintro rfl;exact hj (og hN e1 (I.ok.inj _ _ _ e hc ▸ hi))
  .by_cases MD:c'=c
   .subst MD;exact⟨_,Hx⟩
   .obtain⟨w2,z2⟩:=I.cell y c' e;exact⟨w2,z2.sameBut hs MD⟩
  .obtain⟨e,n,ne,nf,d⟩:=I.pin p hp;refine⟨(hs.2 p.1 ?_).trans e,n,ne,nf,d⟩;intro q;rw[q,MC] at e;have q':oc=p.2:=Option.some.inj e;exact d w' (by rw[<- q'];exact KA)
def dS{M:Model}{A:PQ}{v:V}{u:KB}(I:Inv X pins σ H s)(hN:X.N.Nodup)(hi:X.N[i]?=be x)(hx:Loc X.env.scope x)(r:RelV v u)
  (h:∀ s',Inv X pins (σ.set i (be v)) H s'->Q () s') (hf:autoParam (zFN X x) zA2):PN M A (storeName X.env x u) Q E s:=
 oh I hN hi hx r (λs' I' _=>h s' I') hf
def Inv.call'{s':KM}(I:Inv X pins σ H s)(ho:s'.os=s.os)(u:Un (frs X.stack) ch H H' s.heap s'.heap)(hok:HOk X.prog X.w H' s'.heap)(hg:Qw s'.gens)
  (x9:∀ b∈ch,(b∈X.ex\/X.s₀.heap.objs.size<=b)/\b≠X.env.locals/\(∀ x c,X.env.cells.lookup x=be c->c≠b)/\∀ p∈X.pn++pins,p.1≠b):Inv X pins σ H' s':=by
 obtain⟨h',g',d',t',o'⟩:=s';have e:o'=s.os:=ho;subst e;exact I.call (g':=g') (t':=t') (d':=d') u hok hg x9
end
abbrev XK:=KB->Option KF->Hp->Prop
abbrev St:=List (Option V)
abbrev VK:=V->Hp->Prop
abbrev TE:=St->Hp->VK->Prop
abbrev TT:=St->Hp->(Bool->Hp->Prop)->Prop
abbrev TA:=St->Hp->(List V->Hp->Prop)->Prop
structure Ends where
 nx:St->Hp->Prop
 rt:VK
 bk:St->Hp->Prop:=λ_ _=>False
 ct:St->Hp->Prop:=λ_ _=>False
abbrev TS:=Ends->St->Hp->Prop
def EP(X:Cx)(pins:List (KF × P7))(σ:St)(Q:VK)(u:KB)(s':KM):Prop:=∃ v H',Inv X pins σ H' s'/\RelV v u/\Q v H'
def TP(X:Cx)(pins:List (KF × P7))(σ:St)(Q:Bool->Hp->Prop)(b:Bool)(s':KM):Prop:=∃ H',Inv X pins σ H' s'/\Q b H'
def AP(X:Cx)(pins:List (KF × P7))(σ:St)(Q:List V->Hp->Prop)(us:List KB)(s':KM):Prop:=∃ vs H',Inv X pins σ H' s'/\Vals vs us/\Q vs H'
def SP(X:Cx)(pins:List (KF × P7))(D:Ends)(f:Flow)(s':KM):Prop:=
 match f with
 | .next=>∃ σ' H',Inv X pins σ' H' s'/\D.nx σ' H'
 | .brk=>∃ σ' H',Inv X pins σ' H' s'/\D.bk σ' H'
 | .cont=>∃ σ' H',Inv X pins σ' H' s'/\D.ct σ' H'
 | .ret u=>∃ v σ' H',Inv X pins σ' H' s'/\RelV v u/\D.rt v H'
def PE(X:Cx)(e:PJ)(t:TE):Prop:=
 ∀ (pins:List (KF × P7)) (s:KM) (σ:St) (H:Hp) (Q:VK),Inv X pins σ H s->t σ H Q->PN (PM X.prog X.w) X.A (PX e X.env) (EP X pins σ Q) X.xe s
def PT(X:Cx)(e:PJ)(t:TT):Prop:=
 ∀ (pins:List (KF × P7)) (s:KM) (σ:St) (H:Hp) (Q:Bool->Hp->Prop),Inv X pins σ H s->t σ H Q->PN (PM X.prog X.w) X.A (isTrue e X.env (PX e X.env)) (TP X pins σ Q) X.xe s
def PW(X:Cx)(e:PJ)(t:TT):Prop:=
 ∀ (g7:Q_ KB) (pins:List (KF × P7)) (s:KM) (σ:St) (H:Hp) (Q:Bool->Hp->Prop),Inv X pins σ H s->t σ H Q->PN (PM X.prog X.w) X.A (isTrue e X.env g7) (TP X pins σ Q) X.xe s
variable{X:Cx}
def PW.pt{e:PJ}{t:TT}(h:PW X e t):PT X e t:=h _
def PA(X:Cx)(es:List PJ)(t:TA):Prop:=
 ∀ (pos:P0) (pins:List (KF × P7)) (s:KM) (σ:St) (H:Hp) (Q:List V->Hp->Prop),Inv X pins σ H s->t σ H Q->PN (PM X.prog X.w) X.A (spliced (Qo pos (PR es X.env))) (AP X pins σ Q) X.xe s
def PS(X:Cx)(st:PL)(t:TS):Prop:=
 ∀ (pins:List (KF × P7)) (s:KM) (σ:St) (H:Hp) (D:Ends),Inv X pins σ H s->t D σ H->PN (PM X.prog X.w) X.A (exec st X.env) (SP X pins D) X.xe s
def PSs(X:Cx)(st:List PL)(t:TS):Prop:=
 ∀ (pins:List (KF × P7)) (s:KM) (σ:St) (H:Hp) (D:Ends),Inv X pins σ H s->t D σ H->PN (PM X.prog X.w) X.A (execs st X.env) (SP X pins D) X.xe s
variable{A:PQ}{E:KB->KM->Prop}{s:KM}
def thn{α:Type}{t:Q_ α}{Q Q':α->KM->Prop}{M:Model}(h:PN M A t Q E s)(hQ:∀ a s,Q a s->Q' a s):PN M A t Q' E s:=P3 h hQ λ_ _ x=>x
section
variable {X:Cx}
def tVar(i:Nat):TE:=λσ H Q=>∃ v,σ[i]?=be (be v)/\Q v H
def tC(v:V):TE:=λ_ H Q=>Q v H
variable{x:y'}{pos:P0}
def cL{i:Nat}(hN:X.N[i]?=be x)(hv:Vis X.env.scope x)(hd:autoParam (zND x) zA1)(f8:autoParam (zNC x) zA1):PE X (.Name x pos) (tVar i):=by
 intro pins s σ H Q I h;obtain⟨v,e,h⟩:=h;obtain⟨m,hn,hl⟩:=I.loc;obtain⟨u,r,l⟩:=hl i x v hN e hv;have d6:EP X pins σ Q u s:=⟨v,H,I,r,h⟩;rcases l with⟨hk,hm⟩|⟨hk,c,hc,k9⟩
 .exact Rk (wpAny_loadName_local I.ok.kind hk hn hm d6) hd
 .rcases hk with hk|hk
  .exact Rk (wpAny_loadName_cell I.ok.kind hk hc k9 d6) hd
  .exact Rk (wpAny_loadName_free I.ok.kind hk hc k9 d6 f8) hd
def tG{i j pos}:PE X (.Constant (.int i) j pos) (tC (.int i)):=λ_ _ _ H _ I h=>wpAny_Constant_int ⟨.int i,H,I.tok _,⟨_,rfl⟩,h⟩
def tH{b j pos}:PE X (.Constant (.bool b) j pos) (tC (.bl b)):=λ_ _ _ H _ I h=>Constant_bool ⟨.bl b,H,I,rfl,h⟩
def tI{j pos}:PE X (.Constant .none j pos) (tC .non):=λ_ _ _ H _ I h=>Constant_none ⟨.non,H,I,rfl,h⟩
def oi{x j pos}:PE X (.Constant (.str x) j pos) (tC (.str x)):=λ_ _ _ H _ I h=>Calls.Constant_str ⟨.str x,H,I.tok _,⟨_,rfl⟩,h⟩
def Gl(X:Cx)(x:y'):Prop:=X.env.kindOf x=be .globalImplicit
variable{E Q:KB->KM->Prop}{pins:List (KF × P7)}{u:KB}
def cB{s:KM}{σ:St}{H:Hp}(I:Inv X pins σ H s)(hg:Gl X x)(hm:X.mg x=be u)(h:Q u s)
  (hd:autoParam (zND x) zA1):PN (PM X.prog X.w) X.A (PX (.Name x pos) X.env) Q E s:=
 Calls.Name_function_global I.ok.kind hg (Calls.loadGlobal_global (by rw[I.ok.glob];exact I.mod.glob.keeps I.bk) hm h) hd
def dh{s:KM}{σ:St}{H:Hp}(I:Inv X pins σ H s)(hg:Gl X x)(hm:X.mg x=o_)(hv:P5 x=be u)(h:Q u s)
  (hn:autoParam (x≠"__name__") zA1) (hd:autoParam (zND x) zA1):PN (PM X.prog X.w) X.A (PX (.Name x pos) X.env) Q E s:=by
 obtain⟨mb,h1,h2⟩:=I.mod.blt;exact Calls.Name_function_global I.ok.kind hg (Calls.loadGlobal_builtin (by rw[I.ok.glob];exact I.mod.glob.keeps I.bk) hm (by rw[I.ok.blt];exact h1.keeps I.bk) ((h2 x hn).trans hv) h) hd
def tJ{v:V}(hg:Gl X x)(hm:X.mg x=be u)(r:RelV v u)(hd:autoParam (zND x) zA1):PE X (.Name x pos) (tC v):=
 λ_ _ _ H _ I h=>cB I hg hm ⟨v,H,I,r,h⟩ hd
def tK{v:V}(hg:Gl X x)(hm:X.mg x=o_)(hv:P5 x=be u)(r:RelV v u)(hn:autoParam (x≠"__name__") zA1)(hd:autoParam (zND x) zA1):PE X (.Name x pos) (tC v):=
 λ_ _ _ H _ I h=>dh I hg hm hv ⟨v,H,I,r,h⟩ hn hd
variable {a b:PJ}{ta tb:TE}{pos:P0}
def tB(t:TE):TT:=λσ H Q=>t σ H λx H1=>∃ c,x= .bl c/\Q c H1
variable {tA y7:TT}{rest:List PJ}
def tAnd(t u:TT):TT:=λσ H Q=>t σ H λc H1=>if c=true then u σ H1 Q else Q false H1
def tOr(t u:TT):TT:=λσ H Q=>t σ H λc H1=>if c=true then Q true H1 else u σ H1 Q
def tNot(t:TT):TT:=λσ H Q=>t σ H λc H1=>Q (!c) H1
def oj(ha:PT X a tA):PW X (.BoolOp .And [a] pos) tA:=by
 intro wh pins s σ H Q I h;refine isTrue_and (thn (ha pins s σ H Q I h) λc s1 e=>?_);cases c with
 |true=>exact isTrue_and_nil e
 |false=>exact e
def ol(ha:PT X a tA):PW X (.BoolOp .Or [a] pos) tA:=by
 intro wh pins s σ H Q I h;refine isTrue_or (thn (ha pins s σ H Q I h) λc s1 e=>?_);cases c with
 |false=>exact isTrue_or_nil e
 |true=>exact e
def om(ha:PT X a tA)(hb:PW X (.BoolOp .And (b::rest) pos) y7):PW X (.BoolOp .And (a::b::rest) pos) (tAnd tA y7):=by
 intro wh pins s σ H Q I h;refine isTrue_and (thn (ha pins s σ H _ I h) λc s1 b8=>?_);obtain⟨H1,I1,q1⟩:=b8;cases c with
 |true=>exact hb wh pins s1 σ H1 Q I1 q1
 |false=>exact⟨H1,I1,q1⟩
def oq(ha:PT X a tA)(hb:PW X (.BoolOp .Or (b::rest) pos) y7):PW X (.BoolOp .Or (a::b::rest) pos) (tOr tA y7):=by
 intro wh pins s σ H Q I h;refine isTrue_or (thn (ha pins s σ H _ I h) λc s1 b8=>?_);obtain⟨H1,I1,q1⟩:=b8;cases c with
 |true=>exact⟨H1,I1,q1⟩
 |false=>exact hb wh pins s1 σ H1 Q I1 q1
def tL(ha:PT X a tA):PT X (.UnaryOp .Not a pos) (tNot tA):=by
 intro pins s σ H Q I h;exact isTrue_not (ha pins s σ H (λc H1=>Q (!c) H1) I h)
def tM(ta tb:TE):TE:=λσ H Q=>ta σ H λx H1=>∃ c,x= .bl c/\if c=true then tb σ H1 Q else Q (.bl false) H1
def tN(ta:TE):TE:=λσ H Q=>ta σ H λx H1=>∃ c,x= .bl c/\Q (.bl (!c)) H1
def tO{op}{t:TE}(h:PE X a t):PE X (.BoolOp op [a] pos) t:=λpins s σ H Q I hw=>BoolOp_one (h pins s σ H Q I hw)
def tP(ha:PE X a ta)(hb:PE X (.BoolOp .And (b::rest) pos) tb):PE X (.BoolOp .And (a::b::rest) pos) (tM ta tb):=by
 intro pins s σ H Q I h;refine BoolOp_and (thn (ha pins s σ H _ I h) λv s1 b8=>?_);obtain⟨x,H1,I1,r1,q1⟩:=b8;obtain⟨c,rfl,q1⟩:=q1;cases r1;refine Qt ?_;cases c with
 |true=>exact hb pins s1 σ H1 Q I1 q1
 |false=>exact⟨.bl false,H1,I1,rfl,q1⟩
def tQ(ha:PE X a ta):PE X (.UnaryOp .Not a pos) (tN ta):=by
 intro pins s σ H Q I h;refine UnaryOp_ (thn (ha pins s σ H _ I h) λv s1 b8=>?_);obtain⟨x,H1,I1,r1,q1⟩:=b8;obtain⟨c,rfl,q1⟩:=q1;cases r1;exact not_of (Qt ⟨.bl (!c),H1,I1,rfl,q1⟩)
def tIf(t:TT)(ta tb:TE):TE:=λσ H Q=>t σ H λc H1=>if c=true then ta σ H1 Q else tb σ H1 Q
def tR{c:PJ}(hc:PT X c tA)(ha:PE X a ta)(hb:PE X b tb):PE X (.IfExp c a b pos) (tIf tA ta tb):=by
 intro pins s σ H Q I h;refine wpAny_IfExp (thn (hc pins s σ H _ I h) λd s1 b8=>?_);obtain⟨H1,I1,q1⟩:=b8;cases d with
 |true=>exact ha pins s1 σ H1 Q I1 q1
 |false=>exact hb pins s1 σ H1 Q I1 q1
end
def SqL(K:D6)(H:Hp)(a:KF)(xs:List V):Prop:=
 Rd H a (.lst xs)\/
  ∃ (o:P7) (its:Array KB) (n:Nat),K.lookup a=be o/\o.cls= .type "list"/\o.dict=o_/\o.data= .seq its n/\its.size<=sizeLine/\Vals xs its.toList
def SqT(K:D6)(H:Hp)(a:KF)(xs:List V):Prop:=
 Rd H a (.tup xs)\/
  ∃ (o:P7) (its:Array KB) (n:Nat),K.lookup a=be o/\o.cls= .type "tuple"/\o.data= .seq its n/\its.size<=sizeLine/\Vals xs its.toList
def absV:KB->Option V
 | .none=>be .non
 | .bool b=>be (.bl b)
 | .int i _=>be (.int i)
 | .str x _=>be (.str x)
 | .bytes b _=>be (.byt b)
 | .float b _=>be (.flt b)
 | .ref a=>be (.ref a)
 | .type n=>be (.ty n)
 |_=>o_
variable{u:KB}
def RelV.abs{x:V}(r:RelV x u):absV u=be x:=by
 cases x with
 |non=>cases r;rfl
 |bl _=>cases r;rfl
 |int _=>obtain⟨t,rfl⟩:=r;rfl
 |str _=>obtain⟨t,rfl⟩:=r;rfl
 |byt _=>obtain⟨t,rfl⟩:=r;rfl
 |flt _=>obtain⟨t,rfl⟩:=r;rfl
 |ref _=>cases r;rfl
 |ty _=>cases r;rfl
def RelV.inj{x y:V}(r:RelV x u)(q:RelV y u):x=y:=Option.some.inj (r.abs.symm.trans q.abs)
def Vals.inj:∀ {xs ys:List V} {us:List KB},Vals xs us->Vals ys us->xs=ys:=by
 intro xs ys us h;induction h generalizing ys with
 |nil=>intro g;cases g;rfl
 |cons r _ e=>
  intro g;cases g with
  |cons r' t'=>rw[r.inj r',e t']
section
variable {X:Cx}{pins:List (KF × P7)}{σ:St}{H:Hp}{s:KM}{a:KF}{xs ys:List V}
def SqL.of{K:D6}(h:H a=be (.lst xs)):SqL K H a xs:= .inl (.inl h)
def SqT.of{K:D6}(h:H a=be (.tup xs)):SqT K H a xs:= .inl (.inl h)
def Inv.list(I:Inv X pins σ H s)(h:SqL X.K H a xs):∃ its:List KB,Vals xs its/\PlainL s.heap a its.toArray/\xs.length<=sizeLine:=by
 rcases h with h|⟨o,its,n,hk,hc,hd,hs,hz,r⟩
 .obtain⟨z,its,n,r,e⟩:=h.ok I.hok;exact⟨its,r,⟨_,n,e,rfl,rfl,rfl⟩,z⟩
 .refine⟨its.toList,r,⟨o,n,I.kIn a o hk,hc,hd,by simpa using hs⟩,?_⟩;have e:=r.length;simp only[Fx] at e;lia
def Inv.tuple(I:Inv X pins σ H s)(h:SqT X.K H a xs):∃ its:List KB,Vals xs its/\IsTup s.heap a its.toArray/\xs.length<=sizeLine:=by
 rcases h with h|⟨o,its,n,hk,hc,hs,hz,r⟩
 .obtain⟨z,its,r,p⟩:=h.ok I.hok;exact⟨its,r,p,z⟩
 .refine⟨its.toList,r,⟨o,I.kIn a o hk,hc,n,by simpa using hs⟩,?_⟩;have e:=r.length;simp only[Fx] at e;lia
def Inv.list_inj(I:Inv X pins σ H s)(h:SqL X.K H a xs)(h':SqL X.K H a ys):xs=ys:=by
 obtain⟨its,r,⟨o,n,e,_,_,d⟩,_⟩:=I.list h;obtain⟨its',r',⟨o',n',e',_,_,d'⟩,_⟩:=I.list h';rw[e] at e';cases e';rw[d] at d';injection d' with d1 _;have:its=its':=by simpa using congrArg Array.toList d1
 subst this;exact r.inj r'
end
abbrev Cx.wish(X:Cx)(E:KB->KM->Prop):Cx:={X with xe:=E}
abbrev Cx.nox(X:Cx):Cx:=X.wish λ_ _=>False
def Cx.Ok.wish(ok:X.Ok)(E:KB->KM->Prop):(X.wish E).Ok:=
 ⟨ok.mod,ok.kind,ok.glob,ok.blt,ok.above,ok.inj,ok.has,ok.cab,ok.hd,ok.frames,ok.stk,ok.exf,ok.bs,ok.bsz,ok.noex,ok.exfs,ok.funs,ok.frf⟩
def Cx.Ok.unwish(ok:(X.wish E).Ok):X.Ok:=
 ⟨ok.mod,ok.kind,ok.glob,ok.blt,ok.above,ok.inj,ok.has,ok.cab,ok.hd,ok.frames,ok.stk,ok.exf,ok.bs,ok.bsz,ok.noex,ok.exfs,ok.funs,ok.frf⟩
section
variable {X:Cx}{pins:List (KF × P7)}{σ:St}{H:Hp}{s:KM}{E:KB->KM->Prop}
def Inv.wish(I:Inv X pins σ H s)(E:KB->KM->Prop):Inv (X.wish E) pins σ H s:=⟨I.ok.wish E,I.os,I.bare,I.base,I.loc,I.cell,I.free,I.freeC,I.pin,I.hok,I.len⟩
def Inv.unwish(I:Inv (X.wish E) pins σ H s):Inv X pins σ H s:=⟨I.ok.unwish,I.os,I.bare,I.base,I.loc,I.cell,I.free,I.freeC,I.pin,I.hok,I.len⟩
def SP.unwish{D:Ends}{f:Flow}{s':KM}(h:SP (X.wish E) pins D f s'):SP X pins D f s':=by
 cases f with
 |next=>obtain⟨σ',H',I,q⟩:=h;exact⟨σ',H',I.unwish,q⟩
 |brk=>obtain⟨σ',H',I,q⟩:=h;exact⟨σ',H',I.unwish,q⟩
 |cont=>obtain⟨σ',H',I,q⟩:=h;exact⟨σ',H',I.unwish,q⟩
 |ret u=>obtain⟨v,σ',H',I,r,q⟩:=h;exact⟨v,σ',H',I.unwish,r,q⟩
def PE.nox{e:PJ}{t:TE}(h:PE X.nox e t):PE X e t:=λpins s σ H Q I hw=>
 P3 (h pins s σ H Q (I.wish _) hw) (λ_ _ ⟨v,H',I',r,q⟩=>⟨v,H',I'.unwish,r,q⟩) λ_ _ z=>False.elim z
def PT.nox{e:PJ}{t:TT}(h:PT X.nox e t):PT X e t:=λpins s σ H Q I hw=>
 P3 (h pins s σ H Q (I.wish _) hw) (λ_ _ ⟨H',I',q⟩=>⟨H',I'.unwish,q⟩) λ_ _ z=>False.elim z
def PSs.nox{st:List PL}{t:TS}(h:PSs X.nox st t):PSs X st t:=λpins s σ H D I hw=>
 P3 (h pins s σ H D (I.wish _) hw) (λ_ _ q=>q.unwish) λ_ _ z=>False.elim z
end
section
variable {X:Cx}{st:PL}{rest:List PL}{t u:TS}{e:PJ}{te:TE}{pos:P0}
def tS:TS:=λD σ H=>D.nx σ H
def tSeq(t u:TS):TS:=λD σ H=>t {D with nx:=u D} σ H
def pss_nil:PSs X [] tS:=λ_ _ σ H _ I h=>QB ⟨σ,H,I,h⟩
def fo(h1:PS X st t)(h2:PSs X rest u):PSs X (st::rest) (tSeq t u):=by
 intro pins s σ H D I h;refine wpAny_execs_cons (thn (h1 pins s σ H {D with nx:=u D} I h) λf s1 q=>?_);cases f with
 |next=>
  obtain⟨σ',H',I',q⟩:=q;exact h2 pins s1 σ' H' D I' q
 |ret v=>exact q
 |brk=>exact q
 |cont=>exact q
def ot(h1:PS X st t):PSs X [st] t:=by
 intro pins s σ H D I h;refine wpAny_execs_cons (thn (h1 pins s σ H D I h) λf s1 q=>?_);cases f with
 |next=>exact QB q
 |ret v=>exact q
 |brk=>exact q
 |cont=>exact q
def Inv.quiet{pins:List (KF × P7)}{σ:St}{H:Hp}{s:KM}(I:Inv X pins σ H s):interactive X.env=false:=by simp[interactive,I.ok.kind]
def tT(te:TE):TS:=λD σ H=>te σ H λ_ H1=>D.nx σ H1
def iZ(he:PE X e te)(hs:autoParam (P4 e o_ pos.line X.env=pure false) zA0):PS X (.Expr e pos) (tT te):=by
 intro pins s σ H D I h;exact wpAny_Expr_any (thn (he pins s σ H _ I h) λv s1 ⟨x,H1,I1,r1,q1⟩=>⟨σ,H1,I1,q1⟩) I.quiet hs
def tRet(te:TE):TS:=λD σ H=>te σ H D.rt
def ou(he:PE X e te):PS X (.Return (be e) pos) (tRet te):=by
 intro pins s σ H D I h;exact wpAny_Return_some (thn (he pins s σ H _ I h) λv s1 ⟨x,H1,I1,r1,q1⟩=>⟨x,σ,H1,I1,r1,q1⟩)
def tIfS(c:TT)(t u:TS):TS:=λD σ H=>c σ H λb H1=>if b=true then t D σ H1 else u D σ H1
def ow{c:PJ}{a b:List PL}{tc:TT}(hc:PT X c tc)(ha:PSs X a t)(hb:PSs X b u):PS X (.If c a b pos) (tIfS tc t u):=by
 intro pins s σ H D I h;refine wpAny_If (thn (hc pins s σ H _ I h) λd s1 b8=>?_);obtain⟨H1,I1,q1⟩:=b8;cases d with
 |true=>exact ha pins s1 σ H1 D I1 q1
 |false=>exact hb pins s1 σ H1 D I1 q1
end
abbrev TG:=V->St->Hp->(St->Hp->Prop)->Prop
abbrev TGs:=List V->St->Hp->(St->Hp->Prop)->Prop
def PG(X:Cx)(f9:PJ)(t:TG):Prop:=
 ∀ (pins:List (KF × P7)) (s:KM) (σ:St) (H:Hp) (v:V) (u:KB) (Q:St->Hp->Prop),Inv X pins σ H s->RelV v u->t v σ H Q->
  PN (PM X.prog X.w) X.A (Qp f9 X.env u) (λ_ s'=>∃ σ' H',Inv X pins σ' H' s'/\Q σ' H') X.xe s
def PGs(X:Cx)(ts:List PJ)(t:TGs):Prop:=
 ∀ (pins:List (KF × P7)) (s:KM) (σ:St) (H:Hp) (vs:List V) (us:List KB) (Q:St->Hp->Prop),Inv X pins σ H s->Vals vs us->t vs σ H Q->
  PN (PM X.prog X.w) X.A (QZ ((PU ts X.env).map (·.2)) us) (λ_ s'=>∃ σ' H',Inv X pins σ' H' s'/\Q σ' H') X.xe s
abbrev TSet:=V->V->V->Hp->(Hp->Prop)->Prop
def PSet(X:Cx)(t:TSet):Prop:=
 ∀ (pins:List (KF × P7)) (s:KM) (σ:St) (H:Hp) (o i v:V) (ov iv u:KB) (Q:Hp->Prop),Inv X pins σ H s->RelV o ov->RelV i iv->RelV v u->t o i v H Q->
  PN (PM X.prog X.w) X.A (Q4 ov iv u) (λ_ s'=>∃ H',Inv X pins σ H' s'/\Q H') X.xe s
abbrev TIp:=V->V->Hp->VK->Prop
def PIp(X:Cx)(op:QX)(t:TIp):Prop:=
 ∀ (pins:List (KF × P7)) (s:KM) (σ:St) (H:Hp) (x y:V) (v u:KB) (Q:VK),Inv X pins σ H s->RelV x v->RelV y u->t x y H Q->
  PN (PM X.prog X.w) X.A (inplaceOp op v u) (EP X pins σ Q) X.xe s
section
variable {X:Cx}{pos:P0}
def fq(i:Nat):TG:=λv σ H Q=>Q (σ.set i (be v)) H
variable{i:Nat}{x:y'}
def fu(hN:X.N.Nodup)(hi:X.N[i]?=be x)(hx:Loc X.env.scope x)(hf:autoParam (zFN X x) zA2):PG X (.Name x pos) (fq i):=by
 intro pins s σ H v u Q I r h;exact Qv (dS I hN hi hx r (λs' I'=>⟨_,H,I',h⟩) hf)
def gNil:TGs:=λvs σ H Q=>vs=[]/\Q σ H
def tU(t:TG)(u:TGs):TGs:=λvs σ H Q=>∃ v r,vs=v::r/\t v σ H λσ' H'=>u r σ' H' Q
def tV:PGs X [] gNil:=by
 intro pins s σ H vs us Q I r h;obtain⟨e,h⟩:=h;subst e;cases r;exact Ru ⟨σ,H,I,h⟩
variable{e:PJ}{es:List PJ}
def tW{t:TG}{u:TGs}(h1:PG X e t)(h2:PGs X es u)
  (hs:autoParam ((PU (e::es) X.env).map (·.2)=Qp e X.env::(PU es X.env).map (·.2)) zA0):PGs X (e::es) (tU t u):=by
 intro pins s σ H vs us Q I r h;obtain⟨v,vr,e1,h⟩:=h;subst e1;cases r with
 |cons r rr=>
  rw[hs];refine QJ (thn (h1 pins s σ H _ _ _ I r h) λ_ s1 b8=>?_);obtain⟨σ1,H1,I1,q1⟩:=b8;exact h2 pins s1 σ1 H1 _ _ Q I1 rr q1
def gTup(K:D6)(n:Nat)(t:TGs):TG:=λv σ H Q=>∃ a xs,v= .ref a/\SqT K H a xs/\xs.length=n/\t xs σ H Q
def gc{k:Nat}{t:TGs}{n:Nat}(hc:X.calm=true)(h:PGs X es t)
  (hn:autoParam ((PU es X.env).length=n) zA0) (m4:autoParam ((PU es X.env).findIdx? (·.1)=none) zA0):PG X (.Tuple es k pos) (gTup X.K n t):=by
 intro pins s σ H v u Q I r hw;obtain⟨a,xs,e1,hq,hl,hw⟩:=hw;subst e1;cases r;obtain⟨its,rv,ht,hz⟩:=I.tuple hq;refine assign_Tuple_tuple (I.ok.hd hc) ht (by simp[hn,<- hl,rv.length]) m4 λh' hx=>?_;have I1:Inv X pins σ H {s with heap:=h'}:=I.kept (t':=s.toks) λb o e=>hx b o (Eh (Heap.lt_size e)) e;exact h pins _ σ H xs _ Q I1 (by simpa using rv) hw
def gSub(to ti:TE)(t:TSet):TG:=λv σ H Q=>to σ H λo H1=>ti σ H1 λi H2=>t o i v H2 λH3=>Q σ H3
def tX{o i:PJ}{to ti:TE}{t:TSet}(ho:PE X o to)(hi:PE X i ti)(hs:PSet X t)
  (ha:∀ v,Qp (.Subscript o i pos) X.env v=(do
   let ov <- Qh [v] (PX o X.env)
   let iv <- Qh [v,ov] (PX i X.env)
   Qz pos
   Qh [v,ov,iv] (Q4 ov iv v)
   Rq [v,ov,iv] []):=by intro _;rfl):PG X (.Subscript o i pos) (gSub to ti t):=by
 intro pins s σ H v u Q I r h;rw[ha];refine Os (Qe (thn (ho pins s σ H _ I h) λov s1 b8=>?_));obtain⟨x,H1,I1,r1,q1⟩:=b8;refine Os (Qe (thn (hi pins s1 σ H1 _ I1 q1) λiv s2 b8=>?_));obtain⟨y,H2,I2,r2,q2⟩:=b8;refine Os (Qd (Os (Qe (thn (hs pins s2 σ H2 x y v ov iv u _ I2 r1 r2 r q2) λ_ s3 b8=>?_))));obtain⟨H3,I3,q3⟩:=b8;exact wpAny_release ⟨σ,H3,I3,q3⟩
def tAsg(te:TE)(g:TG):TS:=λD σ H=>te σ H λx H1=>g x σ H1 D.nx
variable{te:TE}
def ja{tg:PJ}{g:TG}(he:PE X e te)(hg:PG X tg g)(hs:autoParam (Qi [tg] e pos.line X.env=pure false) zA0)(hw:autoParam (Qj [tg] e X.env=pure none) zA0)
  (h1:autoParam ((PU [tg] X.env).map (·.2)=[Qp tg X.env]) zA0):PS X (.Assign [tg] e pos) (tAsg te g):=by
 intro pins s σ H D I h;refine wpAny_Assign_stores (thn (he pins s σ H _ I h) λv s1 hh=>?_) hs hw;obtain⟨x,H1,I1,r1,q1⟩:=hh;rw[h1];exact thn (hg pins s1 σ H1 x v _ I1 r1 q1) λ_ s2 q=>q
def gf{c9:P0}(hN:X.N.Nodup)(hi:X.N[i]?=be x)(hx:Loc X.env.scope x)(he:PE X e te)(hs:autoParam (P4 e (be (.Name x c9)) pos.line X.env=pure false) zA0)(hf:autoParam (zFN X x) zA2):
  PS X (.Assign [.Name x c9] e pos) (tAsg te (fq i)):=by
 intro pins s σ H D I h;refine wpAny_Assign_Name (thn (he pins s σ H _ I h) λv s1 hh=>?_) hs;obtain⟨y,H1,I1,r1,q1⟩:=hh;exact dS I1 hN hi hx r1 (λs2 I2=>⟨_,H1,I2,q1⟩) hf
def tPar(i j:Nat)(ta:TA):TS:=λD σ H=>ta σ H λvs H1=>∃ v w,vs=[v,w]/\D.nx ((σ.set i (be v)).set j (be w)) H1
def tY{j:Nat}{y:y'}{a b:PJ}{ta:TA}{px py pt:P0}{kt k2 HP}(hc:X.calm=true)(hN:X.N.Nodup)(hi:X.N[i]?=be x)(hj:X.N[j]?=be y)(KC:i≠j)
  (hx:X.env.scope.names.lookup x=be .local) (hy:X.env.scope.names.lookup y=be .local) (ha:PA X [a,b] ta)
  (hw:Qj [.Tuple [.Name x px,.Name y py] kt pt] (.Tuple [a,b] k2 HP) X.env=pure (be [x,y]))
  (hs:autoParam (Qi [.Tuple [.Name x px,.Name y py] kt pt] (.Tuple [a,b] k2 HP) pos.line X.env=pure false) zA0):
  PS X (.Assign [.Tuple [.Name x px,.Name y py] kt pt] (.Tuple [a,b] k2 HP) pos) (tPar i j ta):=by
 intro pins s σ H D I h;rw[exec_Assign_arm];refine Os (Qd ?_);rw[hs];refine Os (PK ?_);rw[if_neg (by decide)];refine Os (Tuple_ (thn (ha _ pins s σ H _ I h) λus s1 b8=>?_));obtain⟨vs,H1,I1,r1,q1⟩:=b8;obtain⟨v,w,e1,q1⟩:=q1;subst e1;obtain⟨u1,u2,rfl,rv,g8⟩:∃ u1 u2,us=[u1,u2]/\RelV v u1/\RelV w u2:=by
  cases r1 with
  |cons p q=>
   cases q with
   |cons p' q'=>
    cases q';exact⟨_,_,rfl,p,p'⟩
 refine P1 ?_ (by show 2<=sizeLine;decide);have I2:Inv X pins σ H1 {s1 with heap:=s1.heap.push {cls:= .type "tuple",data:= .seq [u1,u2].toArray} }:=I1.kept (t':=s1.toks) λb o e=>Heap.get?_push_of_some _ e;rw[hw];refine Os (PK ?_);show PN (PM X.prog X.w) X.A (do rule "assign.swapped-stores";let items <- unpackItems (.ref s1.heap.objs.size) 2 o_;QZ [λv=>Rf X.env y v,λv=>Rf X.env x v] items.reverse;pure Flow.next) _ _ _;refine Os (Ri (Os (unpackItems_tuple (items:=#[u1,u2]) (I.ok.hd hc) (IsTup.new s1.heap _) λh' i6=>?_)));have I3:=I2.kept (h':=h') (t':=s1.toks) λb o e=>i6 b o (Eh (Heap.lt_size e)) e;show PN _ _ (QZ [λv=>Rf X.env y v,λv=>Rf X.env x v] [u2,u1]>>=λ_=>pure Flow.next) _ _ _;refine Os (QJ (wpAny_bindName (dS I3 hN hj (.inl hy) g8 (λs2 I4=>?_) (.inr hy))));refine QJ (wpAny_bindName (dS I4 hN hi (.inl hx) rv (λs3 I5=>Ru (PK ?_)) (.inr hx)));rw[List.set_comm _ _ (Ne.symm KC)] at I5;exact⟨_,H1,I5,q1⟩
def tZ(to ti te:TE)(y8:V->V->Hp->VK->Prop)(J2:TIp)(y9:TSet):TS:=λD σ H=>to σ H λo H1=>ti σ H1 λi H2=>y8 o i H2 λx H3=>te σ H3 λy H4=>J2 x y H4 λz H5=>y9 o i z H5 λH6=>D.nx σ H6
def PGet(X:Cx)(t:V->V->Hp->VK->Prop):Prop:=
 ∀ (pins:List (KF × P7)) (s:KM) (σ:St) (H:Hp) (o i:V) (ov iv:KB) (Q:VK),Inv X pins σ H s->RelV o ov->RelV i iv->t o i H Q->
  PN (PM X.prog X.w) X.A (QT ov iv) (EP X pins σ Q) X.xe s
def ub{o i:PJ}{to ti:TE}{y8:V->V->Hp->VK->Prop}{J2:TIp}{y9:TSet}{op:QX}{IN:P0}(ho:PE X o to)(hi:PE X i ti)(hg:PGet X y8)(he:PE X e te)(hp:PIp X op J2)(hs:PSet X y9)
  (ha:autoParam (∀ ov iv new,augStore i ov iv new=(do Qh [new,ov,iv] (Q4 ov iv new);Rq [new,ov,iv] [];pure .next)) zA7):PS X (.AugAssign (.Subscript o i IN) op e pos) (tZ to ti te y8 J2 y9):=by
 intro pins s σ H D I h;refine wpAny_AugAssign_SubscriptAny (thn (ho pins s σ H _ I h) λov s1 hh=>?_) ha;obtain⟨x1,H1,I1,r1,q1⟩:=hh;refine thn (hi pins s1 σ H1 _ I1 q1) λiv s2 b8=>?_;obtain⟨x2,H2,I2,r2,q2⟩:=b8;refine thn (hg pins s2 σ H2 x1 x2 ov iv _ I2 r1 r2 q2) λd8 s3 b8=>?_;obtain⟨x3,H3,I3,r3,q3⟩:=b8;refine thn (he pins s3 σ H3 _ I3 q3) λv s4 b8=>?_;obtain⟨x4,H4,I4,r4,q4⟩:=b8;refine thn (hp pins s4 σ H4 x3 x4 d8 v _ I4 r3 r4 q4) λnew s5 b8=>?_;obtain⟨x5,H5,I5,r5,q5⟩:=b8;exact thn (hs pins s5 σ H5 x1 x2 x5 ov iv new _ I5 r1 r2 r5 q5) λ_ s6 ⟨H6,I6,q6⟩=>⟨σ,H6,I6,q6⟩
def ipI(f:Int->Int->Int):TIp:=λx y H Q=>∃ i j,x= .int i/\y= .int j/\Q (.int (f i j)) H
def uc:PIp X .Add (ipI λi j=>i+j):=by
 intro pins s σ H x y v u Q I r1 r2 h;obtain⟨i,j,e1,e2,q⟩:=h;subst e1;subst e2;obtain⟨t,rfl⟩:=r1;obtain⟨t',rfl⟩:=r2;exact iadd_int ⟨.int _,H,I.tok _,⟨_,rfl⟩,q⟩
def ud(c:TT)(tb:TS):TS:=λD σ H=>∃ W:Nat->St->Hp->Prop,(∃ m,W m σ H)/\∀ m σ H,W m σ H->
 c σ H λb H1=>if b=true then ∃ N:St->Hp->Prop,(∀ σ' H',N σ' H'->∃ m',m'<m/\W m' σ' H')/\tb {D with nx:=N,ct:=N,bk:=D.nx} σ H1 else D.nx σ H1
def oy{c:PJ}{body:List PL}{tc:TT}{tb:TS}(hp:Qc (PM X.prog X.w) X.A X.env X.xe)(hc:PT X c tc)(hb:PSs X body tb):PS X (.While c body [] pos) (ud tc tb):=by
 intro pins s σ H D I h;obtain⟨W,⟨m0,w0⟩,c7⟩:=h;refine wpAny_While (codeAny_whileLoop (λn s'=>∃ σ' H',Inv X pins σ' H' s'/\W n σ' H') ?_ m0 ⟨σ,H,I,w0⟩);rintro n s1 ⟨σ1,H1,I1,w1⟩;refine P9 hp (thn (hc pins s1 σ1 H1 _ I1 (c7 n σ1 H1 w1)) λb s2 b8=>?_);obtain⟨H2,I2,q2⟩:=b8;cases b with
 |true=>
  obtain⟨N,hN,q2⟩:=q2;rw[if_pos rfl];refine P9 hp (thn (hb pins s2 σ1 H2 _ I2 q2) λf s3 q3=>?_);cases f with
  |next=>
   obtain⟨σ3,H3,I3,n3⟩:=q3;obtain⟨m',hm,w3⟩:=hN σ3 H3 n3;exact⟨m',hm,σ3,H3,I3,w3⟩
  |cont=>
   obtain⟨σ3,H3,I3,n3⟩:=q3;obtain⟨m',hm,w3⟩:=hN σ3 H3 n3;exact⟨m',hm,σ3,H3,I3,w3⟩
  |brk=>exact q3
  |ret v=>exact q3
 |false=>
  rw[if_neg Ej];exact QB ⟨σ1,H2,I2,q2⟩
end
structure It where
 go:Nat->Hp->Prop
 yld:Nat->Hp->V->Hp->Prop
 stop:Nat->Hp->Prop
def FpOk(X:Cx)(pins:List (KF × P7))(H:Hp)(b:KF):Prop:=
 H b=o_/\b≠X.env.locals/\b ∉ X.fs/\(b∈X.ex\/X.s₀.heap.objs.size<=b)/\(∀ x c,X.env.cells.lookup x=be c->c≠b)/\∀ p∈X.pn++pins,p.1≠b
variable{σ:St}
def Inv.fpOk{pins:List (KF × P7)}{H':Hp}(I:Inv X pins σ H s)(hb:s.heap.objs.size<=b)(hn:H' b=o_):FpOk X pins H' b:=by
 refine⟨hn,E8 (Ez I.lt hb),I.nofs hb,.inr (Ei I.sz hb),λx c e z=>?_,λp hp z=>?_⟩
 .obtain⟨v,q⟩:=I.cell x c e;exact absurd (Ez q.lt (by rw[z];exact hb)) (E7 _)
 .exact absurd (Ez (Heap.lt_size (I.pin p hp).1) (by rw[z];exact hb)) (E7 _)
structure Turn(P:PH)(w:PP)(K:D6)(tg:PJ)(J:It)(fp:List KF)(it:KF)(tn:Nat->Heap->Prop):Prop where
 mem:it∈fp
 obj:∀ i h,tn i h->∀ b∈fp,∃ o,h.get? b=be o/\∀ v,o.data≠.cell v
 keep:∀ i h h',tn i h->(∀ b∈fp,∀ o,h.get? b=be o->h'.get? b=be o)->tn i h'
 item:∀ (X:Cx),X.prog=P->X.w=w->X.K=K->X.calm=true->∀ (i:Nat) (pins:List (KF × P7)) (s:KM) (σ:St) (H:Hp) (E:KB->KM->Prop),Inv X pins σ H s->(∀ b∈fp,FpOk X pins H b)->tn i s.heap->J.go i H->
  PN (PM P w) X.A (pyNext (.ref it)) (λr s1=>∃ u,r=be u/\
   PN (PM P w) X.A (QD tg (.ref it) u) (λ_ s2=>∃ x H',Inv X pins σ H' s2/\RelV x u/\J.yld i H x H'/\tn (i+1) s2.heap/\∀ b∈fp,H' b=o_) E s1) E s
 done:∀ (X:Cx),X.prog=P->X.w=w->X.K=K->X.calm=true->∀ (i:Nat) (pins:List (KF × P7)) (s:KM) (σ:St) (H:Hp) (E:KB->KM->Prop),Inv X pins σ H s->(∀ b∈fp,FpOk X pins H b)->tn i s.heap->J.stop i H->
  PN (PM P w) X.A (pyNext (.ref it)) (λr s1=>r=o_/\Inv X pins σ H s1) E s
 self:∀ (A:PQ) (i:Nat) (s:KM) (Q:KB->KM->Prop) (E:KB->KM->Prop),tn i s.heap->Q (.ref it) s->PN (PM P w) A (pyIter (.ref it)) Q E s
abbrev TI:=St->Hp->(It->Hp->Prop)->Prop
def PIE(X:Cx)(pins:List (KF × P7))(σ:St)(tg:PJ)(R:It->Hp->Prop)(J3:KB)(s2:KM):Prop:=
 ∃ (it:KF) (fp:List KF) (tn:Nat->Heap->Prop) (J:It) (H':Hp),J3= .ref it/\Inv X pins σ H' s2/\Turn X.prog X.w X.K tg J fp it tn/\tn 0 s2.heap/\(∀ b∈fp,FpOk X pins H' b)/\R J H'
def PI(X:Cx)(tg iter:PJ)(wi:TI):Prop:=
 ∀ (pins:List (KF × P7)) (s:KM) (σ:St) (H:Hp) (R:It->Hp->Prop),Inv X pins σ H s->wi σ H R->
  PN (PM X.prog X.w) X.A (PX iter X.env) (λv s1=>PN (PM X.prog X.w) X.A (pyIter v) (PIE X pins σ tg R) X.xe s1) X.xe s
variable{tg:PJ}
def jb{M:Model}{it:KF}{o:P7}{n:String}{vs:Array KB}{Q:Unit->KM->Prop}(ho:s.heap.get? it=be o)(hc:o.cls= .type n)(hd:o.data= .fields vs)
    (hn:["enumerate","zip","dict_itemiterator","dict_reverseitemiterator","odict_iterator","itertools.zip_longest","itertools.pairwise"].contains n=false) (hQ:Q () s):PN M A (QD tg (.ref it) u) Q E s:=by
  unfold QD;cases tg<;>first
    |exact PK hQ
    |(cases u<;>first
        |exact PK hQ
        | (refine Os (wpAny_load ho ?_)
           rw[hc,hd];show PN M A (if(["enumerate","zip","dict_itemiterator","dict_reverseitemiterator","odict_iterator","itertools.zip_longest","itertools.pairwise"].contains n && vs[0]?==be (QG _))=true then _ else _) Q E s;rw[if_neg (by intro h;rw[hn,Bool.false_and] at h;cases h)];exact PK hQ))
def Itl(K:D6)(a:KF):It:=
 ⟨λi H=>∃ xs x,SqL K H a xs/\xs[i]?=be x,λi H x H'=>H'=H/\∀ xs,SqL K H a xs->xs[i]?=be x,λi H=>∃ xs,SqL K H a xs/\xs.length<=i⟩
def Itr(lo:Int)(n:Nat):It:=⟨λi _=>i<n,λi H x H'=>H'=H/\x= .int (lo+i),λi _=>n<=i⟩
variable{K:D6}
def ue(a it:KF):Turn P w K tg (Itl K a) [it] it (λi h=>h.IsListIter it a i) where
 mem:=by simp
 obj:=λi h st b hb=>by
  have e:b=it:=by simpa using hb
  subst e;obtain⟨o,e,c,d⟩:=st;exact⟨o,e,λv z=>by rw[d] at z;cases z⟩
 keep:=λi h h' st k=>st.at λo e=>k it (by simp) o e
 item:=by
  intro X hP hw hK hc i pins s σ H E I hf st hg;subst hP hw hK;obtain⟨xs,x,hq,hx⟩:=hg;obtain⟨its,rv,p,hz⟩:=I.list hq;obtain⟨u,hu,ru⟩:=rv.get hx;obtain⟨f0,f1,f2,f3,f4,f5⟩:=hf it (by simp);refine wpAny_pyNext_list_item st p.isList (x:=u) (by simpa using hu) λh' st' sb=>?_;have I1:Inv X pins σ H {s with heap:=h'}:=I.turned (t':=s.toks) (λb o hb e=>(sb.2 b hb).trans e) f0 f1 f3 f4 f5;obtain⟨o,e,c,d⟩:=id st';exact⟨u,rfl,jb (s:={s with heap:=h'}) e c d (by decide) ⟨x,H,I1,ru,⟨rfl,λys hy=>by rw[I.list_inj hy hq];exact hx⟩,st',λb hb=>(hf b hb).1⟩⟩
 done:=by
  intro X hP hw hK hc i pins s σ H E I hf st hg;subst hP hw hK;obtain⟨xs,hq,hx⟩:=hg;obtain⟨its,rv,p,hz⟩:=I.list hq;obtain⟨f0,f1,f2,f3,f4,f5⟩:=hf it (by simp);have hl:=rv.length;exact wpAny_pyNext_list_end (I.ok.hd hc) st p.isList (by simp;lia) λh' eb=>⟨rfl,I.turned (t':=s.toks) (λb o hb e=>eb b o hb e) f0 f1 f3 f4 f5⟩
 self:=λ_ _ _ _ _ st h=>wpAny_pyIter_listiter st h
def uf(it:KF)(lo:Int)(n:Nat):Turn P w K tg (Itr lo n) [it] it (λi h=>IsRangeIter h it (lo+(i:Nat)*1) ((n:Int) - (i:Nat)) 1) where
 mem:=by simp
 obj:=λi h st b hb=>by
  have e:b=it:=by simpa using hb
  subst e;exact⟨_,st,λv z=>by
   have z':Data.fields _=Data.cell v:=z;cases z'⟩
 keep:=λi h h' st k=>k it (by simp) _ st
 item:=by
  intro X hP hw hK hc i pins s σ H E I hf st hg;subst hP hw hK;obtain⟨f0,f1,f2,f3,f4,f5⟩:=hf it (by simp);have W:=Walks.range (prog:=X.prog) (w:=X.w) (I.ok.hd hc) it lo 1 n;refine W.item i s _ _ hg st λv h' tk hv st' kk=>?_;obtain⟨t,rfl⟩:=hv;have I1:Inv X pins σ H {s with heap:=h',toks:=tk}:=I.turned (λb o hb e=>kk b o (by simpa using hb) e) f0 f1 f3 f4 f5;refine⟨_,rfl,jb (s:={s with heap:=h',toks:=tk}) (n:="range_iterator") st' rfl rfl (by decide) ⟨.int (lo+i),H,I1,⟨t,?_⟩,⟨rfl,rfl⟩,st',λb hb=>(hf b hb).1⟩⟩;rw[Int.mul_one]
 done:=by
  intro X hP hw hK hc i pins s σ H E I hf st hg;subst hP hw hK;obtain⟨f0,f1,f2,f3,f4,f5⟩:=hf it (by simp);exact wpAny_pyNext_range_end (I.ok.hd hc) st (by have:n<=i:=hg;lia) λh' eb=>⟨rfl,I.turned (t':=s.toks) (λb o hb e=>eb b o hb e) f0 f1 f3 f4 f5⟩
 self:=λ_ _ _ _ _ st h=>wpAny_pyIter_rangeiter st h
section
variable {X:Cx}{tg:PJ}
def oz(K:D6)(tl:TE):TI:=λσ H R=>tl σ H λx H1=>∃ a,x= .ref a/\(∃ xs,SqL K H1 a xs)/\R (Itl K a) H1
def oA{l:PJ}{tl:TE}(hl:PE X l tl):PI X tg l (oz X.K tl):=by
 intro pins s σ H R I h;refine thn (hl pins s σ H _ I h) λv s1 b8=>?_;obtain⟨x,H1,I1,r1,q1⟩:=b8;obtain⟨a,e,⟨xs,hq⟩,q⟩:=q1;subst e;cases r1;obtain⟨its,rv,p,hz⟩:=I1.list hq;refine wpAny_pyIter_list p.isList ?_;refine⟨s1.heap.objs.size,[s1.heap.objs.size],_,_,H1,rfl,I1.kept (t':=s1.toks) λb o e=>Heap.get?_push_of_some _ e,ue a _,⟨_,Heap.get?_push_size _ rfl,rfl,rfl⟩,λb hb=>?_,q⟩;have e:b=s1.heap.objs.size:=by simpa using hb
 subst e;exact I1.fpOk (D7 _) (I1.hok.fresh (D7 _))
variable{pins:List (KF × P7)}{σ:St}{H:Hp}{s:KM}
def oB{R:It->Hp->Prop}{E:KB->KM->Prop}{lo hi:Int}{t u v:Tok}{tk:Nat}(I:Inv X pins σ H s)(h1: -(2 ^ 62)<=lo)(h2:lo<2 ^ 62)(h3: -(2 ^ 62)<=hi)(h4:hi<2 ^ 62)
  (q:R (Itr lo (hi - lo).toNat) H):PN (PM X.prog X.w) X.A (pyIter (.ref s.heap.objs.size)) (PIE X pins σ tg R) E {s with heap:=s.heap.push {cls:= .type "range",data:= .fields #[.int lo t,.int hi u,.int 1 v]},toks:=tk}:=by
 refine wpAny_pyIter_range (IsRange.new ..) (small_one h1 h2 h3 h4) ?_;have I1:Inv X pins σ H {s with heap:=s.heap.push {cls:= .type "range",data:= .fields #[.int lo t,.int hi u,.int 1 v]},toks:=tk}:=I.kept λb o e=>Heap.get?_push_of_some _ e;refine⟨(s.heap.push {cls:= .type "range",data:= .fields #[.int lo t,.int hi u,.int 1 v]}).objs.size,[(s.heap.push {cls:= .type "range",data:= .fields #[.int lo t,.int hi u,.int 1 v]}).objs.size],_,_,H,rfl,
  I1.kept (t':=tk) λb o e=>Heap.get?_push_of_some _ e,uf _ lo (hi - lo).toNat,?_,λb hb=>?_,q⟩
 .have e1:lo+((0:Nat):Int)*1=lo:=by simp
  have e2:(((hi - lo).toNat:Nat):Int) - ((0:Nat):Int)=Builtin.Range.rangeSize lo hi 1:=by rw[rangeSize_one];split<;>lia
  show IsRangeIter _ _ (lo+((0:Nat):Int)*1) ((((hi - lo).toNat:Nat):Int) - ((0:Nat):Int)) 1;rw[e1,e2];exact Heap.get?_push_size _ rfl
 .have e:b=(s.heap.push {cls:= .type "range",data:= .fields #[.int lo t,.int hi u,.int 1 v]}).objs.size:=by simpa using hb
  subst e;exact I1.fpOk (D7 _) (I1.hok.fresh (D7 _))
def oC(ta:TA):TI:=λσ H R=>ta σ H λvs H1=>∃ j:Int,vs=[.int j]/\-(2 ^ 62)<=j/\j<2 ^ 62/\R (Itr 0 j.toNat) H1
def uh(ta:TA):TI:=λσ H R=>ta σ H λvs H1=>∃ i j:Int,vs=[.int i,.int j]/\(-(2 ^ 62)<=i/\i<2 ^ 62/\-(2 ^ 62)<=j/\j<2 ^ 62)/\R (Itr i (j - i).toNat) H1
variable{pos:P0}
def jc{a:PJ}{ta:TA}{p:P0}(hg:Gl X "range")(hm:X.mg "range"=o_)(ha:PA X [a] ta)(hs:autoParam (PR [a] X.env=[(false,PX a X.env)]) zA0):PI X tg (.Call (.Name "range" p) [a] [] pos) (oC ta):=by
 intro pins s σ H R I h;refine Call_ (dh I hg hm boot_range (PyProof.Rows.callWith_type1 (thn (ha pos pins s σ H _ I h) λus s1 hh=>?_) hs rfl));obtain⟨vs,H1,I1,r1,q1⟩:=hh;obtain⟨j,e,q1,q2,q⟩:=q1;subst e;cases r1 with
 |cons r rr=>
  cases rr;obtain⟨t,rfl⟩:=r;exact call_range_1 (oB I1 (by lia) (by lia) q1 q2 (by simpa using q))
def ui{a b:PJ}{ta:TA}{p:P0}(hg:Gl X "range")(hm:X.mg "range"=o_)(ha:PA X [a,b] ta)(hs:autoParam (PR [a,b] X.env=[(false,PX a X.env),(false,PX b X.env)]) zA0)(l_:autoParam (PR [b] X.env=[(false,PX b X.env)]) zA0):
  PI X tg (.Call (.Name "range" p) [a,b] [] pos) (uh ta):=by
 intro pins s σ H R I h;refine Call_ (dh I hg hm boot_range (PyProof.Rows.callWith_type1 (thn (ha pos pins s σ H _ I h) λus s1 hh=>?_) (by rw[hs,l_]) (by rw[l_];rfl)));obtain⟨vs,H1,I1,r1,q1⟩:=hh;obtain⟨i,j,e,⟨q1,q2,q3,q4⟩,q⟩:=q1;subst e;cases r1 with
 |cons r rr=>
  cases rr with
  |cons r' rr=>
   cases rr;obtain⟨t,rfl⟩:=r;obtain⟨t',rfl⟩:=r';exact call_range_2 (oB I1 q1 q2 q3 q4 q)
def tFor(wi:TI)(g:TG)(tb:TS):TS:=λD σ H=>wi σ H λJ H1=>∃ W:Nat->Nat->St->Hp->Prop,(∃ m,W 0 m σ H1)/\∀ i m σ H,W i m σ H->
 (J.stop i H/\D.nx σ H)\/(J.go i H/\∃ N:St->Hp->Prop,(∀ σ' H',N σ' H'->∃ m',m'<m/\W (i+1) m' σ' H')/\∀ x H',J.yld i H x H'->g x σ H' λσ2 H2=>tb {D with nx:=N,ct:=N,bk:=D.nx} σ2 H2)
def gh(fp:List KF)(h:Heap):List (KF × P7):=fp.filterMap λb=>(h.get? b).map λo=>(b,o)
variable{fp:List KF}
def cu{h:Heap}{b:KF}{o:P7}(hb:b∈fp)(e:h.get? b=be o):(b,o)∈gh fp h:=GB.mpr ⟨b,hb,by rw[e];rfl⟩
def uj{h:Heap}{p:KF × P7}(hp:p∈gh fp h):p.1∈fp/\h.get? p.1=be p.2:=by
 obtain⟨b,hb,e⟩:=GB.mp hp;cases q:h.get? b with
 |none=>rw[q] at e;cases e
 |some o=>
  rw[q] at e;have e':(b,o)=p:=Option.some.inj e;subst e';exact⟨hb,q⟩
def Inv.pinned(I:Inv X pins σ H s)(hf:∀ b∈fp,FpOk X pins H b)(ho:∀ b∈fp,∃ o,s.heap.get? b=be o/\∀ v,o.data≠.cell v):Inv X (pins++gh fp s.heap) σ H s:=
 I.pins_of λp hp=>(EC.mp hp).elim (λz=>I.pin p (Ek _ z)) λz=>by
  obtain⟨hb,e⟩:=uj z;obtain⟨f0,f1,f2,_⟩:=hf p.1 hb;obtain⟨o,e',d⟩:=ho p.1 hb;rw[e] at e';cases e';exact⟨e,f0,f1,f2,d⟩
def Inv.unpinned{pl:List (KF × P7)}(I:Inv X (pins++pl) σ H s):Inv X pins σ H s:=I.pins_of λp hp=>I.pin p (Ek _ (EV _ hp))
def dm{iter:PJ}{body:List PL}{wi:TI}{g:TG}{tb:TS}(hp:Qc (PM X.prog X.w) X.A X.env X.xe)(hc:X.calm=true)(hi:PI X tg iter wi)(hg:PG X tg g)(hb:PSs X body tb)
  (hs:∀ x,Rt iter X.env x=pure x:=by intro _;rfl):PS X (.For tg iter body [] pos) (tFor wi g tb):=by
 intro pins s σ H D I h;refine wpAny_For (thn (hi pins s σ H _ I h) λv s1 h1=>thn h1 λJ3 s2 h2=>?_) hs;obtain⟨it,fp,tn,J,H2,e,I2,T,HQ,f2,W,⟨m0,w0⟩,c7⟩:=h2;subst e;have g9:∀ {H':Hp},(∀ b∈fp,H' b=o_)->∀ b∈fp,FpOk X pins H' b:=λhn b hb=>⟨hn b hb,(f2 b hb).2⟩;refine codeAny_forLoop_any (λn s'=>∃ i σ' H',Inv X pins σ' H' s'/\tn i s'.heap/\(∀ b∈fp,H' b=o_)/\W i n σ' H') ?_ m0 ⟨0,σ,H2,I2,HQ,λb hb=>(f2 b hb).1,w0⟩;rintro n s3 ⟨i,σ3,H3,I3,Hy,MG,w3⟩;rcases c7 i n σ3 H3 w3 with⟨stop,qn⟩|⟨go,N,hN,step⟩
 .refine P9 hp (thn (T.done X rfl rfl rfl hc i pins s3 σ3 H3 X.xe I3 (g9 MG) Hy stop) λr s4 b8=>?_);obtain⟨hr,I4⟩:=b8;subst hr;exact QB ⟨σ3,H3,I4,qn⟩
 .refine P9 hp (thn (T.item X rfl rfl rfl hc i pins s3 σ3 H3 X.xe I3 (g9 MG) Hy go) λr s4 b8=>?_);obtain⟨u,hr,h4⟩:=b8;subst hr;refine P9 hp (thn h4 λ_ s5 b8=>?_);obtain⟨x,H5,I5,r5,y5,m5,IQ⟩:=b8;have NG:=I5.pinned (g9 IQ) (T.obj _ _ m5);refine P9 hp (thn (hg _ s5 σ3 H5 x u _ NG r5 (step x H5 y5)) λ_ s6 b8=>?_);obtain⟨σ6,H6,I6,q6⟩:=b8;refine P9 hp (thn (hb _ s6 σ6 H6 _ I6 q6) λf s7 q7=>?_);have again:∀ {σ7:St} {H7:Hp},Inv X (pins++gh fp s5.heap) σ7 H7 s7->N σ7 H7->∃ m,m<n/\∃ i σ' H',Inv X pins σ' H' s7/\tn i s7.heap/\(∀ b∈fp,H' b=o_)/\W i m σ' H':=λ{σ7 H7} I7 n7=>by
   obtain⟨m',hm,w7⟩:=hN σ7 H7 n7;refine⟨m',hm,i+1,σ7,H7,I7.unpinned,T.keep _ _ _ m5 λb hb o e=>(I7.pin (b,o) (Ek _ (Ek _ (cu hb e)))).1,λb hb=>?_,w7⟩;obtain⟨o,e,d⟩:=T.obj _ _ m5 b hb;exact(I7.pin (b,o) (Ek _ (Ek _ (cu hb e)))).2.1
  cases f with
  |next=>obtain⟨σ7,H7,I7,n7⟩:=q7;exact again I7 n7
  |cont=>obtain⟨σ7,H7,I7,n7⟩:=q7;exact again I7 n7
  |brk=>obtain⟨σ7,H7,I7,q7⟩:=q7;exact⟨σ7,H7,I7.unpinned,q7⟩
  |ret v=>obtain⟨x7,σ7,H7,I7,r7,q7⟩:=q7;exact⟨x7,σ7,H7,I7.unpinned,r7,q7⟩
end
def oE{g:TG}{tb:TS}{D:Ends}(Pv:Nat->St->Hp->Prop)(h0:Pv 0 σ H)(hl:∀ i σ H,i<=xs.length->Pv i σ H->SqL K H a xs)
  (hs:∀ i x σ H,xs[i]?=be x->Pv i σ H->g x σ H λσ2 H2=>tb {D with nx:=Pv (i+1),ct:=Pv (i+1),bk:=D.nx} σ2 H2) (hd:∀ σ H,Pv xs.length σ H->D.nx σ H):
  ∃ W:Nat->Nat->St->Hp->Prop,(∃ m,W 0 m σ H)/\∀ i m σ H,W i m σ H->
   ((Itl K a).stop i H/\D.nx σ H)\/((Itl K a).go i H/\∃ N:St->Hp->Prop,(∀ σ' H',N σ' H'->∃ m',m'<m/\W (i+1) m' σ' H')/\∀ x H',(Itl K a).yld i H x H'->g x σ H' λσ2 H2=>tb {D with nx:=N,ct:=N,bk:=D.nx} σ2 H2):=by
 refine⟨λi m σ H=>m=xs.length - i/\i<=xs.length/\Pv i σ H,⟨xs.length,by simp,EA _,h0⟩,?_⟩;rintro i m σ H ⟨rfl,hi,p⟩;have q:=hl i σ H hi p;by_cases g5:i<xs.length
 .refine .inr ⟨⟨xs,xs[i],q,by simp[g5]⟩,Pv (i+1),λσ' H' p'=>⟨xs.length - (i+1),by lia,rfl,g5,p'⟩,λx H' y=>?_⟩;obtain⟨e,y⟩:=y;subst e;exact hs i x σ _ (y xs q) p
 .have e:i=xs.length:=by lia
  subst e;exact .inl ⟨⟨xs,q,D7 _⟩,hd σ H p⟩
def jd{lo:Int}{n:Nat}{g:TG}{tb:TS}{D:Ends}(Pv:Nat->St->Hp->Prop)(h0:Pv 0 σ H)
  (hs:∀ i σ H,i<n->Pv i σ H->g (.int (lo+i)) σ H λσ2 H2=>tb {D with nx:=Pv (i+1),ct:=Pv (i+1),bk:=D.nx} σ2 H2) (hd:∀ σ H,Pv n σ H->D.nx σ H):
  ∃ W:Nat->Nat->St->Hp->Prop,(∃ m,W 0 m σ H)/\∀ i m σ H,W i m σ H->
   ((Itr lo n).stop i H/\D.nx σ H)\/((Itr lo n).go i H/\∃ N:St->Hp->Prop,(∀ σ' H',N σ' H'->∃ m',m'<m/\W (i+1) m' σ' H')/\∀ x H',(Itr lo n).yld i H x H'->g x σ H' λσ2 H2=>tb {D with nx:=N,ct:=N,bk:=D.nx} σ2 H2):=by
 refine⟨λi m σ H=>m=n - i/\i<=n/\Pv i σ H,⟨n,by simp,EA _,h0⟩,?_⟩;rintro i m σ H ⟨rfl,hi,p⟩;by_cases g5:i<n
 .refine .inr ⟨g5,Pv (i+1),λσ' H' p'=>⟨n - (i+1),by lia,rfl,g5,p'⟩,λx H' y=>?_⟩;obtain⟨e,y⟩:=y;subst e y;exact hs i σ _ g5 p
 .have e:i=n:=by lia
  subst e;exact .inl ⟨D7 _,hd σ H p⟩
abbrev R2:=V->V->Hp->VK->Prop
def OpR(X:Cx)(f:KB->KB->Q_ KB)(r:R2):Prop:=
 ∀ (pins:List (KF × P7)) (s:KM) (σ:St) (H:Hp) (x y:V) (v u:KB) (Q:VK),Inv X pins σ H s->RelV x v->RelV y u->r x y H Q->
  PN (PM X.prog X.w) X.A (f v u) (EP X pins σ Q) X.xe s
def UnR(X:Cx)(f:KB->Q_ KB)(r:V->Hp->VK->Prop):Prop:=
 ∀ (pins:List (KF × P7)) (s:KM) (σ:St) (H:Hp) (x:V) (v:KB) (Q:VK),Inv X pins σ H s->RelV x v->r x H Q->
  PN (PM X.prog X.w) X.A (f v) (EP X pins σ Q) X.xe s
def bA(X:Cx)(f:KB)(r:List V->Hp->VK->Prop):Prop:=
 ∀ (pins:List (KF × P7)) (s:KM) (σ:St) (H:Hp) (xs:List V) (us:List KB) (Q:VK),Inv X pins σ H s->Vals xs us->r xs H Q->
  PN (PM X.prog X.w) X.A (call f us) (EP X pins σ Q) X.xe s
def TruR(X:Cx)(r:V->Hp->(Bool->Hp->Prop)->Prop):Prop:=
 ∀ (pins:List (KF × P7)) (s:KM) (σ:St) (H:Hp) (x:V) (v:KB) (Q:Bool->Hp->Prop),Inv X pins σ H s->RelV x v->r x H Q->
  PN (PM X.prog X.w) X.A (truthy v) (TP X pins σ Q) X.xe s
def tOp(r:R2)(ta tb:TE):TE:=λσ H Q=>ta σ H λx H1=>tb σ H1 λy H2=>r x y H2 Q
def tUn(r:V->Hp->VK->Prop)(ta:TE):TE:=λσ H Q=>ta σ H λx H1=>r x H1 Q
def rI(C:Int->Int->Prop)(g:Int->Int->V):R2:=λx y H Q=>∃ i j,x= .int i/\y= .int j/\C i j/\Q (g i j) H
def rI0(g:Int->Int->V):R2:=λx y H Q=>∃ i j,x= .int i/\y= .int j/\Q (g i j) H
def rU(g:Int->V):V->Hp->VK->Prop:=λx H Q=>∃ i,x= .int i/\Q (g i) H
section
variable {X:Cx}{a b c:PJ}{ta tb tc:TE}{pos:P0}
variable{f:KB->KB->Q_ KB}
def binT(ha:PE X a ta)(hb:PE X b tb){pins:List (KF × P7)}{s:KM}{σ:St}{H:Hp}{R:V->V->Hp->Prop}(I:Inv X pins σ H s)
  (h:ta σ H λx H1=>tb σ H1 λy H2=>R x y H2) {Q:KB->KM->Prop} 
  (hf:∀ v u s2 x y H2,Inv X pins σ H2 s2->RelV x v->RelV y u->R x y H2->PN (PM X.prog X.w) X.A (f v u) Q X.xe s2):
  PN (PM X.prog X.w) X.A (PX a X.env) (λv s₁=>PN (PM X.prog X.w) X.A (PX b X.env) (λu s₂=>PN (PM X.prog X.w) X.A (f v u) Q X.xe s₂) X.xe s₁) X.xe s:=by
 refine thn (ha pins s σ H _ I h) λv s1 b8=>?_;obtain⟨x,H1,I1,r1,q1⟩:=b8;refine thn (hb pins s1 σ H1 _ I1 q1) λu s2 b8=>?_;obtain⟨y,H2,I2,r2,q2⟩:=b8;exact hf v u s2 x y H2 I2 r1 r2 q2
def oF{op:QX}{r:R2}(ho:OpR X (P8 op) r)(ha:PE X a ta)(hb:PE X b tb):PE X (.BinOp a op b pos) (tOp r ta tb):=by
 intro pins s σ H Q I h;exact wpAny_BinOp (binT ha hb I h λv u s2 x y H2 I2 rx ry q=>ho pins s2 σ H2 x y v u Q I2 rx ry q)
def uk{op:UnaryOp}{r:V->Hp->VK->Prop}(ho:UnR X (unaryOp op) r)(ha:PE X a ta):PE X (.UnaryOp op a pos) (tUn r ta):=by
 intro pins s σ H Q I h;exact UnaryOp_ (thn (ha pins s σ H _ I h) λv s1 ⟨x,H1,I1,r1,q1⟩=>ho pins s1 σ H1 x v Q I1 r1 q1)
variable{g:Int->Int->Int}
def opI{C:Int->Int->Prop}
  (rule:∀ (i j:Int) (t u:Tok) (s:KM) (Q:KB->KM->Prop) (E:KB->KM->Prop),C i j->Q (.int (g i j) s.toks) {s with toks:=s.toks+1}->PN (PM X.prog X.w) X.A (f (.int i t) (.int j u)) Q E s):
  OpR X f (rI C λi j=> .int (g i j)):=by
 intro pins s σ H x y v u Q I rx ry h;obtain⟨i,j,rfl,rfl,hc,q⟩:=h;obtain⟨t,rfl⟩:=rx;obtain⟨t',rfl⟩:=ry;exact rule i j t t' s _ _ hc ⟨.int (g i j),H,I.tok _,⟨_,rfl⟩,q⟩
def opI0
  (rule:∀ (i j:Int) (t u:Tok) (s:KM) (Q:KB->KM->Prop) (E:KB->KM->Prop),Q (.int (g i j) s.toks) {s with toks:=s.toks+1}->PN (PM X.prog X.w) X.A (f (.int i t) (.int j u)) Q E s):
  OpR X f (rI0 λi j=> .int (g i j)):=by
 intro pins s σ H x y v u Q I rx ry h;obtain⟨i,j,rfl,rfl,q⟩:=h;obtain⟨t,rfl⟩:=rx;obtain⟨t',rfl⟩:=ry;exact rule i j t t' s _ _ ⟨.int (g i j),H,I.tok _,⟨_,rfl⟩,q⟩
def opB0{g:Int->Int->Bool}
  (rule:∀ (i j:Int) (t u:Tok) (s:KM) (Q:KB->KM->Prop) (E:KB->KM->Prop),Q (.bool (g i j)) s->PN (PM X.prog X.w) X.A (f (.int i t) (.int j u)) Q E s):
  OpR X f (rI0 λi j=> .bl (g i j)):=by
 intro pins s σ H x y v u Q I rx ry h;obtain⟨i,j,rfl,rfl,q⟩:=h;obtain⟨t,rfl⟩:=rx;obtain⟨t',rfl⟩:=ry;exact rule i j t t' s _ _ ⟨.bl (g i j),H,I,rfl,q⟩
def CDiv(i j:Int):Prop:=0<j/\j<1073741824
def CPow(i j:Int):Prop:=0<=j/\j<=1000000/\i.natAbs<2 ^ 64
def CMul(i j:Int):Prop:=(-(2 ^ 64)<i/\i<2 ^ 64)\/(-(2 ^ 64)<j/\j<2 ^ 64)
def CMul.ok{i j:Int}(h:CMul i j):IntMulOk i j:=by
 rcases h with⟨h1,h2⟩|⟨h1,h2⟩
 .exact .of_left (intBits_le_64 h1 h2)
 .exact .of_right (intBits_le_64 h1 h2)
def ul:OpR X (P8 .Add) (rI0 λi j=> .int (i+j)):=opI0 λ_ _ _ _ _ _ _ q=>add_int q
def oG:OpR X (P8 .Sub) (rI0 λi j=> .int (i - j)):=opI0 λ_ _ _ _ _ _ _ q=>sub_int q
def um:OpR X (P8 .Mult) (rI CMul λi j=> .int (i*j)):=opI λ_ _ _ _ _ _ _ hc q=>mul_int q hc.ok
def uo:OpR X (P8 .FloorDiv) (rI CDiv λi j=> .int (i / j)):=opI λi j _ _ _ _ _ hc q=>by
 have h1:(0:Int)<j:=hc.1;have h2:j<1073741824:=hc.2;exact floordiv_int (by lia) (by rw[Int.fdiv_eq_ediv_of_nonneg i (by lia)];exact q) (.inl (PyProof.noPylong_small (by lia)))
def uq:OpR X (P8 .Mod) (rI (λ_ j=>0<j) λi j=> .int (i % j)):=opI λi j _ _ _ _ _ hc q=>by
 have h1:(0:Int)<j:=hc;exact mod_int' (by lia) (by rw[Int.fmod_eq_emod_of_nonneg i (by lia)];exact q)
def ut:OpR X (P8 .Mod) (rI (λ_ j=>j≠0) λi j=> .int (i.fmod j)):=opI λ_ _ _ _ _ _ _ hc q=>mod_int' hc q
def uu:OpR X (P8 .Pow) (rI CPow λi j=> .int (i ^ j.toNat)):=opI λ_ _ _ _ _ _ _ hc q=>pow_int_small hc.1 hc.2.1 hc.2.2 q
def unI{f:KB->Q_ KB}{g:Int->Int}
  (rule:∀ (i:Int) (t:Tok) (s:KM) (Q:KB->KM->Prop) (E:KB->KM->Prop),Q (.int (g i) s.toks) {s with toks:=s.toks+1}->PN (PM X.prog X.w) X.A (f (.int i t)) Q E s):
  UnR X f (rU λi=> .int (g i)):=by
 intro pins s σ H x v Q I rx h;obtain⟨i,rfl,q⟩:=h;obtain⟨t,rfl⟩:=rx;exact rule i t s _ _ ⟨.int (g i),H,I.tok _,⟨_,rfl⟩,q⟩
def uv:UnR X (unaryOp .USub) (rU λi=> .int (-i)):=unI λ_ _ _ _ _ q=>neg_int q
end
def scal:V->V->Bool
 | .non,.non=>true| .non,.int _=>true| .int _,.non=>true| .non,.bl _=>true| .bl _,.non=>true| .non,.str _=>true| .str _,.non=>true
 | .int _,.int _=>true| .bl _,.bl _=>true| .str _,.str _=>true| .byt _,.byt _=>true
 | .int _,.str _=>true| .str _,.int _=>true| .bl _,.str _=>true| .str _,.bl _=>true
 |_,_=>false
def rEq:R2:=λx y H Q=>scal x y=true/\Q (.bl (decide (x=y))) H
def rNe:R2:=λx y H Q=>scal x y=true/\Q (.bl (!decide (x=y))) H
def oH{i j:Int}:decide (V.int i=V.int j)=(i==j):=by
 rw[FM];simp
def oI{i j:Bool}:decide (V.bl i=V.bl j)=(i==j):=by
 rw[FM];simp
def oJ{i j:y'}:decide (V.str i=V.str j)=(i==j):=by
 rw[FM];simp
def oK{i j:Array UInt8}:decide (V.byt i=V.byt j)=(i.toList==j.toList):=by
 rw[FM];cases i;cases j;simp
section
variable {X:Cx}{a b c:PJ}{ta tb tc:TE}{pos:P0}
def aP{pins:List (KF × P7)}{σ:St}{H:Hp}{s:KM}{Q:VK}{k k':Bool}(I:Inv X pins σ H s)(q:Q (.bl k) H)(e:k=k'):EP X pins σ Q (.bool k') s:=by
 subst e;exact⟨.bl k,H,I,rfl,q⟩
def je:OpR X (P6 .Eq) rEq:=by
 intro pins s σ H x y v u Q I rx ry h;obtain⟨hs,q⟩:=h;cases x with
 |non=>
  cases rx;cases y with
  |non=>cases ry;exact PySem.EqNone.eq_none_none (aP I q (by simp))
  |bl j=>cases ry;exact PySem.EqNone.eq_none_bool (aP I q (by simp))
  |int j=>obtain⟨t',rfl⟩:=ry;exact PySem.EqNone.eq_none_int (aP I q (by simp))
  |str j=>obtain⟨t',rfl⟩:=ry;exact PySem.EqNone.eq_none_str (aP I q (by simp))
  |_=>exact absurd (show false=true from hs) Ej
 |bl i=>
  cases rx;cases y with
  |non=>cases ry;exact PySem.EqNone.eq_bool_none (aP I q (by simp))
  |bl j=>cases ry;exact eq_bool (aP I q oI)
  |str j=>obtain⟨t',rfl⟩:=ry;exact PySem.EqMixed.eq_bool_str (aP I q (by simp))
  |_=>exact absurd (show false=true from hs) Ej
 |int i=>
  obtain⟨t,rfl⟩:=rx;cases y with
  |non=>cases ry;exact PySem.EqNone.eq_int_none (aP I q (by simp))
  |int j=>obtain⟨t',rfl⟩:=ry;exact eq_int (aP I q oH)
  |str j=>obtain⟨t',rfl⟩:=ry;exact PySem.EqMixed.eq_int_str (aP I q (by simp))
  |_=>exact absurd (show false=true from hs) Ej
 |str i=>
  obtain⟨t,rfl⟩:=rx;cases y with
  |non=>cases ry;exact PySem.EqNone.eq_str_none (aP I q (by simp))
  |bl j=>cases ry;exact PySem.EqMixed.eq_str_bool (aP I q (by simp))
  |int j=>obtain⟨t',rfl⟩:=ry;exact PySem.EqMixed.eq_str_int (aP I q (by simp))
  |str j=>obtain⟨t',rfl⟩:=ry;exact eq_str (aP I q oJ)
  |_=>exact absurd (show false=true from hs) Ej
 |byt i=>
  obtain⟨t,rfl⟩:=rx;cases y with
  |byt j=>obtain⟨t',rfl⟩:=ry;exact eq_bytes (aP I q oK)
  |_=>exact absurd (show false=true from hs) Ej
 |_=>cases y<;>exact absurd (show false=true from hs) Ej
def uw:OpR X (P6 .NotEq) rNe:=by
 intro pins s σ H x y v u Q I rx ry h;obtain⟨hs,q⟩:=h;cases x with
 |non=>
  cases rx;cases y with
  |non=>cases ry;exact PySem.EqNone.ne_none_none (aP I q (by simp))
  |bl j=>cases ry;exact PySem.EqNone.ne_none_bool (aP I q (by simp))
  |int j=>obtain⟨t',rfl⟩:=ry;exact PySem.EqNone.ne_none_int (aP I q (by simp))
  |str j=>obtain⟨t',rfl⟩:=ry;exact PySem.EqNone.ne_none_str (aP I q (by simp))
  |_=>exact absurd (show false=true from hs) Ej
 |bl i=>
  cases rx;cases y with
  |non=>cases ry;exact PySem.EqNone.ne_bool_none (aP I q (by simp))
  |bl j=>cases ry;exact ne_bool (aP I q (congrArg not oI))
  |str j=>obtain⟨t',rfl⟩:=ry;exact PySem.EqMixed.ne_bool_str (aP I q (by simp))
  |_=>exact absurd (show false=true from hs) Ej
 |int i=>
  obtain⟨t,rfl⟩:=rx;cases y with
  |non=>cases ry;exact PySem.EqNone.ne_int_none (aP I q (by simp))
  |int j=>obtain⟨t',rfl⟩:=ry;exact ne_int (aP I q (congrArg not oH))
  |str j=>obtain⟨t',rfl⟩:=ry;exact PySem.EqMixed.ne_int_str (aP I q (by simp))
  |_=>exact absurd (show false=true from hs) Ej
 |str i=>
  obtain⟨t,rfl⟩:=rx;cases y with
  |non=>cases ry;exact PySem.EqNone.ne_str_none (aP I q (by simp))
  |bl j=>cases ry;exact PySem.EqMixed.ne_str_bool (aP I q (by simp))
  |int j=>obtain⟨t',rfl⟩:=ry;exact PySem.EqMixed.ne_str_int (aP I q (by simp))
  |str j=>obtain⟨t',rfl⟩:=ry;exact ne_str (aP I q (congrArg not oJ))
  |_=>exact absurd (show false=true from hs) Ej
 |byt i=>
  obtain⟨t,rfl⟩:=rx;cases y with
  |byt j=>obtain⟨t',rfl⟩:=ry;exact ne_bytes (aP I q (congrArg not oK))
  |_=>exact absurd (show false=true from hs) Ej
 |_=>cases y<;>exact absurd (show false=true from hs) Ej
def oM:OpR X (P6 .Lt) (rI0 λi j=> .bl (decide (i<j))):=opB0 λ_ _ _ _ _ _ _ q=>lt_int q
def ux:OpR X (P6 .LtE) (rI0 λi j=> .bl (decide (i<=j))):=opB0 λ_ _ _ _ _ _ _ q=>le_int q
def uy:OpR X (P6 .Gt) (rI0 λi j=> .bl (decide (j<i))):=opB0 λ_ _ _ _ _ _ _ q=>gt_int q
def uz:OpR X (P6 .GtE) (rI0 λi j=> .bl (decide (j<=i))):=opB0 λ_ _ _ _ _ _ _ q=>ge_int q
def oN:OpR X (P6 .Is) (λx y H Q=>y= .non/\Q (.bl (decide (x= .non))) H):=by
 intro pins s σ H x y v u Q I rx ry h;obtain⟨rfl,q⟩:=h;cases ry;refine is_none_gen (aP I q ?_);cases x<;>first
  |(cases rx;rfl)
  |(obtain⟨t,rfl⟩:=rx;rfl)
variable{r:R2}
def OpR.or{f:KB->KB->Q_ KB}{r':R2}(h:OpR X f r)(h':OpR X f r'):OpR X f (λx y H Q=>r x y H Q\/r' x y H Q):=by
 intro pins s σ H x y v u Q I rx ry q;rcases q with q|q
 .exact h pins s σ H x y v u Q I rx ry q
 .exact h' pins s σ H x y v u Q I rx ry q
variable{op:Rv}
def nomark(b:PJ)(h:autoParam (op≠.In) zA1)(h2:autoParam (op≠.NotIn) zA1):P' op b=false:=by
 have e1:(op==CmpOp.In)=false:=by cases op<;>first|rfl|exact absurd rfl h
 have e2:(op==CmpOp.NotIn)=false:=by cases op<;>first|rfl|exact absurd rfl h2
 cases b<;>simp[P',e1,e2]
def va(ho:OpR X (P6 op) r)(ha:PE X a ta)(hb:PE X b tb)(hm:P' op b=false):PE X (.Compare a [op] [b] pos) (tOp r ta tb):=by
 intro pins s σ H Q I h;exact wpAny_Compare1 (binT ha hb I h λv u s2 x y H2 I2 rx ry q=>ho pins s2 σ H2 x y v u Q I2 rx ry q) hm
def vb(t:TE):TT:=λσ H Q=>t σ H λx H'=>∃ k,x= .bl k/\Q k H'
def oO(ho:OpR X (P6 op) r)(ha:PE X a ta)(hb:PE X b tb)(hm:P' op b=false):PT X (.Compare a [op] [b] pos) (vb (tOp r ta tb)):=by
 intro pins s σ H Q I h;refine wpAny_isTrue_Compare1 (thn (ha pins s σ H _ I h) λv s1 ⟨x,H1,I1,r1,q1⟩=>thn (hb pins s1 σ H1 _ I1 q1) λu s2 ⟨y,H2,I2,r2,q2⟩=>
  thn (ho pins s2 σ H2 x y v u _ I2 r1 r2 q2) λc s3 hh=>?_) hm
 obtain⟨z,H3,I3,r3,k,e,q3⟩:=hh;subst e;cases r3;exact Qt ⟨H3,I3,q3⟩
def TruV(K:D6)(x:V)(H:Hp)(k:Bool):Prop:=
 match x with
 | .non=>k=false
 | .bl b=>k=b
 | .int i=>k=(i !=0)
 | .str y=>y.length<=sizeLine/\k=((y.length:Int) !=0)
 | .byt y=>y.size<=sizeLine/\k=((y.size:Int) !=0)
 | .ref p=>(∃ xs,SqL K H p xs/\k=!xs.isEmpty)\/(∃ xs,SqT K H p xs/\k=!xs.isEmpty)\/∃ a8,H p=be (.dK a8)/\k=!a8.isEmpty
 |_=>False
def vc{κ:Type}{a8:List (κ × V)}{vs:List (κ × KB)}(r:KV a8 vs):(!vs.isEmpty)=!a8.isEmpty:=by
 cases r<;>rfl
def isEmpty_of{xs:List V}{its:List KB}(r:Vals xs its):(!its.toArray.isEmpty)=!xs.isEmpty:=by
 cases r<;>simp
def line63:(sizeLine:Nat)<2 ^ 63:=by rw[QF];decide
def vd:TruR X (λx H Q=>∃ k,TruV X.K x H k/\Q k H):=by
 intro pins s σ H x v Q I rx h;obtain⟨k,e,q⟩:=h;have hl:=line63;have hs:sizeLine=16777216:=QF;cases x with
 |non=>
  cases rx;have e':k=false:=e;subst e';exact truthy_none ⟨H,I,q⟩
 |bl b=>
  cases rx;have e':k=b:=e;subst e';exact Qt ⟨H,I,q⟩
 |int i=>
  obtain⟨t,rfl⟩:=rx;have e':k=(i !=0):=e;subst e';exact PySem.P.truthy_int ⟨H,I,q⟩
 |str y=>
  obtain⟨t,rfl⟩:=rx;obtain⟨hy,e'⟩:y.length<=sizeLine/\k=((y.length:Int) !=0):=e;subst e';exact PySem.P.truthy_str (by lia) ⟨H,I.tok _,q⟩
 |byt y=>
  obtain⟨t,rfl⟩:=rx;obtain⟨hy,e'⟩:y.size<=sizeLine/\k=((y.size:Int) !=0):=e;subst e';exact truthy_bytes (by lia) ⟨H,I.tok _,q⟩
 |ref p=>
  cases rx;have e':(∃ xs,SqL X.K H p xs/\k=!xs.isEmpty)\/(∃ xs,SqT X.K H p xs/\k=!xs.isEmpty)\/∃ a8,H p=be (.dK a8)/\k=!a8.isEmpty:=e;rcases e' with⟨xs,hx,e'⟩|⟨xs,hx,e'⟩|⟨a8,hx,e'⟩
  .subst e';obtain⟨its,r,pl,hz⟩:=I.list hx;have b7:=r.length;exact wpAny_truthy_list pl.isList (by simp only[El];lia) ⟨H,I.tok _,by rw[isEmpty_of r];exact q⟩
  .subst e';obtain⟨its,r,pl,hz⟩:=I.tuple hx;have b7:=r.length;exact truthy_tuple pl (by simp only[El];lia) ⟨H,I.tok _,by rw[isEmpty_of r];exact q⟩
  .subst e';obtain⟨hz,hS,vs,r,m⟩:a8.length<=sizeLine/\(p==Qa)=false/\∃ vs,KV a8 vs/\s.heap.DictOf (bC X.prog X.w) p vs:=I.hok p _ hx;have b7:a8.length=vs.length:=Paired.length r;exact wpAny_truthy_dict hS m (by lia) ⟨H,I.tok _,by rw[vc r];exact q⟩
 |_=>exact(show False from e).elim
def ve(ha:PE X a ta)(he:∀ g7,isTrue a X.env g7=(do let v <- g7;Qz a.pos;Qh [v] (truthy v))):
  PT X a (λσ H Q=>ta σ H λx H'=>∃ k,TruV X.K x H' k/\Q k H'):=by
 intro pins s σ H Q I h;exact isTrue_plain (thn (ha pins s σ H _ I h) λv s1 ⟨x,H1,I1,r1,q1⟩=>vd pins s1 σ H1 x v Q I1 r1 q1) (he _)
def vf:OpR X (P8 .Add) (λx y H Q=>∃ i j,x= .str i/\y= .str j/\i.length+j.length<=sizeLine/\Q (.str (i++j)) H):=by
 intro pins s σ H x y v u Q I rx ry h;obtain⟨i,j,rfl,rfl,hz,q⟩:=h;obtain⟨t,rfl⟩:=rx;obtain⟨t',rfl⟩:=ry;exact add_str (λt' tk=>⟨.str (i++j),H,I.tok _,⟨_,rfl⟩,q⟩) hz
variable{us:List KB}
def bM{x:V}(r:Vals [x] us):∃ u,us=[u]/\RelV x u:=by
 cases r with
 |cons r1 r2=>cases r2;exact⟨_,rfl,r1⟩
def fv{x y:V}(r:Vals [x,y] us):∃ u w',us=[u,w']/\RelV x u/\RelV y w':=by
 cases r with
 |cons r1 r2=>
  cases r2 with
  |cons r3 r4=>cases r4;exact⟨_,_,rfl,r1,r3⟩
def vg:bA X (.builtin "abs") (λxs H Q=>∃ i,xs=[.int i]/\Q (.int (if i<0 then -i else i)) H):=by
 intro pins s σ H xs us Q I r h;obtain⟨i,rfl,q⟩:=h;obtain⟨u,rfl,t,rfl⟩:=bM r;exact call_abs_int λu tk=>⟨.int (if i<0 then -i else i),H,I.tok _,⟨_,rfl⟩,q⟩
def vh(hc:X.calm=true):bA X (.builtin "max") (λxs H Q=>∃ i j,xs=[.int i,.int j]/\Q (.int (if j>i then j else i)) H):=by
 intro pins s σ H xs us Q I r h;obtain⟨i,j,rfl,q⟩:=h;obtain⟨u,w',rfl,⟨t,rfl⟩,⟨t',rfl⟩⟩:=fv r;refine max_two_ints (I.ok.hd hc) λh' tk k=>⟨_,H,I.kept k,?_,q⟩;by_cases hj:j>i
 .rw[if_pos hj,if_pos hj];exact⟨_,rfl⟩
 .rw[if_neg hj,if_neg hj];exact⟨_,rfl⟩
def vi(hc:X.calm=true):bA X (.builtin "min") (λxs H Q=>∃ i j,xs=[.int i,.int j]/\Q (.int (if j<i then j else i)) H):=by
 intro pins s σ H xs us Q I r h;obtain⟨i,j,rfl,q⟩:=h;obtain⟨u,w',rfl,⟨t,rfl⟩,⟨t',rfl⟩⟩:=fv r;refine min_two_ints (I.ok.hd hc) λh' tk k=>⟨_,H,I.kept k,?_,q⟩;by_cases hj:j<i
 .rw[if_pos hj,if_pos hj];exact⟨_,rfl⟩
 .rw[if_neg hj,if_neg hj];exact⟨_,rfl⟩
def vj:bA X (.type "int") (λxs H Q=>(∃ i,xs=[.int i]/\Q (.int i) H)\/∃ k,xs=[.bl k]/\Q (.int (if k then 1 else 0)) H):=by
 intro pins s σ H xs us Q I r h;rcases h with⟨i,rfl,q⟩|⟨k,rfl,q⟩
 .obtain⟨u,rfl,t,rfl⟩:=bM r;exact call_int_int ⟨.int i,H,I,⟨_,rfl⟩,q⟩
 .obtain⟨u,rfl,r1⟩:=bM r;cases r1;exact call_int_bool ⟨.int (if k then 1 else 0),H,I.tok _,⟨_,rfl⟩,q⟩
def vk:bA X (.type "str") (λxs H Q=>∃ i,xs=[.int i]/\i.natAbs.log2<1920/\Q (.str (toString i)) H):=by
 intro pins s σ H xs us Q I r h;obtain⟨i,rfl,hz,q⟩:=h;obtain⟨u,rfl,t,rfl⟩:=bM r;exact PySem.P.str_of_int hz ⟨.str _,H,I.tok _,⟨_,rfl⟩,q⟩
def LenV(K:D6)(x:V)(H:Hp)(n:Nat):Prop:=
 match x with
 | .str y=>y.length<=sizeLine/\n=y.length
 | .byt y=>y.size<=sizeLine/\n=y.size
 | .ref p=>(∃ xs,SqL K H p xs/\n=xs.length)\/∃ xs,SqT K H p xs/\n=xs.length
 |_=>False
def jg:bA X (.builtin "len") (λxs H Q=>∃ x n,xs=[x]/\LenV X.K x H n/\Q (.int n) H):=by
 intro pins s σ H xs us Q I r h;obtain⟨x,n,rfl,e,q⟩:=h;obtain⟨u,rfl,rx⟩:=bM r;have hl:=line63;have hs:sizeLine=16777216:=QF;cases x with
 |str y=>
  obtain⟨t,rfl⟩:=rx;obtain⟨hy,e'⟩:y.length<=sizeLine/\n=y.length:=e;subst e';exact len_str (by lia) ⟨.int _,H,I.tok _,⟨_,rfl⟩,q⟩
 |byt y=>
  obtain⟨t,rfl⟩:=rx;obtain⟨hy,e'⟩:y.size<=sizeLine/\n=y.size:=e;subst e';exact len_bytes (by lia) ⟨.int _,H,I.tok _,⟨_,rfl⟩,q⟩
 |ref p=>
  cases rx;have e':(∃ xs,SqL X.K H p xs/\n=xs.length)\/∃ xs,SqT X.K H p xs/\n=xs.length:=e;rcases e' with⟨xs,hx,e'⟩|⟨xs,hx,e'⟩
  .subst e';obtain⟨its,r',pl,hz⟩:=I.list hx;have b7:=r'.length;exact Calls.call_len_list pl.isList (by simp only[El];lia) ⟨.int xs.length,H,I.tok _,⟨_,by simp only[El];rw[b7]⟩,q⟩
  .subst e';obtain⟨its,r',pl,hz⟩:=I.tuple hx;have b7:=r'.length;exact len_tuple pl (by simp only[El];lia) ⟨.int xs.length,H,I.tok _,⟨_,by simp only[El];rw[b7]⟩,q⟩
 |_=>exact(show False from e).elim
end
structure ObjM(h:Heap)(x dx C:KF)(mA:Str->Option KB):Prop where
 obj:h.get? x=be (instObj C dx)
 ns:h.Ns1 dx mA
 ne:dx≠x
variable{mA:y'->Option KB}
def vm{dx:KF}(n:h.Ns1 dx mA):∃ od,h.get? dx=be od/\∀ name,lookIn name od=be (mA name):=by
 obtain⟨o,es,ep,ho,hd,hk,_,hm⟩:=n;refine⟨o,ho,λname=>?_⟩;have e:=hm name;unfold nsFind findBy at e;rw[<- Array.find?_toList] at e;unfold lookIn;rw[hd];dsimp only;split
 .rename_i y q;rw[q] at e;exact congrArg be e
 .rename_i q;rw[q] at e;have a:es.toList.any (·.refKey)=false:=by
   rw[List.any_eq_false];intro y hy;obtain⟨z,t,m6⟩:=hk y (Array.mem_toList_iff.mp hy);simp[DictEntry.refKey,m6]
  have a':¬ es.toList.any (·.refKey)=true:=by rw[a];exact Ej
  rw[if_neg a'];exact congrArg be e
variable{C:KF}
def ObjM.look{x dx:KF}(I:ObjM h x dx C mA):∃ od,PySem.W.InstAt h x (instObj C dx) C (be od)/\∀ name,lookIn name od=be (mA name):=
 let ⟨od,ho,hl⟩:=vm I.ns
 ⟨od,⟨I.obj,rfl,rfl,ho⟩,hl⟩
section
variable {prog:PH}{w:PP}{A:PQ}{E:KB->KM->Prop}{s:KM}{K:D6}{x dx C f:KF}{mA:y'->Option KB}{name:y'}{v:KB}
def vn{KD:Bool}{Q:KB->KM->Prop}(X:K.In s.heap)(I:ObjM s.heap x dx C mA)(hg:plainGet K C name=true)(hh:hasDictIn K C=true)
  (ha:Ee K (.ref C) name=be o_) (hv:mA name=be v) (NH:handedIn v=true) (h:Q v {s with toks:=s.toks+1}):
  PN (PM prog w) A (getAttr (.ref x) name KD) Q E s:=by
 obtain⟨od,J,hl⟩:=I.look;exact get_value X J (plainGet_of hg).1 (findObj_own hh ha rfl (by rw[hl,hv])) NH h
def vo{pl:Q_ Bool}{Q:KB × List KB->KM->Prop}(X:K.In s.heap)(I:ObjM s.heap x dx C mA)(hg:plainGet K C name=true)
  (hf:Ee K (.ref C) name=be (be (.ref f))) (ht:isFn K (.ref f)=true) (hv:mA name=o_) (h:Q (.ref f,[.ref x]) s):
  PN (PM prog w) A (QP (.ref x) name pl) Q E s:=by
 obtain⟨od,J,hl⟩:=I.look;exact method_fn X J (plainGet_of hg).1 (plainGet_of hg).2 hf (beq_iff_eq.mp ht) (by show(lookIn name od).map (·.isSome)=be false;rw[hl,hv];rfl) h
def vp{ns:List y'}{Q:Unit->KM->Prop}(X:K.In s.heap)(I:ObjM s.heap x dx C mA)
  (hs:Ee K (.ref C) "__setattr__"=be (be (.builtin "object.__setattr__"))) (hp:plainOver K C=true) (ht:takerIn K C name=be o_) (hh:hasDictIn K C=true)
  (hw:PySem.Within mA ns) (g6:ns.length<=sizeLine)
  (h:∀ h',ObjM h' x dx C (λy=>if y=name then be v else mA y)->Heap.SameBut dx s.heap h'->Q () {s with heap:=h',toks:=s.toks+2}):
  PN (PM prog w) A (setAttr (.ref x) name v) Q E s:=by
 obtain⟨od,J,hl⟩:=I.look;refine PySem.W.set_plain X J hs (osa_open (s:={s with toks:=s.toks+1}) (r:=o_) X J hp ht λb=>?_);obtain⟨cd,hc,j3⟩:=any_some hh;have hx:s.heap.get? x=be ⟨.ref C,be dx,.plain,#[]⟩:=I.obj;refine Os (PK (Os (Os (wpAny_loadPart hx (Os (PySem.W.Looks.here (s:={s with toks:=s.toks+1}) (PySem.W.looks_clsIn X hc) ?_))))));rw[j3];refine PK (a:=be dx) (Os (PK (Os ?_)));refine wpAny_nsSet1 (s:={s with toks:=s.toks+1}) I.ns λh' x' l_=>?_;obtain⟨oD,NI,NJ,KE,KG,KH⟩:=x'.count (PySem.Within.cons name v hw);refine Os (wpAny_lookBehind KE (by rw[KG];exact pastItsLine_dict (Ei KH (by rw[Eb];lia))) ?_);exact PK (h _ ⟨(l_.2 _ (Ne.symm I.ne)).trans I.obj,x',I.ne⟩ l_)
def vq{R:Result->KM->Prop}{vs:List KB}{kw:List (y' × KB)}(X:K.In s.heap)(hm:makesIn K C=true)
  (hi:Ee K (.ref C) "__init__"=be (be (.ref f))) (hf:PySem.W.typeIn K (.ref f)=be (.type "function"))
  (h:QA (PM prog w) (A.under (.builtin "type.__call__" ⟨.ref C::vs,kw⟩)) (.call (.ref f) ⟨.ref (s.heap.objs.size+1)::vs,kw⟩) (InitBack (s.heap.objs.size+1) R)
   {s with heap:=(s.heap.push emptyDict).push (instObj C s.heap.objs.size)}):
  QA (PM prog w) A (.call (.ref C) ⟨vs,kw⟩) R s:=by
 obtain⟨hh,g,d,t,os⟩:=s;exact make_core (makes_of X hm) (PySem.W.looks_findIn X hi) (λself=>PySem.W.bind_fn X self hf) (.inl rfl) h
end
def putF(f:y')(v:V):List (y' × V)->List (y' × V)
 |[]=>[(f,v)]
 |(g,x)::r=>if g=f then(g,v)::r else(g,x)::putF f v r
def oP(f g:y')(v:V):∀ fs:List (y' × V),(putF f v fs).lookup g=if g=f then be v else fs.lookup g
 |[]=>by
  show E9 g [(f,v)]=_;by_cases h:g=f
  .have hb:(g==f)=true:=beq_iff_eq.mpr h;simp only[E9,hb,if_pos h]
  .have hb:(g==f)=false:=beq_eq_false_iff_ne.mpr h;simp only[E9,hb,if_neg h]
 |(k,x)::r=>by
  have ih:=oP f g v r;rw[show putF f v ((k,x)::r)=(if k=f then(k,v)::r else(k,x)::putF f v r) from rfl];by_cases hk:k=f
  .rw[if_pos hk];by_cases h:g=k
   .have hb:(g==k)=true:=beq_iff_eq.mpr h;simp only[E9,hb,if_pos (h.trans hk)]
   .have hb:(g==k)=false:=beq_eq_false_iff_ne.mpr h;simp only[E9,hb,if_neg (λe:g=f=>h (e.trans hk.symm))]
  .rw[if_neg hk];by_cases h:g=k
   .have hb:(g==k)=true:=beq_iff_eq.mpr h;simp only[E9,hb,if_neg (λe:g=f=>hk (h.symm.trans e))]
   .have hb:(g==k)=false:=beq_eq_false_iff_ne.mpr h;simp only[E9,hb];exact ih
def jh(f:y')(v:V):∀ fs:List (y' × V),f∈(putF f v fs).map (·.1)/\∀ g,g∈fs.map (·.1)->g∈(putF f v fs).map (·.1)
 |[]=>⟨by simp[putF],λg h=>by simp at h⟩
 |(k,x)::r=>by
  obtain⟨i1,i2⟩:=jh f v r;rw[show putF f v ((k,x)::r)=(if k=f then(k,v)::r else(k,x)::putF f v r) from rfl];by_cases hk:k=f
  .rw[if_pos hk];subst hk;exact⟨by simp,λg h=>by simpa using h⟩
  .rw[if_neg hk];refine⟨?_,λg h=>?_⟩
   .rw[En];exact Ec _ i1
   .rw[En] at h ⊢;rcases Ea.mp h with e|e
    .exact Ea.mpr (.inl e)
    .exact Ec _ (i2 g e)
def oQ(f:y')(v:V):∀ fs:List (y' × V),(putF f v fs).length<=fs.length+1
 |[]=>by simp[putF]
 |(k,x)::r=>by
  have ih:=oQ f v r;rw[show putF f v ((k,x)::r)=(if k=f then(k,v)::r else(k,x)::putF f v r) from rfl];by_cases hk:k=f
  .rw[if_pos hk,Eb,Eb];lia
  .rw[if_neg hk,Eb,Eb];lia
def RelO.some_of{v:V}{o:Option KB}(r:RelO (be v) o):∃ u,o=be u/\RelV v u:=by
 cases o with
 |none=>exact(show False from r).elim
 |some u=>exact⟨u,rfl,r⟩
def RelO.none_of{o:Option KB}(r:RelO o_ o):o=none:=by
 cases o with
 |none=>rfl
 |some u=>exact(show False from r).elim
def vt{v:V}(r:RelV v u):handedIn u=true:=by
 cases v with
 |non=>cases(show u=Value.none from r);rfl
 |bl b=>cases(show u=Value.bool b from r);rfl
 |int i=>obtain⟨t,e⟩:=(show ∃ t,u=Value.int i t from r);cases e;rfl
 |str x=>obtain⟨t,e⟩:=(show ∃ t,u=Value.str x t from r);cases e;rfl
 |byt b=>obtain⟨t,e⟩:=(show ∃ t,u=Value.bytes b t from r);cases e;rfl
 |flt b=>obtain⟨t,e⟩:=(show ∃ t,u=Value.float b t from r);cases e;rfl
 |ref a=>cases(show u=Value.ref a from r);rfl
 |ty n=>cases(show u=Value.type n from r);rfl
section
variable {P:PH}{w:PP}{H H':Hp}{h h':Heap}{a C dx:KF}{fs n_:List (y' × V)}
def gj(hok:HOk P w H h)(e:H a=be (.ins C dx fs)):∃ mA,ObjM h a dx C mA/\(∀ f,RelO (fs.lookup f) (mA f))/\PySem.Within mA (fs.map (·.1))/\fs.length<=1000/\H dx=be (.own a):=by
 obtain⟨d,z,ne,ob,mA,n,r,q⟩:=(show ObjOk P w H h a (.ins C dx fs) from hok a _ e);exact⟨mA,⟨ob,n,ne⟩,r,q,z,d⟩
end
structure Cls(K:D6)(C:KF):Prop where
 pg:plainGet K C Str.empty=true
 hd:hasDictIn K C=true
 po:plainOver K C=true
 sa:Ee K (.ref C) "__setattr__"=be (be (.builtin "object.__setattr__"))
def Cls.get(c:Cls K C)(f:y'):plainGet K C f=true:=c.pg
def NoAttr(K:D6)(C:KF)(f:y'):Prop:=Ee K (.ref C) f=be o_
def NoAttr.taker{f:y'}(n:NoAttr K C f):takerIn K C f=be none:=by
 unfold takerIn;rw[show Ee K (.ref C) f=be o_ from n];rfl
structure Con(K:D6)(C:KF)(f:Str)(v:V)(u:KB):Prop where
 at_:Ee K (.ref C) f=be (be u)
 rel:RelV v u
 get:specialIn K u "__get__"=be o_
 cp:PySem.W.copiedNames.contains f=false
structure Meth(K:D6)(C:KF)(m:Str)(f:KF):Prop where
 at_:Ee K (.ref C) m=be (be (.ref f))
 fn:isFn K (.ref f)=true
 kp:keepIn K (.ref f)=true
section
variable {X:Cx}{pins:List (KF × P7)}{σ:St}{H:Hp}{s:KM}{a C dx:KF}{fs:List (y' × V)}{f:y'}{v:V}{A:PQ}{E:KB->KM->Prop}
variable{Q:KB->KM->Prop}
def vw{b:Bool}(I:Inv X pins σ H s)(e:H a=be (.ins C dx fs))(c:Cls X.K C)(n:NoAttr X.K C f)(l:fs.lookup f=be v)
  (h:∀ u s',Inv X pins σ H s'->RelV v u->Q u s'):PN (PM X.prog X.w) A (getAttr (.ref a) f b) Q E s:=by
 obtain⟨mA,O,r,_,_,_⟩:=gj I.hok e;obtain⟨u,hu,ru⟩:=RelO.some_of (v:=v) (o:=mA f) (by rw[<- l];exact r f);exact vn I.kIn O (c.get f) c.hd n hu (vt ru) (h u _ (I.tok _) ru)
def oR{m:y'}{g:KF}{pl:Q_ Bool}{Q:KB × List KB->KM->Prop}(I:Inv X pins σ H s)(e:H a=be (.ins C dx fs))(c:Cls X.K C)(k:Meth X.K C m g)(l:fs.lookup m=o_)
  (h:Q (.ref g,[.ref a]) s):PN (PM X.prog X.w) A (QP (.ref a) m pl) Q E s:=by
 obtain⟨mA,O,r,_,_,_⟩:=gj I.hok e;have hn:mA m=none:=RelO.none_of (by rw[<- l];exact r m);exact vo I.kIn O (c.get m) k.at_ k.fn hn h
def vx{y:V}{u:KB}{Q:Unit->KM->Prop}(I:Inv X pins σ H s)(e:H a=be (.ins C dx fs))(c:Cls X.K C)(n:NoAttr X.K C f)(hl:fs.length<1000)(ry:RelV y u)
  (h:∀ s',Inv X pins σ (upd H a (.ins C dx (putF f y fs))) s'->Q () s'):PN (PM X.prog X.w) A (setAttr (.ref a) f u) Q E s:=by
 obtain⟨mA,O,r,wi,_,ho⟩:=gj I.hok e;have hz:(fs.map (·.1)).length<=sizeLine:=by rw[Ef,QF];lia
 refine vp I.kIn O c.sa c.po n.taker c.hd wi hz λh' O' sb=>h _ ?_;have hd:∃ o,h'.get? dx=be o:=let ⟨o,_,_,e',_⟩:=O'.ns;⟨o,e'⟩
 refine I.write (x:=a) (e:=dx) (by rw[e];exact True.intro) (.inr ho) (λb q hb z=>(sb.2 b hb).trans z) hd ?_;refine⟨by rw[aq O.ne];exact ho,?_,O.ne,O'.obj,_,O'.ns,λg=>?_,λg hg=>?_⟩
 .have:=oQ f y fs;lia
 .show RelO ((putF f y fs).lookup g) (if g=f then be u else mA g);rw[oP];by_cases q:g=f
  .rw[if_pos q,if_pos q];exact ry
  .rw[if_neg q,if_neg q];exact r g
 .by_cases q:g=f
  .rw[q];exact(jh f y fs).1
  .refine(jh f y fs).2 g (wi g λz=>hg ?_);show(if g=f then be u else mA g)=o_;rw[if_neg q];exact z
def Inv.made(I:Inv X pins σ H s):Inv X pins σ (upd (upd H s.heap.objs.size (.own (s.heap.objs.size+1))) (s.heap.objs.size+1) (.ins C s.heap.objs.size []))
  {s with heap:=(s.heap.push emptyDict).push (instObj C s.heap.objs.size)}:=by
 have e1:(s.heap.push emptyDict).get? s.heap.objs.size=be emptyDict:=Heap.get?_push_size s.heap rfl;have e2:((s.heap.push emptyDict).push (instObj C s.heap.objs.size)).get? (s.heap.objs.size+1)=be (instObj C s.heap.objs.size):=by
  have:=Heap.get?_push_size (s.heap.push emptyDict) (o:=instObj C s.heap.objs.size) rfl;rwa [Heap.size_push] at this
 have e3:(s.heap.push emptyDict).Ns s.heap.objs.size (λ_=>o_):=⟨emptyDict,#[],_,e1,rfl,(λe he=>absurd he (by simp)),λ_=>rfl⟩;have I1:=I.laid (a:=s.heap.objs.size) (o:= .own (s.heap.objs.size+1)) (h':=s.heap.push emptyDict) (t':=s.toks) (λb u q=>Heap.get?_push_of_some _ q) (D7 _) ⟨_,e1⟩;refine I1.laid (a:=s.heap.objs.size+1) (o:= .ins C s.heap.objs.size []) (t':=s.toks) (λb u q=>Heap.get?_push_of_some _ q) (FN (Heap.size_push _ _)) ?_;have ne:s.heap.objs.size≠s.heap.objs.size+1:=Eh (GC _);refine⟨by rw[aq ne,ax],EA _,ne,e2,λ_=>o_,(Heap.Ns1.of_empty e3).at λo q=>Heap.get?_push_of_some _ q,λ_=>True.intro,λy hy=>absurd rfl hy⟩
def attr_of{prog:PH}{w:PP}{env:Qs}{e:PJ}{f:y'}{pos:P0}{s:KM}(hb:PV e f env (PX e env)=PX e env)
  (h:PN (PM prog w) A (PX e env) (λo s₁=>PN (PM prog w) A (getAttr o f true) Q E s₁) E s):PN (PM prog w) A (PX (.Attribute e f pos) env) Q E s:=
 Attribute_any_ h (by rw[arm_eval_Attribute,hb])
end
def tFld(K:D6)(ta:TE)(f:y'):TE:=λσ H Q=>ta σ H λx H1=>∃ a C dx fs v,x= .ref a/\H1 a=be (.ins C dx fs)/\Cls K C/\NoAttr K C f/\fs.lookup f=be v/\Q v H1
def sFld(K:D6)(ta tv:TE)(f:y'):TS:=λD σ H=>tv σ H λy H1=>ta σ H1 λx H2=>∃ a C dx fs,x= .ref a/\H2 a=be (.ins C dx fs)/\Cls K C/\NoAttr K C f/\fs.length<1000/\
 D.nx σ (upd H2 a (.ins C dx (putF f y fs)))
section
variable {X:Cx}{o e value:PJ}{f:y'}{pos c9 IN:P0}{ta tv:TE}
def oS(he:PE X e ta)(hb:PV e f X.env (PX e X.env)=PX e X.env):PE X (.Attribute e f pos) (tFld X.K ta f):=by
 intro pins s σ H Q I h;refine attr_of hb (thn (he pins s σ H _ I h) λu s1 b8=>?_);obtain⟨x,H1,I1,rx,a,C,dx,fs,v,ex,ea,c,n,l,q⟩:=b8;subst ex;obtain rfl:u=Value.ref a:=rx;exact vw I1 ea c n l λu' s2 I2 ru=>⟨v,H1,I2,ru,q⟩
def oU(ha:PE X o ta)(hv:PE X value tv)(hs:P4 value (be (.Attribute o f c9)) pos.line X.env=pure false):PS X (.Assign [.Attribute o f c9] value pos) (sFld X.K ta tv f):=by
 intro pins s σ H D I h;refine QN (thn (hv pins s σ H _ I h) λu s1 ⟨y,H1,I1,ry,q⟩=>thn (ha pins s1 σ H1 _ I1 q) λov s2 hh=>?_) hs;obtain⟨x,H2,I2,rx,a,C,dx,fs,ex,ea,c,n,l,q2⟩:=hh;subst ex;obtain rfl:ov=Value.ref a:=rx;exact vx I2 ea c n l ry λs3 I3=>⟨σ,_,I3,q2⟩
end
section
variable {X:Cx}{pins:List (KF × P7)}{σ:St}{H:Hp}{s:KM}{A:PQ}{E:KB->KM->Prop}{Q:KB->KM->Prop}{c:KB}{b:Bool}
inductive TyOf(K:D6)(H:Hp):V->KB->Prop where
 |non:TyOf K H .non (.type "NoneType")
 |bl (x:Bool):TyOf K H (.bl x) (.type "bool")
 |int (i:Int):TyOf K H (.int i) (.type "int")
 |str (x:Str):TyOf K H (.str x) (.type "str")
 |flt (x:UInt64):TyOf K H (.flt x) (.type "float")
 |lst {a:KF} {xs:List V} (e:H a=some (.lst xs)):TyOf K H (.ref a) (.type "list")
 |frz {a:KF} {o:P7} {xs:List V} (e:H a=some (.frz o (.lst xs))):TyOf K H (.ref a) (.type "list")
 |tup {a:KF} {xs:List V} (e:H a=some (.tup xs)):TyOf K H (.ref a) (.type "tuple")
 |dK {a:KF} {a8:List (Key × V)} (e:H a=some (.dK a8)):TyOf K H (.ref a) (.type "dict")
 |dT {a:KF} {a8:List (List Key × V)} (e:H a=some (.dT a8)):TyOf K H (.ref a) (.type "dict")
 |ins {a C dx:KF} {fs:List (Str × V)} (e:H a=some (.ins C dx fs)) (cl:Cls K C) (ha:Ee K (.ref C) "__class__"=some (some (.builtin "object.__class__")))
   (hn:specialIn K (.builtin "object.__class__") "__get__"=be (be (.builtin "getset_descriptor.__get__"))) (htk:takesIn K (.builtin "object.__class__")=be true)
   (hm:Fg K C (.type "object")=be true):TyOf K H (.ref a) (.ref C)
def vy{x:V}{u t:KB}(I:Inv X pins σ H s)(rx:RelV x u)(ty:TyOf X.K H x t)(e:kitOne X.K t c=be b)(h:∀ tk,Q (.bool b) {s with toks:=tk}):
  PN (PM X.prog X.w) A (call (.builtin "isinstance") [u,c]) Q E s:=by
 cases ty with
 |non=>cases(show u=Value.none from rx);exact kia_one kitx_none I.kIn True.intro e (λz=>nomatch z) h
 |bl y=>cases(show u=Value.bool y from rx);exact kia_one kitx_bool I.kIn True.intro e (λz=>nomatch z) h
 |int i=>obtain⟨t,q⟩:=(show ∃ t,u=Value.int i t from rx);cases q;exact kia_one kitx_int I.kIn True.intro e (λz=>nomatch z) h
 |str y=>obtain⟨t,q⟩:=(show ∃ t,u=Value.str y t from rx);cases q;exact kia_one kitx_str I.kIn True.intro e (λz=>nomatch z) h
 |flt y=>obtain⟨t,q⟩:=(show ∃ t,u=Value.float y t from rx);cases q;exact kia_one kitx_float I.kIn True.intro e (λz=>nomatch z) h
 |@lst a xs ea=>
  cases(show u=Value.ref a from rx);obtain⟨_,_,n,_,h1⟩:=(show ObjOk X.prog X.w H s.heap a (.lst xs) from I.hok a _ ea);exact kia_one kitx_list I.kIn ⟨_,h1,rfl⟩ e (λz=>nomatch z) h
 |@frz a ob xs ea=>
  cases(show u=Value.ref a from rx);obtain⟨_,_,_,n,_,h1⟩:=(show ObjOk X.prog X.w H s.heap a (.frz ob (.lst xs)) from I.hok a _ ea);exact kia_one kitx_list I.kIn ⟨_,h1,rfl⟩ e (λz=>nomatch z) h
 |@tup a xs ea=>
  cases(show u=Value.ref a from rx);obtain⟨_,_,_,p⟩:=(show ObjOk X.prog X.w H s.heap a (.tup xs) from I.hok a _ ea);obtain⟨o,h1,h2,_⟩:=p;exact kia_one kitx_tuple I.kIn ⟨o,h1,h2⟩ e (λz=>nomatch z) h
 |@dK a a8 ea=>
  cases(show u=Value.ref a from rx);obtain⟨_,_,vs,_,p⟩:=(show ObjOk X.prog X.w H s.heap a (.dK a8) from I.hok a _ ea);obtain⟨o,es,ep,h1,h2,_⟩:=p;exact kia_one kitx_dict I.kIn ⟨o,h1,h2.1⟩ e (λz=>nomatch z) h
 |@dT a a8 ea=>
  cases(show u=Value.ref a from rx);obtain⟨_,_,xs,_,o,es,ep,h1,h2,_⟩:=(show ObjOk X.prog X.w H s.heap a (.dT a8) from I.hok a _ ea);exact kia_one kitx_dict I.kIn ⟨o,h1,h2.1⟩ e (λz=>nomatch z) h
 |@ins a C dx fs ea cl ha hn htk hm=>
  cases(show u=Value.ref a from rx);obtain⟨mA,O,_⟩:=gj I.hok ea;obtain⟨od,J,_⟩:=O.look;exact kia_one (kitx_own (cl.get _) cl.hd ha hn htk hm) I.kIn J e (λz=>nomatch z) h
end
structure Room(k:Nat)(A:PQ):Prop where
 hd:A.handled=o_
 dp:A.depth+3*k+5<recursionLimit
 un:A.units+16*k+200<Q0
variable{k:Nat}
def Room.mono{j:Nat}(r:Room k A)(h:j<=k):Room j A:=⟨r.hd,by have:=r.dp;lia,by have:=r.un;lia⟩
def Room.deeper(r:Room (k+1) A)(env:Qs):Room k (A.deeper env):=
 ⟨r.hd,by have:=r.dp;show A.depth+1+3*k+5<_;lia,by have:=r.un;show A.units+3+16*k+200<_;lia⟩
def Room.in1(r:Room (k+1) A):Room k A.in1:=
 ⟨r.hd,by have:=r.dp;show A.depth+3*k+5<_;lia,by have:=r.un;show A.units+1+16*k+200<_;lia⟩
variable{kw:List (y' × KB)}
def vz:(A.under (.builtin "type.__call__" ⟨.ref C::us,kw⟩)).depth=A.depth+1:=by
 first|rfl|simp[Around.under,Code.weight,Code.isCreation,Code.isGuard,Code.isCaller,Code.frames,Code.isFrame,guardIds]
def vA:(A.under (.builtin "type.__call__" ⟨.ref C::us,kw⟩)).units=A.units+1:=by
 first|rfl|simp[Around.under,Code.cUnits,Code.frames,Code.isFrame]
def Room.make(r:Room (k+1) A)(C:KF)(us:List KB)(kw:List (y' × KB)):Room k (A.under (.builtin "type.__call__" ⟨.ref C::us,kw⟩)):=
 ⟨r.hd,by have:=r.dp;rw[vz];lia,by have:=r.un;rw[vA];lia⟩
def Room.depth(r:Room k A):A.depth<recursionLimit:=by have:=r.dp;lia
def Room.units(r:Room k A):A.units+64<Q0:=by have:=r.un;lia
def tNil:TA:=λ_ H Q=>Q [] H
def oV(ta:TE)(tr:TA):TA:=λσ H Q=>ta σ H λx H1=>tr σ H1 λxs H2=>Q (x::xs) H2
section
variable {X:Cx}{e:PJ}{es:List PJ}{te:TE}{t:TA}{pos:P0}
def pa_nil:PA X [] tNil:=λ_ _ _ _ H Q I h=>Calls.spliced_nil ⟨[],H,I,.nil,h⟩
def bw(ha:PE X e te)(hr:PA X es t)(hs:autoParam (zSE X e es) zA0):PA X (e::es) (oV te t):=by
 intro pos pins s σ H Q I h;rw[hs];show PN _ _ (spliced ((false,PX e X.env)::Qo pos (PR es X.env))) _ _ s;refine Calls.spliced_cons (thn (ha pins s σ H _ I h) λu s1 b8=>?_);obtain⟨x,H1,I1,r1,q1⟩:=b8;exact thn (hr pos pins s1 σ H1 _ I1 q1) λus s2 ⟨xs,H2,I2,r2,q2⟩=>⟨x::xs,H2,I2,.cons r1 r2,q2⟩
def tTup(t:TA):TE:=λσ H Q=>t σ H λxs H1=>xs.length<=sizeLine/\∀ p,H1 p=o_->Q (.ref p) (upd H1 p (.tup xs))
def tLst(t:TA):TE:=λσ H Q=>t σ H λxs H1=>xs.length<=sizeLine/\∀ p,H1 p=o_->Q (.ref p) (upd H1 p (.lst xs))
def oW{x1}(h:PA X es t):PE X (.Tuple es x1 pos) (tTup t):=by
 intro pins s σ H Q I hq;refine wpAny_Tuple_spliced (thn (h pos pins s σ H _ I hq) λus s1 ⟨xs,H1,I1,r,z,q⟩=>⟨by rw[<- r.length];exact z,?_⟩);have hf:H1 s1.heap.objs.size=none:=I1.hok.fresh (D7 _);refine⟨.ref s1.heap.objs.size,upd H1 s1.heap.objs.size (.tup xs),I1.laid (t':=s1.toks) (λb u e=>Heap.get?_push_of_some _ e) (D7 _) ?_,rfl,q _ hf⟩;exact⟨z,us,r,⟨_,Heap.get?_push_size _ rfl,rfl,_,rfl⟩⟩
def ji(h:PA X es t):PE X (.List es pos) (tLst t):=by
 intro pins s σ H Q I hq;refine wpAny_List_spliced (thn (h pos pins s σ H _ I hq) λus s1 ⟨xs,H1,I1,r,z,q⟩=>⟨by rw[<- r.length];exact z,?_⟩);have hf:H1 s1.heap.objs.size=none:=I1.hok.fresh (D7 _);refine⟨.ref s1.heap.objs.size,upd H1 s1.heap.objs.size (.lst xs),I1.laid (t':=s1.toks) (λb u e=>Heap.get?_push_of_some _ e) (D7 _) ?_,rfl,q _ hf⟩;exact⟨z,us,0,r,Heap.get?_push_size _ rfl⟩
end
abbrev Sp:=List V->Hp->VK->XK->Prop
abbrev CXT:=List Qs->Hp->KM->XK->KB->KM->Prop
structure Env0(P:PH)(w:PP)(K:D6)(mg:Str->Option KB)(base:Heap)(A:PQ)(outer:List Qs)(s:KM)(H:Hp):Prop where
 frames:A.frames=be outer
 mod:Mod K mg base
 bs:∀ b o,base.get? b=be o->s.heap.get? b=be o/\H b=o_
 bsz:base.objs.size<=s.heap.objs.size
 funs:s.heap.FunFrames base outer
 frf:∀ b∈frs outer,H b=o_
 hok:HOk P w H s.heap
 bare:Qw s.gens
def CE(outer:List Qs)(P:PH)(w:PP)(H:Hp)(s:KM)(Q:VK)(u:KB)(s':KM):Prop:=
 ∃ v H',s'.os=s.os/\Qw s'.gens/\Un (frs outer) [] H H' s.heap s'.heap/\HOk P w H' s'.heap/\RelV v u/\Q v H'
def CR(CX:CXT)(outer:List Qs)(P:PH)(w:PP)(H:Hp)(s:KM)(Q:VK)(E:XK)(r:Result)(s':KM):Prop:=
 match r with
 | .ok (.ret u)=>CE outer P w H s Q u s'
 | .ok _=>False
 | .error e=>CX outer H s E e s'
structure FnOk(P:PH)(w:PP)(K:D6)(mg:Str->Option KB)(base:Heap)(CX:CXT)(k:Nat)(f:KF)(fd:PY)(ps:List Str)(sp:Sp):Prop where
 len:∀ vs H Q E,sp vs H Q E->vs.length=ps.length
 run:∀ (A:PQ) (outer:List Qs) (s:KM) (H:Hp) (args:Args) (us:List KB) (vs:List V) (Q:VK) (E:XK),Room k A->Env0 P w K mg base A outer s H->QM s fd args (ps.zip us)->Vals vs us->sp vs H Q E->
  QA (PM P w) A (.call (.ref f) args) (CR CX outer P w H s Q E) s
variable{f:KF}{mg:y'->Option KB}{base:Heap}{CX:CXT}{fd:PY}{ps:List y'}{sp:Sp}
def FnOk.mono{j:Nat}(F:FnOk P w K mg base CX j f fd ps sp)(h:j<=k):
  FnOk P w K mg base CX k f fd ps sp:=⟨F.len,λA outer s H args us vs Q E hr=>F.run A outer s H args us vs Q E (hr.mono h)⟩
def FnOk.imp{Hz:Sp}(F:FnOk P w K mg base CX k f fd ps sp)
  (h:∀ vs H Q E,Hz vs H Q E->sp vs H Q E):FnOk P w K mg base CX k f fd ps Hz:=
 ⟨λvs H Q E q=>F.len vs H Q E (h _ _ _ _ q),λA outer s H args us vs Q E hr he hb hv hs=>F.run A outer s H args us vs Q E hr he hb hv (h _ _ _ _ hs)⟩
variable{outer:List Qs}
def Env0.make(e:Env0 P w K mg base A outer s H)(C:KF)(us:List KB)(kw:List (y' × KB)):
  Env0 P w K mg base (A.under (.builtin "type.__call__" ⟨.ref C::us,kw⟩)) outer s H:=⟨by first|exact e.frames|(simpa[Around.under,Code.envs,Code.isFrame,pushEnvs] using e.frames),e.mod,e.bs,e.bsz,e.funs,e.frf,e.hok,e.bare⟩
def Env0.in1(e:Env0 P w K mg base A outer s H):
  Env0 P w K mg base A.in1 outer s H:=⟨e.frames,e.mod,e.bs,e.bsz,e.funs,e.frf,e.hok,e.bare⟩
section
variable {X:Cx}{pins:List (KF × P7)}{σ:St}{H:Hp}{s s':KM}
def Inv.env0(I:Inv X pins σ H s):Env0 X.prog X.w X.K X.mg X.base X.A X.stack s H:=
 ⟨I.ok.frames,I.ok.mod,I.bs,Ei I.ok.bsz I.sz,I.stack,I.stkFree,I.hok,I.bare⟩
def Inv.after{Q:VK}{u:KB}(I:Inv X pins σ H s)(h:CE X.stack X.prog X.w H s Q u s'):EP X pins σ Q u s':=by
 obtain⟨v,H',os,bare,un,hok,r,q⟩:=h;obtain⟨hh,g,d,t,NK⟩:=s';obtain rfl:NK=s.os:=os;exact⟨v,H',I.call (h':=hh) (g':=g) (d':=d) (t':=t) (ch:=[]) un hok bare (λb z=>absurd z (by simp)),r,q⟩
end
def oX(sp:Sp)(m7:List V)(E:XK)(t:TA):TE:=λσ H Q=>t σ H λvs H1=>sp (vs++m7) H1 Q E
def vB(C:KF)(sp:Sp)(m7:List V)(E:XK)(t:TA):TE:=λσ H Q=>t σ H λvs H1=>∀ x dx,H1 x=o_->H1 dx=o_->dx≠x->
 sp (.ref x::(vs++m7)) (upd (upd H1 dx (.own x)) x (.ins C dx [])) (λv H2=>v= .non/\Q (.ref x) H2) E
def Binds(K:D6)(fd:PY)(ps:List y')(ds:List KB):Prop:=
 ∀ (s:KM) (us:List KB),K.In s.heap->(us++ds).length=ps.length->QM s fd ⟨us,[]⟩ (ps.zip (us++ds))
def Binds.all(h:∀ us:List KB,us.length=ps.length->Qr fd ⟨us,[]⟩=pure (ps.zip us)):Binds K fd ps []:=λs us _ hl=>by
 rw[EI] at hl ⊢;exact .of_eq (h us hl)
def fw(CX:CXT)(X:Cx)(E:XK):Prop:=∀ (pins:List (KF × P7)) (σ:St) (H:Hp) (s:KM) (e:KB) (s':KM),Inv X pins σ H s->CX X.stack H s E e s'->X.xe e s'
section
variable {X:Cx}{CX:CXT}{k:Nat}{f C:KF}{fd:PY}{ps:List y'}{sp:Sp}{m7:List V}{ds:List KB}{E:XK}{x m:y'}{p pos apos:P0}{e o:PJ}{es:List PJ}{ta:TE}{t:TA}
variable{pins:List (KF × P7)}{us:List KB}{vs:List V}
def vC{σ:St}{H:Hp}{s:KM}{Q:VK}(F:FnOk X.prog X.w X.K X.mg X.base CX k f fd ps sp)(hr:Room k X.A)(hb:Binds X.K fd ps ds)(hd:Vals m7 ds)(hx:fw CX X E)
  (I:Inv X pins σ H s) (r:Vals vs us) (h:sp (vs++m7) H Q E):PN (PM X.prog X.w) X.A (call (.ref f) us) (EP X pins σ Q) X.xe s:=by
 have r2:Vals (vs++m7) (us++ds):=r.append hd;have hl:(us++ds).length=ps.length:=by rw[<- r2.length];exact F.len _ _ _ _ h
 refine Qy (Qq (F.run X.A X.stack s H ⟨us,[]⟩ (us++ds) (vs++m7) Q E hr I.env0 (hb s us I.kIn hl) r2 h) λr s' hq=>?_);cases r with
 |error e=>exact hx pins σ H s e s' I hq
 |ok fl=>
  cases fl with
  |ret u=>exact I.after hq
  |next=>exact False.elim hq
  |brk=>exact False.elim hq
  |cont=>exact False.elim hq
def vD(F:FnOk X.prog X.w X.K X.mg X.base CX k f fd ps sp)(hr:Room k X.A)(hg:Gl X x)(hm:X.mg x=be (.ref f))(hk:keepIn X.K (.ref f)=true)(hb:Binds X.K fd ps ds)(hd:Vals m7 ds)(hx:fw CX X E)
  (ha:PA X (e::es) t) (d7:autoParam (zND x) zA1) (he:autoParam (zSE X e es) zA0) (c5:autoParam (zPL X pos es) zA0):
  PE X (.Call (.Name x p) (e::es) [] pos) (oX sp m7 E t):=by
 intro pins s σ H Q I h;refine PZ (cB I hg hm ?_ d7);refine callWith_K (h₀:=X.base) I.ok.mod.kin hk (thn (ha pos pins s σ H _ I h) λus s1 hh=>⟨hh.elim λ_ h=>h.elim λ_ h=>h.1.kIn,?_⟩) he c5;obtain⟨vs,H1,I1,r,q⟩:=hh;exact vC F hr hb hd hx I1 r q
structure Mk(K:D6)(C f:KF):Prop where
 makes:makesIn K C=true
 init:Ee K (.ref C) "__init__"=be (be (.ref f))
 fn:isFn K (.ref f)=true
 kp:keepIn K (.ref C)=true
def vE{σ:St}{H:Hp}{s:KM}{Q:VK}(M:Mk X.K C f)(F:FnOk X.prog X.w X.K X.mg X.base CX k f fd ps sp)(hr:Room (k+1) X.A)(hb:Binds X.K fd ps ds)(hd:Vals m7 ds)
  (hx:fw CX X E) (I:Inv X pins σ H s) (r:Vals vs us)
  (h:∀ x dx,H x=o_->H dx=o_->dx≠x->sp (.ref x::(vs++m7)) (upd (upd H dx (.own x)) x (.ins C dx [])) (λv H2=>v= .non/\Q (.ref x) H2) E):
  PN (PM X.prog X.w) X.A (call (.ref C) us) (EP X pins σ Q) X.xe s:=by
 have hq:=h (s.heap.objs.size+1) s.heap.objs.size (I.hok.fresh (Fb _)) (I.hok.fresh (D7 _)) (Eh (GC _));have I2:=Inv.made (C:=C) I;have r2:Vals (V.ref (s.heap.objs.size+1)::(vs++m7)) (Value.ref (s.heap.objs.size+1)::(us++ds)):= .cons rfl (r.append hd);have hl:(Value.ref (s.heap.objs.size+1)::us++ds).length=ps.length:=by
  have e:=r2.length;rw[F.len _ _ _ _ hq] at e;exact e.symm
 refine Qy (vq (f:=f) I.kIn M.makes M.init (beq_iff_eq.mp M.fn) (Qq (F.run _ X.stack _ _ ⟨Value.ref (s.heap.objs.size+1)::us,[]⟩ (Value.ref (s.heap.objs.size+1)::(us++ds)) _ _ E (hr.make C us [])
  (I2.env0.make C us []) (hb _ (Value.ref (s.heap.objs.size+1)::us) I2.kIn hl) r2 hq) λr s' p_=>?_))
 cases r with
 |error e=>exact hx pins σ _ _ e s' I2 p_
 |ok fl=>
  cases fl with
  |ret u=>
   obtain⟨v,H',I3,rv,ev,q3⟩:=I2.after p_;subst ev;exact⟨rv,⟨V.ref (s.heap.objs.size+1),H',I3,rfl,q3⟩⟩
  |next=>exact False.elim p_
  |brk=>exact False.elim p_
  |cont=>exact False.elim p_
def jj(M:Mk X.K C f)(F:FnOk X.prog X.w X.K X.mg X.base CX k f fd ps sp)(hr:Room (k+1) X.A)(hg:Gl X x)(hm:X.mg x=be (.ref C))(hb:Binds X.K fd ps ds)(hd:Vals m7 ds)(hx:fw CX X E)
  (ha:PA X (e::es) t) (d7:autoParam (zND x) zA1) (he:autoParam (zSE X e es) zA0) (c5:autoParam (zPL X pos es) zA0):
  PE X (.Call (.Name x p) (e::es) [] pos) (vB C sp m7 E t):=by
 intro pins s σ H Q I h;refine PZ (cB I hg hm ?_ d7);refine callWith_K (h₀:=X.base) I.ok.mod.kin M.kp (thn (ha pos pins s σ H _ I h) λus s1 hh=>⟨hh.elim λ_ h=>h.elim λ_ h=>h.1.kIn,?_⟩) he c5;obtain⟨vs,H1,I1,r,q⟩:=hh;exact vE M F hr hb hd hx I1 r q
end
structure FnScope(N P:List Str)(sc:Qf):Prop where
 kind:sc.kind= .function
 co:sc.isCoroutine=false
 gen:sc.isGenerator=false
 nd:N.Nodup
 pre:N.take P.length=P
 par:∀ x∈P,sc.names.lookup x=be .local\/sc.names.lookup x=be .cell
 nofree:∀ y∈sc.names,y.2≠.free
def oY{kindOf:y'->Option Qn}{x:y'}:∀ {binds:List (y' × KB)} {m:y'->Option KB},(∀ v,(x,v) ∉ binds)->Q1 kindOf binds m x=m x
 |[],_,_=>rfl
 |(n,v)::r,m,h=>by
  unfold Q1;rw[oY λw hw=>h w (Ec _ hw)];split
  .have:x≠n:=by rintro rfl;exact h v Ed
   simp[this]
  .rfl
def bindC_out{kindOf:y'->Option Qn}{x:y'}:∀ {binds:List (y' × KB)} {m:y'->Option KB},(∀ v,(x,v) ∉ binds)->Q2 kindOf binds m x=m x
 |[],_,_=>rfl
 |(n,v)::r,m,h=>by
  unfold Q2;rw[bindC_out λw hw=>h w (Ec _ hw)];split
  .rfl
  .have:x≠n:=by rintro rfl;exact h v Ed
   simp[this]
def bindL_get{kindOf:y'->Option Qn}{x:y'}{v:KB}:∀ {P:List y'} {vs:List KB} {i:Nat} {m:y'->Option KB},P.Nodup->P[i]?=be x->vs[i]?=be v->kindOf x=be .local->
  Q1 kindOf (P.zip vs) m x=be v
 |[],_,_,_,_,h,_,_=>by simp at h
 |_::_,[],_,_,_,_,h,_=>by simp at h
 |p::P,w::vs,0,m,nd,h1,h2,hk=>by
  simp at h1 h2;subst h1;subst h2;show Q1 kindOf ((p,w)::P.zip vs) m p=_;unfold Q1;rw[oY λv hv=>(EW.mp nd).1 (F4 hv).1,if_pos hk];simp
 |p::P,w::vs,i+1,m,nd,h1,h2,hk=>by
  show Q1 kindOf ((p,w)::P.zip vs) m x=_;unfold Q1;exact bindL_get (i:=i) (EW.mp nd).2 (by simpa using h1) (by simpa using h2) hk
def oZ{kindOf:y'->Option Qn}{x:y'}{v:KB}:∀ {P:List y'} {vs:List KB} {i:Nat} {m:y'->Option KB},P.Nodup->P[i]?=be x->vs[i]?=be v->kindOf x≠be .local->
  Q2 kindOf (P.zip vs) m x=be v
 |[],_,_,_,_,h,_,_=>by simp at h
 |_::_,[],_,_,_,_,h,_=>by simp at h
 |p::P,w::vs,0,m,nd,h1,h2,hk=>by
  simp at h1 h2;subst h1;subst h2;show Q2 kindOf ((p,w)::P.zip vs) m p=_;unfold Q2;rw[bindC_out λv hv=>(EW.mp nd).1 (F4 hv).1,if_neg hk];simp
 |p::P,w::vs,i+1,m,nd,h1,h2,hk=>by
  show Q2 kindOf ((p,w)::P.zip vs) m x=_;unfold Q2;exact oZ (i:=i) (EW.mp nd).2 (by simpa using h1) (by simpa using h2) hk
def start(N:List y')(vs:List V):St:=vs.map be++EN (N.length - vs.length) o_
def cxOf(CX:CXT)(P:PH)(w:PP)(K:D6)(mg:y'->Option KB)(base:Heap)(N:List y')(qual:y')(scope:Qf)(f:KF)(cd:KB)(A:PQ)(outer:List Qs)(s:KM)(H:Hp)(E:XK):Cx where
 prog:=P
 w:=w
 K:=K
 mg:=mg
 base:=base
 A:=A.deeper (P2 qual scope s.heap.objs.size f cd)
 N:=N
 s₀:=s
 H₀:=H
 env:=P2 qual scope s.heap.objs.size f cd
 outer:=outer
 stack:=P2 qual scope s.heap.objs.size f cd::outer
 ex:=[]
 calm:=true
 fn:=λ_=>true
 pn:=[]
 xe:=λe s'=>PN (PM P w) (A.deeper (P2 qual scope s.heap.objs.size f cd)) (Q7 (P2 qual scope s.heap.objs.size f cd) e) (λ_ KI=>CX outer H s E e KI) (λe' KI=>CX outer H s E e' KI) s'
def cell_has{sc:Qf}{n:Nat}{x:y'}(h:sc.names.lookup x=be .cell):∃ c,(cellsFrom n sc.names []).lookup x=be c:=by
 have q:=cellsFrom_some sc.names n [] (.inl h);exact Option.isSome_iff_exists.mp q
variable{N:List y'}{scope:Qf}
def vF{qual:y'}{cd:KB}{s1:KM}{E:XK}{vs:List V}
  (S:FnScope N ps scope) (hd:A.handled=o_) (e0:Env0 P w K mg base A outer s H) (hl:vs.length=ps.length) (r:Vals vs us)
  (x:InCallC s s.heap.objs.size (Q1 (P2 qual scope s.heap.objs.size f cd).kindOf (ps.zip us) λ_=>o_) (cellsFrom (s.heap.objs.size+1) scope.names []) (Q2 (P2 qual scope s.heap.objs.size f cd).kindOf (ps.zip us) λ_=>o_) s1):
  Inv (cxOf CX P w K mg base N qual scope f cd A outer s H E) [] (start N vs) H s1:=by
 have c5:ps.length<=N.length:=by have:=congrArg Fy S.pre;rw[Fz] at this;lia
 obtain⟨h1,tk,rfl,hk⟩:=x.done;have IR:∀ b:KF,b ∉ (cxOf CX P w K mg base N qual scope f cd A outer s H E).ex:=λb z=>absurd (show b∈([]:List KF) from z) (by simp);refine⟨⟨e0.mod,S.kind,rfl,rfl,D7 _,λy z c h1 h2=>?_,λy hy=>?_,λy c _ h=>?_,λ_=>hd,Around.frames_deeper e0.frames,.inr ⟨rfl,rfl⟩,λb z=>absurd z (IR b),e0.bs,e0.bsz,λb _ _=>IR b,λb z=>absurd z (IR b),e0.funs,e0.frf⟩,
  rfl,e0.bare,Un.kept hk,⟨_,x.toInCall.ns,λi y v h1 h2 h3=>?_⟩,λy c h=>⟨_,x.cell y c h⟩,e0.hok.fresh (D7 _),λy c h=>?_,λp hp=>absurd (show p∈([]:List (KF × P7)) from hp) (by simp),e0.hok.kept hk,?_⟩
 .exact name_of_addr x.apart (PySem.mem_of_lookup h1) (PySem.mem_of_lookup h2)
 .have hy:scope.names.lookup y=be .cell\/scope.names.lookup y=be .free:=hy;rcases hy with hy|hy
  .exact cell_has hy
  .exact absurd rfl (S.nofree _ (PySem.mem_of_lookup hy))
 .exact FK (x.above y c (PySem.mem_of_lookup h))
 .have hi:i<vs.length:=by
   unfold start at h2;by_cases hi:i<vs.length
   .exact hi
   .rw[EY (by simpa using hi)] at h2;rw[F5] at h2;split at h2<;>cases h2
  have ha:vs[i]?=be v:=by
   unfold start at h2;rw[EO (by simpa using hi),Eo] at h2;cases e:vs[i]? with
   |none=>rw[e] at h2;cases h2
   |some a=>rw[e] at h2;cases h2;rfl
  obtain⟨u,hu,rv⟩:=r.get ha;have hp:ps[i]?=be y:=by
   rw[<- S.pre,GD (by lia)];exact h1
  have MH:ps.Nodup:=by rw[<- S.pre];exact S.nd.sublist (List.take_sublist _ _)
  refine⟨u,rv,?_⟩;rcases S.par y (F6 hp) with k|k
  .exact .inl ⟨k,bindL_get MH hp hu k⟩
  .obtain⟨c,e⟩:=cell_has (n:=s.heap.objs.size+1) k;refine .inr ⟨.inl k,c,e,?_⟩;have q:=x.cell y c e;rw[oZ MH hp hu (by show scope.names.lookup y≠_;rw[k];decide)] at q;exact q
 .exact e0.hok.fresh (FK (x.above y c (PySem.mem_of_lookup h)))
 .unfold start;show _=N.length;rw[Eg,Ef,List.length_replicate];lia
def pd{name qual:y'}{params:Arguments}{body:List PL}{dV kV doc pm cdv ct oc:KB}{an od:Option KF}
  {osl:Array (Option KB)}   (lk:K.lookup f=be ⟨oc,od,.func (fnOf name qual params body scope dV kV doc pm an cdv ct),osl⟩) (f8:codeIn K cdv qual=true) (S:FnScope N ps scope)
  (len:∀ vs H Q E,sp vs H Q E->vs.length=ps.length)
  (a9:∀ (A:PQ) (outer:List Qs) (s:KM) (H:Hp) (vs:List V) (Q:VK) (E:XK),Room k (A.deeper (P2 qual scope s.heap.objs.size f cdv))->sp vs H Q E->
   ∃ t,PSs (cxOf CX P w K mg base N qual scope f cdv A outer s H E) body t/\t {nx:=λ_ H'=>Q .non H',rt:=Q} (start N vs) H):
  FnOk P w K mg base CX (k+1) f (fnOf name qual params body scope dV kV doc pm an cdv ct) ps sp:=by
 refine⟨len,λA outer s H args us vs Q E hr e0 hb r q8=>?_⟩;have hl:=len _ _ _ _ q8;have KX:K.In s.heap:=e0.mod.kin.keeps λb o e=>(e0.bs b o e).1;have NL:s.heap.NoLimit:=e0.mod.nolimit.keeps λb o e=>(e0.bs b o e).1;have IS:∀ y∈ps.zip us,scope.names.lookup y.1=be .local\/(scope.names.lookup y.1=be .cell/\((cellsFrom (s.heap.objs.size+1) scope.names []).lookup y.1).isSome=true):=λ⟨n,v⟩ hy=>by
  rcases S.par n (F4 hy).1 with q|q
  .exact .inl q
  .exact .inr ⟨q,cellsFrom_some _ _ _ (.inl q)⟩
 refine codeAny_call_function hr.depth (KX _ _ lk) rfl S.co S.gen rfl (codeRec_of KX f8) (hb _ _ _ _ ?_);refine wpAny_newFunctionEnv_cells S.kind IS λenv he s1 x=>?_;subst he;refine⟨NL.keeps x.toInCall.keep,codeAny_func ?_⟩;obtain⟨t,ht,hq⟩:=a9 A outer s H vs Q E (hr.deeper _) q8;have I:Inv (cxOf CX P w K mg base N qual scope f cdv A outer s H E) [] (start N vs) H s1:=vF S hr.hd e0 hl r x;refine P3 (ht [] s1 (start N vs) H _ I hq) (λfl s' hs=>?_) λe s' hs=>hs;have d6:∀ {σ':St} {H':Hp} {v:V} {u:KB},Inv (cxOf CX P w K mg base N qual scope f cdv A outer s H E) [] σ' H' s'->RelV v u->Q v H'->CE outer P w H s Q u s':=
  λ{σ' H' v u} J rv q=>⟨v,H',J.os,J.bare,J.base,J.hok,rv,q⟩
 cases fl with
 |ret u=>
  obtain⟨v,σ',H',J,rv,q⟩:=hs;exact d6 J rv q
 |next=>
  obtain⟨σ',H',J,q⟩:=hs;exact d6 (v:=V.non) (u:=Value.none) J rfl q
 |brk=>
  obtain⟨_,_,_,q⟩:=hs;exact False.elim q
 |cont=>
  obtain⟨_,_,_,q⟩:=hs;exact False.elim q
section
variable {X:Cx}{x:y'}{p pos:P0}{e:PJ}{es:List PJ}{t:TA}{id T:String}{r:List V->Hp->VK->Prop}
def tCB(r:List V->Hp->VK->Prop)(t:TA):TE:=λσ H Q=>t σ H λvs H1=>r vs H1 Q
def gk(hc:bA X (.builtin id) r)(hg:Gl X x)(hm:X.mg x=o_)(hv:P5 x=be (.builtin id))(ha:PA X (e::es) t)(hn:autoParam (x≠"__name__") zA1)(d7:autoParam (zND x) zA1)
  (he:autoParam (zSE X e es) zA0) (c5:autoParam (zPL X pos es) zA0):PE X (.Call (.Name x p) (e::es) [] pos) (tCB r t):=by
 intro pins s σ H Q I h;refine PZ (dh I hg hm hv ?_ hn d7);exact PyProof.Rows.callWith_builtin1 (thn (ha pos pins s σ H _ I h) λus s1 ⟨vs,H1,I1,r1,q1⟩=>hc pins s1 σ H1 vs us Q I1 r1 q1) he c5
def pe(hc:bA X (.type T) r)(hg:Gl X x)(hm:X.mg x=o_)(hv:P5 x=be (.type T))(ha:PA X (e::es) t)(hn:autoParam (x≠"__name__") zA1)(d7:autoParam (zND x) zA1)
  (he:autoParam (zSE X e es) zA0) (c5:autoParam (zPL X pos es) zA0):PE X (.Call (.Name x p) (e::es) [] pos) (tCB r t):=by
 intro pins s σ H Q I h;refine PZ (dh I hg hm hv ?_ hn d7);exact PyProof.Rows.callWith_type1 (thn (ha pos pins s σ H _ I h) λus s1 ⟨vs,H1,I1,r1,q1⟩=>hc pins s1 σ H1 vs us Q I1 r1 q1) he c5
end
end L2
namespace HT
open PySem PyProof.Rows
section
variable {prog:PH}{w:PP}{A:PQ}{E:KB->KM->Prop}{s:KM}
variable{Q:KB->KM->Prop}
def cat_tup{t b:KF}{vs ws:List KB}(ht:IsTup s.heap t vs.toArray)(hb:IsTup s.heap b ws.toArray)(hv:vs≠[])
  (h1:ws=[]->Q (.ref t) s) (h2:ws≠[]->Q (.ref s.heap.objs.size) {s with heap:=s.heap.push {cls:= .type "tuple",data:= .seq (vs++ws).toArray} })
  (g6:vs.length+ws.length<=sizeLine):PN (PM prog w) A (P8 .Add (.ref t) (.ref b)) Q E s:=by
 obtain⟨⟨cls,dd,data,sl⟩,ho,hc,n,hd⟩:=id ht;obtain⟨⟨NM,MI,data2,MJ⟩,J4,MK,n2,J5⟩:=id hb;simp only at hc hd MK J5;subst hc hd MK J5;have e:vs.toArray++ws.toArray=(vs++ws).toArray:=by simp
 by_cases hw:ws=[]
 .exact concat_meets ⟨_,ho,rfl⟩ ⟨_,J4,rfl⟩ noFill_tuple_add seq_tuple_add PySem.F.slot_tuple_add PySem.F.entry_tuple_add (PySem.F.args_tuple_add_2 _ _)
   (tuple_addW1 t b vs.toArray ws.toArray n n2 dd MI sl MJ (by simpa using hv) (by simp[hw])) ⟨ho,J4,h1 hw⟩
 .refine concat_meets ⟨_,ho,rfl⟩ ⟨_,J4,rfl⟩ noFill_tuple_add seq_tuple_add PySem.F.slot_tuple_add PySem.F.entry_tuple_add (PySem.F.args_tuple_add_2 _ _)
   (tuple_addW2 t b vs.toArray ws.toArray n n2 dd MI sl MJ (by simpa using hv) (by simpa using hw) (by rw[El,El];exact g6)) ⟨ho,J4,?_⟩
  rw[e];exact h2 hw
def sIx(n d:Nat):Option Int->Nat
 |none=>d
 |some v=>if v<0 then(v+(n:Int)).toNat else min v.toNat n
def sIx_le(n d:Nat)(hd:d<=n)(o:Option Int):sIx n d o<=n:=by
 cases o with
 |none=>exact hd
 |some v=>
  show(if v<0 then(v+(n:Int)).toNat else min v.toNat n)<=n;by_cases hv:v<0
  .rw[if_pos hv];lia
  .rw[if_neg hv];exact Nat.min_le_right _ _
def pf(v:Int)(n d:Nat):(if v<0 then max (v+(n:Int)) 0 else min v (n:Int))=((sIx n d (be v):Nat):Int):=by
 show(if v<0 then max (v+(n:Int)) 0 else min v (n:Int))=(((if v<0 then(v+(n:Int)).toNat else min v.toNat n):Nat):Int);by_cases hv:v<0
 .simp only[if_pos hv];lia
 .simp only[if_neg hv];lia
def vG(lo hi:Option Int)(n:Nat):Builtin.Slice.sliceAdjust lo hi 1 (n:Int)=(((sIx n 0 lo:Nat):Int),((sIx n n hi:Nat):Int)):=by
 have h1:¬ ((1:Int)<0):=by lia
 unfold Builtin.Slice.sliceAdjust;simp only[h1,if_false];refine Prod.ext ?_ ?_
 .cases lo with
  |none=>rfl
  |some v=>exact pf v n 0
 .cases hi with
  |none=>rfl
  |some v=>exact pf v n n
def vH(i j:Nat):Builtin.Slice.slicePlaces (i:Int) (j:Int) 1=j - i:=by
 unfold Builtin.Slice.slicePlaces;have h1:(1:Int)>0:=by lia
 simp only[h1,if_true,Int.ediv_one];split<;>lia
def ph{v:KB}{o:Option Int}{Q:Option Int->KM->Prop}(p:QQ v o)(h:Q o s):PN (PM prog w) A (Builtin.Slice.slicePartIndex v) Q E s:=by
 cases p with
 |none=>exact slicePart_none h
 |int i t=>exact slicePart_int h
variable{lo hi:Option Int}
def vI{sl:KF}{vl vu:KB}{n:Nat}{Q:Int × Int × Nat->KM->Prop}(hs:s.heap.IsSliceOf sl vl vu .none)(pl:QQ vl lo)(pu:QQ vu hi)
  (h:Q (((sIx n 0 lo:Nat):Int),1,sIx n n hi - sIx n 0 lo) s):PN (PM prog w) A (Builtin.Slice.sliceApplied (.ref sl) (pure (n:Int))) Q E s:=by
 obtain⟨os,y_,ML,J6⟩:=id hs;unfold Builtin.Slice.sliceApplied Builtin.Slice.sliceFields;refine Os (Os (Qk y_ J6 (x:=vl) rfl (Os (Qk y_ J6 (x:=vu) rfl (Os (Qk y_ J6 (x:= .none) rfl (PK ?_)))))));refine Os (slicePart_none ?_);show PN _ _ (if((1:Int)==0)=true then _ else _) _ _ s;rw[if_neg (by decide)];refine Os (ph pl (Os (ph pu (Os (PK ?_)))));show PN _ _ (match Builtin.Slice.sliceAdjust lo hi 1 (n:Int) with|(lo,hi)=>pure (lo,(1:Int),Builtin.Slice.slicePlaces lo hi 1)) _ _ s;rw[vG lo hi n];show PN _ _ (pure (((sIx n 0 lo:Nat):Int),(1:Int),Builtin.Slice.slicePlaces ((sIx n 0 lo:Nat):Int) ((sIx n n hi:Nat):Int) 1)) _ _ s;rw[vH];exact PK h
def vJ(xs:Array KB)(i k:Nat):((D9 k).filterMap λ(m:Nat)=>xs[((i:Int)+(m:Int)*1).toNat]?).toArray=((xs.toList.drop i).take k).toArray:=by
 have e:(λ(m:Nat)=>xs[((i:Int)+(m:Int)*1).toNat]?)=λm=>xs[i+m]?:=by
  funext m;have:((i:Int)+(m:Int)*1).toNat=i+m:=by lia
  rw[this]
 rw[e];have:=pick_run xs i k;rw[GE] at this;have e2:((λx=>xs[x]?) ∘ λx=>i+x)=λm=>xs[i+m]?:=rfl;rw[e2] at this;rw[this]
def getItem_tuple_cut{t sl:KF}{items:Array KB}{vl vu:KB}(ht:IsTup s.heap t items)(hs:s.heap.IsSliceOf sl vl vu .none)(pl:QQ vl lo)(pu:QQ vu hi)
  (hw:¬ (sIx items.size 0 lo=0/\sIx items.size items.size hi=items.size))
  (h:Q (.ref s.heap.objs.size) {s with heap:=s.heap.push {cls:= .type "tuple",data:= .seq ((items.toList.drop (sIx items.size 0 lo)).take (sIx items.size items.size hi - sIx items.size 0 lo)).toArray} })
  (g6:items.size<=sizeLine):PN (PM prog w) A (QT (.ref t) (.ref sl)) Q E s:=by
 have g_:sizeOk (.seq ((items.toList.drop (sIx items.size 0 lo)).take (sIx items.size items.size hi - sIx items.size 0 lo)).toArray):=by
  show((items.toList.drop (sIx items.size 0 lo)).take (sIx items.size items.size hi - sIx items.size 0 lo)).toArray.size<=sizeLine;rw[El,Fz,FA,Fx];lia
 have hj:sIx items.size items.size hi<=items.size:=sIx_le _ _ (D7 _) hi;obtain⟨os,y_,ML,J6⟩:=id hs;have NN:s.TypeIs (.ref sl) "slice":=⟨os,y_,ML⟩;unfold QT
 try with_reducible refine Qe ?_
 first|refine Os (PK ?_)|skip
 refine Os (wpAny_sequenceKey ht.typeIs (by decide) ?_);refine Os (wpAny_callSpecial?_slot (name:=Str.ofString "__getitem__") ht.typeIs PyProof.Rows.slot_tuple_getitem
  (wpAny_call_entry PyProof.Rows.slot_tuple_getitem ht.typeIs entry_tuple_getitem ?_ (args_tuple_getitem _ _)))
 show PN _ _ (Builtin.Tuple.tupleItemsOf (.ref t)>>=_) _ _ s;refine Os (tupleItemsOf_ ht ?_);refine Os (wpAny_typeOf NN ?_);rw[if_pos (by decide)];refine Os (vI hs pl pu ?_);have d5:¬ ((((sIx items.size 0 lo:Nat):Int)==0 && (1:Int)==1 && (sIx items.size items.size hi - sIx items.size 0 lo)==items.size)=true):=by
  intro q;rw[Ew,Ew] at q;have q1:((sIx items.size 0 lo:Nat):Int)=0:=eq_of_beq q.1.1;have q2:sIx items.size items.size hi - sIx items.size 0 lo=items.size:=eq_of_beq q.2;exact hw ⟨by lia,by lia⟩
 show PN _ _ (if(((sIx items.size 0 lo:Nat):Int)==0 && (1:Int)==1 && (sIx items.size items.size hi - sIx items.size 0 lo)==items.size)=true then _ else _) _ _ s;rw[if_neg d5,vJ]
 first
  |exact Os (m:=Builtin.Tuple.tupleExact _) (P1 (PK ⟨_,rfl,PK h⟩) g_)
  |exact Os (m:=Builtin.Tuple.tupleExact _) (P1 (Os (PK (PK ⟨_,rfl,PK h⟩))) g_)
  |exact Os (Os (m:=Builtin.Tuple.tupleExact _) (P1 (PK (PK ⟨_,rfl,PK h⟩)) g_))
  |exact Os (Os (m:=Builtin.Tuple.tupleExact _) (P1 (PK ⟨_,rfl,PK h⟩) g_))
end
end HT
namespace L2
open PySem PySem.Spec PyProof.Rows
abbrev TO:=St->Hp->(Option Int->Hp->Prop)->Prop
def PO(X:Cx)(e:Option PJ)(t:TO):Prop:=
 ∀ (pins:List (KF × P7)) (s:KM) (σ:St) (H:Hp) (Q:Option Int->Hp->Prop),Inv X pins σ H s->t σ H Q->
  PN (PM X.prog X.w) X.A (evalPart e X.env) (λu s'=>∃ o H',Inv X pins σ H' s'/\QQ u o/\Q o H') X.xe s
def vK:TO:=λ_ H Q=>Q o_ H
def vL(t:TE):TO:=λσ H Q=>t σ H λx H1=>∃ i,x= .int i/\Q (be i) H1
def intsAre_of{ns:List Int}:∀ {us:List KB},Vals (ns.map V.int) us->QL us ns:=by
 induction ns with
 |nil=>intro us r;rw[Fc] at r;cases r;exact .nil
 |cons n ns ih=>
  intro us r;rw[En] at r;cases r with
  |cons r1 r2=>
   obtain⟨t,e⟩:=r1;subst e;exact .cons n t (ih r2)
section
variable {X:Cx}{e:PJ}{te:TE}{lo hi:Option PJ}{tl th:TO}{pos p2:P0}
def pi:PO X o_ vK:=by
 intro pins s σ H Q I h;rw[evalPart_none];exact PK ⟨o_,H,I,.none,h⟩
def pj(h:PE X e te):PO X (be e) (vL te):=by
 intro pins s σ H Q I hw;rw[evalPart_some];refine thn (h pins s σ H _ I hw) λu s1 b8=>?_;obtain⟨x,H1,I1,r1,q1⟩:=b8;obtain⟨i,rfl,q⟩:=q1;obtain⟨t,rfl⟩:=r1;exact⟨be i,H1,I1,.int i t,q⟩
def SlR(X:Cx)(r:V->Option Int->Option Int->Hp->VK->Prop):Prop:=
 ∀ (pins:List (KF × P7)) (s:KM) (σ:St) (H:Hp) (x:V) (v vl vu:KB) (lo hi:Option Int) (sl:KF) (Q:VK),Inv X pins σ H s->RelV x v->s.heap.IsSliceOf sl vl vu .none->QQ vl lo->QQ vu hi->r x lo hi H Q->
  ∃ T id,typeLookup (.type T) "__getitem__"=pure (be (.builtin id))/\s.TypeIs v T/\PN (PM X.prog X.w) X.A (QT v (.ref sl)) (EP X pins σ Q) X.xe s
variable{r:V->Option Int->Option Int->Hp->VK->Prop}
def SlR.or{r':V->Option Int->Option Int->Hp->VK->Prop}(h:SlR X r)(h':SlR X r'):SlR X (λx lo hi H Q=>r x lo hi H Q\/r' x lo hi H Q):=by
 intro pins s σ H x v vl vu lo hi sl Q I rx hs pl pu q;rcases q with q|q
 .exact h pins s σ H x v vl vu lo hi sl Q I rx hs pl pu q
 .exact h' pins s σ H x v vl vu lo hi sl Q I rx hs pl pu q
def tSl(r:V->Option Int->Option Int->Hp->VK->Prop)(te:TE)(tl th:TO):TE:=λσ H Q=>te σ H λx H1=>tl σ H1 λl H2=>th σ H2 λu H3=>r x l u H3 Q
def pk(hr:SlR X r)(he:PE X e te)(hl:PO X lo tl)(hu:PO X hi th):PE X (.Subscript e (.Slice lo hi o_ p2) pos) (tSl r te tl th):=by
 intro pins s σ H Q I h;refine Subscript_ (thn (he pins s σ H _ I h) λv s1 b8=>?_);obtain⟨x,H1,I1,r1,q1⟩:=b8;refine wpAny_Slice (thn (hl pins s1 σ H1 _ I1 q1) λvl s2 ⟨l,H2,I2,pl,q2⟩=>thn (hu pins s2 σ H2 _ I2 q2) λvu s3 b8=>?_);obtain⟨u,H3,I3,pu,q3⟩:=b8;rw[evalPart_none];refine PK ?_;have I4:Inv X pins σ H3 {s3 with heap:=s3.heap.push {cls:= .type "slice",data:= .fields #[vl,vu,.none]} }:=I3.kept (t':=s3.toks) λb ob q=>Heap.get?_push_of_some _ q;obtain⟨T,id,hT,ht,hg⟩:=hr pins {s3 with heap:=s3.heap.push {cls:= .type "slice",data:= .fields #[vl,vu,.none]} } σ H3 x v vl vu l u s3.heap.objs.size Q I4 r1 (Heap.IsSliceOf.new ..) pl pu q3;show PN (PM X.prog X.w) X.A (subscriptTail e (.Slice lo hi o_ p2) v (.ref s3.heap.objs.size)) (EP X pins σ Q) X.xe {s3 with heap:=s3.heap.push {cls:= .type "slice",data:= .fields #[vl,vu,.none]} };exact tail_any (ops:=[.ref s3.heap.objs.size,v]) ht hT hg (by with_unfolding_all rfl)
def cutV(xs:List V)(lo hi:Option Int):List V:=(xs.drop (HT.sIx xs.length 0 lo)).take (HT.sIx xs.length xs.length hi - HT.sIx xs.length 0 lo)
def pp(xs:List V)(lo hi:Option Int):(cutV xs lo hi).length<=xs.length:=by
 unfold cutV;rw[Fz,FA];lia
def rSlT(K:D6):V->Option Int->Option Int->Hp->VK->Prop:=λx lo hi H Q=>∃ a xs,x= .ref a/\SqT K H a xs/\
 ¬ (HT.sIx xs.length 0 lo=0/\HT.sIx xs.length xs.length hi=xs.length)/\∀ p,H p=o_->Q (.ref p) (upd H p (.tup (cutV xs lo hi)))
def vM:SlR X (rSlT X.K):=by
 intro pins s σ H x v vl vu lo hi sl Q I rx hs pl pu h;obtain⟨a,xs,rfl,hx,hw,q⟩:=h;cases rx;obtain⟨its,r,ht,hz⟩:=I.tuple hx;have b7:its.toArray.size=xs.length:=by rw[El];exact r.length.symm
 refine⟨"tuple",_,PyProof.Rows.slot_tuple_getitem.lookup,ht.typeIs,?_⟩;refine HT.getItem_tuple_cut ht hs pl pu (by rw[b7];exact hw) ?_ (by rw[b7];exact hz);rw[b7];refine⟨.ref s.heap.objs.size,_,I.laid (t':=s.toks) (o:= .tup (cutV xs lo hi)) (λb ob q=>Heap.get?_push_of_some _ q) (D7 _) ?_,rfl,q _ (I.hok.fresh (D7 _))⟩;exact⟨Ei (pp xs lo hi) hz,_,(r.drop (HT.sIx xs.length 0 lo)).take (HT.sIx xs.length xs.length hi - HT.sIx xs.length 0 lo),IsTup.new _ _⟩
def pq(K:D6):R2:=λx y H Q=>∃ a b xs ys,x= .ref a/\y= .ref b/\SqT K H a xs/\SqT K H b ys/\xs≠[]/\xs.length+ys.length<=sizeLine/\
 (ys=[]->Q (.ref a) H)/\(ys≠[]->∀ p,H p=o_->Q (.ref p) (upd H p (.tup (xs++ys))))
def Vals.nil_iff{xs:List V}{us:List KB}(r:Vals xs us):us=[]↔xs=[]:=by
 cases r with
 |nil=>simp
 |cons _ _=>simp
def vN:OpR X (P8 .Add) (pq X.K):=by
 intro pins s σ H x y v u Q I rx ry h;obtain⟨a,b,xs,ys,rfl,rfl,ha,hb,hx,hz,q1,q2⟩:=h;cases rx;cases ry;obtain⟨its,r1,p1,_⟩:=I.tuple ha;obtain⟨k_,r2,p2,_⟩:=I.tuple hb;refine HT.cat_tup p1 p2 (λz=>hx (r1.nil_iff.mp z)) (λz=>⟨.ref a,H,I,rfl,q1 (r2.nil_iff.mp z)⟩) (λz=>?_) (by rw[<- r1.length,<- r2.length];exact hz);refine⟨.ref s.heap.objs.size,_,I.laid (t':=s.toks) (o:= .tup (xs++ys)) (λb ob q=>Heap.get?_push_of_some _ q) (D7 _) ?_,rfl,q2 (λw=>z (r2.nil_iff.mpr w)) _ (I.hok.fresh (D7 _))⟩;exact⟨by rw[Eg];exact hz,_,r1.append r2,IsTup.new _ _⟩
end
def ixN(n:Nat)(i:Int):Option Nat:=if 0<=i then(if i<n then be i.toNat else o_) else if -(n:Int)<=i then be (i+n).toNat else o_
def atI{α:Type}(xs:List α)(i:Int):Option α:=(ixN xs.length i).bind λj=>xs[j]?
def pr{n:Nat}{i:Int}{j:Nat}(h:ixN n i=be j):seqIndex? i n=be j/\j<n/\-(n:Int)<=i/\i<n:=by
 unfold ixN at h;by_cases h0:0<=i
 .rw[if_pos h0] at h;by_cases h1:i<n
  .rw[if_pos h1] at h;have e:i.toNat=j:=Option.some.inj h;exact⟨by rw[Rb h0 h1,e],by lia,by lia,h1⟩
  .rw[if_neg h1] at h;cases h
 .rw[if_neg h0] at h;by_cases h1: -(n:Int)<=i
  .rw[if_pos h1] at h;have e:(i+n).toNat=j:=Option.some.inj h;exact⟨by rw[Q5 (by lia) h1,e],by lia,h1,by lia⟩
  .rw[if_neg h1] at h;cases h
def atI_get{α:Type}{xs:List α}{i:Int}{v:α}(h:atI xs i=be v):∃ j,seqIndex? i xs.length=be j/\xs[j]?=be v/\j<xs.length/\-(xs.length:Int)<=i/\i<xs.length:=by
 unfold atI at h;cases e:ixN xs.length i with
 |none=>rw[e] at h;cases h
 |some j=>
  rw[e] at h;obtain⟨h1,h2,h3,h4⟩:=pr e;exact⟨j,h1,h,h2,h3,h4⟩
def ce{α:Type}{xs:List α}{j:Nat}{v:α}(h:xs[j]?=be v):atI xs (j:Int)=be v:=by
 have hj:j<xs.length:=(Em.mp h).1;have e:ixN xs.length (j:Int)=be j:=by
  unfold ixN;rw[if_pos (by lia),if_pos (by lia)];simp
 unfold atI;rw[e];exact h
def dU(b:PJ):Prop:=∀ o i,subscripted b false o i=operate [o,i] (QT o i)
def IxR(X:Cx)(r:R2):Prop:=
 ∀ (value slice:PJ) (pins:List (KF × P7)) (s:KM) (σ:St) (H:Hp) (x y:V) (v u:KB) (Q:VK),Inv X pins σ H s->RelV x v->RelV y u->r x y H Q->
  subscripted slice false v u=operate [v,u] (QT v u)->PN (PM X.prog X.w) X.A (subscriptTail value slice v u) (EP X pins σ Q) X.xe s
def MtR(X:Cx)(id:String)(r:V->List V->Hp->VK->Prop):Prop:=
 ∀ (pins:List (KF × P7)) (s:KM) (σ:St) (H:Hp) (x:V) (xs:List V) (v:KB) (us:List KB) (Q:VK),Inv X pins σ H s->RelV x v->Vals xs us->r x xs H Q->
  PN (PM X.prog X.w) X.A (call (.builtin id) (v::us)) (EP X pins σ Q) X.xe s
section
variable {X:Cx}{a b:PJ}{ta tb:TE}{pos:P0}
def IxR.or{r r':R2}(h:IxR X r)(h':IxR X r'):IxR X (λx y H Q=>r x y H Q\/r' x y H Q):=by
 intro value slice pins s σ H x y v u Q I rx ry q hs;rcases q with q|q
 .exact h value slice pins s σ H x y v u Q I rx ry q hs
 .exact h' value slice pins s σ H x y v u Q I rx ry q hs
def pe_ix{r:R2}(hr:IxR X r)(ha:PE X a ta)(hb:PE X b tb)(hs:dU b):PE X (.Subscript a b pos) (tOp r ta tb):=by
 intro pins s σ H Q I h;exact Subscript_ (binT ha hb I h λv u s2 x y H2 I2 rx ry q=>hr a b pins s2 σ H2 x y v u Q I2 rx ry q (hs _ _))
def rIxL(K:D6):R2:=λx y H Q=>∃ p xs i v,x= .ref p/\y= .int i/\SqL K H p xs/\atI xs i=be v/\Q v H
def rIxT(K:D6):R2:=λx y H Q=>∃ p xs i v,x= .ref p/\y= .int i/\SqT K H p xs/\atI xs i=be v/\Q v H
def rIxS:R2:=λx y H Q=>∃ z i c,x= .str z/\y= .int i/\z.length<=sizeLine/\atI z.cps.toList i=be c/\Q (.str ⟨#[c]⟩) H
def ix_list:IxR X (rIxL X.K):=by
 intro value slice pins s σ H x y v u Q I rx ry h hs;obtain⟨p,xs,i,z,rfl,rfl,hq,he,q⟩:=h;cases rx;obtain⟨t,rfl⟩:=ry;obtain⟨its,r,pl,hz⟩:=I.list hq;obtain⟨j,h1,h2,h3,h4,h5⟩:=atI_get he;obtain⟨w,ew,g8⟩:=r.get h2;have hl:=r.length;have hn:=line63;have d6:EP X pins σ Q w s:=⟨z,H,I,g8,q⟩;by_cases h0:0<=i
 .have hj:i.toNat=j:=by
   rw[Rb h0 h5] at h1;exact Option.some.inj h1
  exact item_listR pl.isList h0 (by lia) (by rw[hj];simpa using ew) d6 hs
 .have hj:(i+(its.toArray.size:Int)).toNat=j:=by
   rw[Q5 (by lia) h4] at h1;rw[El,<- hl];exact Option.some.inj h1
  exact Q3 (x:=w) pl.isList.typeIs slot_list_getitem.lookup
   (wpAny_getItem_list_neg (Q:=λr s'=>r=w/\EP X pins σ Q r s') pl.isList (by lia) (by rw[El]<;>lia) (by lia) (by rw[hj];simpa using ew) ⟨rfl,d6⟩) hs
def ix_tup:IxR X (rIxT X.K):=by
 intro value slice pins s σ H x y v u Q I rx ry h hs;obtain⟨p,xs,i,z,rfl,rfl,hq,he,q⟩:=h;cases rx;obtain⟨t,rfl⟩:=ry;obtain⟨its,r,pl,hz⟩:=I.tuple hq;obtain⟨j,h1,h2,h3,h4,h5⟩:=atI_get he;obtain⟨w,ew,g8⟩:=r.get h2;have hl:=r.length;have hn:=line63;have d6:EP X pins σ Q w s:=⟨z,H,I,g8,q⟩;exact Q3 (x:=w) pl.typeIs slot_tuple_getitem.lookup
  (getItem_tuple (j:=j) (Q:=λr s'=>r=w/\EP X pins σ Q r s') pl (by lia) (by lia) (by rw[El,<- hl];exact h1) (by simpa using ew) ⟨rfl,d6⟩) hs
def vO:IxR X rIxS:=by
 intro value slice pins s σ H x y v u Q I rx ry h hs;obtain⟨z,i,c,rfl,rfl,hz,he,q⟩:=h;obtain⟨t,rfl⟩:=rx;obtain⟨t',rfl⟩:=ry;obtain⟨j,h1,h2,h3,h4,h5⟩:=atI_get he;have hl:z.cps.toList.length=z.length:=by simp[Str.length]
 rw[hl] at h1 h4 h5;have hn:=line63;exact tail_any (Rl s z t) slot_str_getitem.lookup (getItem_str (c:=c) (by
  have e1:decide (i< -(2 ^ 63:Int))=false:=decide_eq_false (by lia);have e2:decide (i >= 2 ^ 63)=false:=decide_eq_false (by lia);rw[e1,e2,Bool.or_false]) (by rw[h1];simpa using h2) ⟨.str ⟨#[c]⟩,H,I.tok _,⟨_,rfl⟩,q⟩) hs
def rIx(K:D6):R2:=λx y H Q=>rIxL K x y H Q\/rIxT K x y H Q\/rIxS x y H Q
def pv:IxR X (rIx X.K):=ix_list.or (ix_tup.or vO)
def vP(its:List KB)(n j:Nat)(u:KB):Obj.mapSeq (·.setIfInBounds j u) {cls:= .type "list",data:= .seq its.toArray n}={cls:= .type "list",data:= .seq (its.set j u).toArray n}:=by
 simp[Obj.mapSeq]
def Inv.lst{pins:List (KF × P7)}{σ:St}{H:Hp}{s:KM}{p:KF}{xs:List V}(I:Inv X pins σ H s)(h:H p=be (.lst xs)):
  ∃ (its:List KB) (n:Nat),Vals xs its/\s.heap.get? p=be {cls:= .type "list",data:= .seq its.toArray n}/\xs.length<=sizeLine:=by
 obtain⟨z,its,n,r,e⟩:=I.hok p _ h;exact⟨its,n,r,e,z⟩
variable{pins:List (KF × P7)}{s:KM}
def Inv.lstUpd{σ:St}{H:Hp}{p:KF}{xs ys:List V}{its its':List KB}{n n':Nat}{f:P7->P7}(I:Inv X pins σ H s)(h:H p=be (.lst xs))
  (ho:s.heap.get? p=be {cls:= .type "list",data:= .seq its.toArray n}) (hf:f {cls:= .type "list",data:= .seq its.toArray n}={cls:= .type "list",data:= .seq its'.toArray n'}) (r:Vals ys its') (hz:ys.length<=sizeLine) (t:Nat):
  Inv X pins σ (upd H p (.lst ys)) {s with heap:=s.heap.update p f,toks:=t}:=by
 have e:(s.heap.update p f).get? p=be {cls:= .type "list",data:= .seq its'.toArray n'}:=by
  rw[Heap.get?_update_self f ho (by rw[hf]<;>rfl),hf]
 refine I.write (x:=p) (e:=p) (by rw[h];trivial) (.inl rfl) (λb u hb q=>(Heap.get?_update_other _ _ (Ne.symm hb)).trans q) ⟨_,e⟩ ?_;exact⟨hz,its',n',r,e⟩
def vQ:V->V->V->Hp->(Hp->Prop)->Prop:=λo i v H Q=>∃ p xs k j,o= .ref p/\i= .int k/\H p=be (.lst xs)/\ixN xs.length k=be j/\Q (upd H p (.lst (xs.set j v)))
def pw:PSet X vQ:=by
 intro pins s σ H o i v ov iv u Q I ro ri rv h;obtain⟨p,xs,k,j,rfl,rfl,hp,hj,q⟩:=h;cases ro;obtain⟨t,rfl⟩:=ri;obtain⟨its,n,r,ho,hz⟩:=I.lst hp;obtain⟨h1,h2,h3,h4⟩:=pr hj;have hl:=r.length;have hn:=line63;have I':Inv X pins σ (upd H p (.lst (xs.set j v))) {s with heap:=s.heap.update p (Obj.mapSeq (·.setIfInBounds j u))}:=
  I.lstUpd hp ho (vP its n j u) (r.set rv j) (by rw[EZ];exact hz) s.toks
 by_cases h0:0<=k
 .have hk:k.toNat=j:=by
   rw[Rb h0 h4] at h1;exact Option.some.inj h1
  exact ki_setAt ho h0 (by lia) (by rw[El,<- hl];exact h4) (by rw[hk];exact⟨_,I',q⟩)
 .have hk:(k+(its.toArray.size:Int)).toNat=j:=by
   rw[Q5 (by lia) h3] at h1;rw[El,<- hl];exact Option.some.inj h1
  exact ki_setBack ho (by lia) (by rw[El,<- hl];exact h3) (by lia) (by rw[hk];exact⟨_,I',q⟩)
def vR(lo hi:Option Int)(n:Nat):(Ql lo hi o_ n).1=((HT.sIx n 0 lo:Nat):Int)/\(Ql lo hi o_ n).2.1=((HT.sIx n n hi:Nat):Int)/\(Ql lo hi o_ n).2.2=1:=by
 refine⟨?_,?_,rfl⟩
 .cases lo with
  |none=>simp[Ql,HT.sIx]
  |some i=>
   simp only[Ql,HT.sIx,GF,show(1:Int)>0 by decide,if_true];by_cases h:i<0
   .simp only[h,if_true]<;>lia
   .simp only[h,if_false]<;>lia
 .cases hi with
  |none=>simp[Ql,HT.sIx]
  |some i=>
   simp only[Ql,HT.sIx,GF,show(1:Int)>0 by decide,if_true];by_cases h:i<0
   .simp only[h,if_true]<;>lia
   .simp only[h,if_false]<;>lia
def vS(its:List KB)(lo hi:Option Int):slicePick its.toArray lo hi o_=((its.drop (HT.sIx its.length 0 lo)).take (HT.sIx its.length its.length hi - HT.sIx its.length 0 lo)).toArray:=by
 obtain⟨h1,h2,h3⟩:=vR lo hi its.toArray.size;unfold slicePick;rw[h1,h2,h3];simp only[sliceRange_one,pick_run,El]<;>rfl
def rSlL(K:D6):V->Option Int->Option Int->Hp->VK->Prop:=λx lo hi H Q=>∃ a xs,x= .ref a/\SqL K H a xs/\∀ p,H p=o_->Q (.ref p) (upd H p (.lst (cutV xs lo hi)))
def pz:SlR X (rSlL X.K):=by
 intro pins s σ H x v vl vu lo hi sl Q I rx hs pl pu h;obtain⟨a,xs,rfl,hx,q⟩:=h;cases rx;obtain⟨its,r,ht,hz⟩:=I.list hx;have b7:=r.length;refine⟨"list",_,slot_list_getitem.lookup,ht.isList.typeIs,?_⟩;refine wpAny_getItem_list_slice ht.isList hs pl pu .none (by simp) ?_ (by rw[El]<;>lia);rw[vS,<- b7];refine⟨.ref s.heap.objs.size,_,I.laid (t':=s.toks) (o:= .lst (cutV xs lo hi)) (λb ob q=>Heap.get?_push_of_some _ q) (D7 _) ?_,rfl,q _ (I.hok.fresh (D7 _))⟩;exact⟨Ei (pp xs lo hi) hz,_,0,(r.drop (HT.sIx xs.length 0 lo)).take (HT.sIx xs.length xs.length hi - HT.sIx xs.length 0 lo),Heap.get?_push_size _ rfl⟩
def bN:V->Bool
 | .non=>true
 | .bl _=>true
 | .int _=>true
 | .str _=>true
 |_=>false
def eqV:V->V->Bool
 | .non,.non=>true
 | .bl a,.bl b=>a==b
 | .bl a,.int b=>(if a then 1 else 0)==b
 | .int a,.bl b=>a==(if b then 1 else 0)
 | .int a,.int b=>a==b
 | .str a,.str b=>a==b
 |_,_=>false
variable{x:V}
def eqAt_V{A:PQ}{y:V}{u v:KB}(ry:RelV y u)(rx:RelV x v)(fy:bN y=true)(fx:bN x=true):SeqAt.EqAt A s u v (eqV y x):=by
 cases y with
 |non=>
  cases ry;cases x with
  |non=>cases rx;exact SeqAt.EqAt.same _
  |bl b=>cases rx;exact SeqAt.EqAt.none_bool b
  |int b=>obtain⟨t,rfl⟩:=rx;exact SeqAt.EqAt.none_int b t
  |str b=>obtain⟨t,rfl⟩:=rx;exact SeqAt.EqAt.none_str b t
  |_=>exact absurd (show false=true from fx) Ej
 |bl a=>
  cases ry;cases x with
  |non=>cases rx;exact SeqAt.EqAt.bool_none a
  |bl b=>cases rx;exact SeqAt.EqAt.bool_bool a b
  |int b=>obtain⟨t,rfl⟩:=rx;exact SeqAt.EqAt.bool_int a b t
  |str b=>obtain⟨t,rfl⟩:=rx;exact SeqAt.EqAt.bool_str a b t
  |_=>exact absurd (show false=true from fx) Ej
 |int a=>
  obtain⟨t',rfl⟩:=ry;cases x with
  |non=>cases rx;exact SeqAt.EqAt.int_none a t'
  |bl b=>cases rx;exact SeqAt.EqAt.int_bool a t' b
  |int b=>obtain⟨t,rfl⟩:=rx;exact SeqAt.EqAt.int_int a t' b t
  |str b=>obtain⟨t,rfl⟩:=rx;exact SeqAt.EqAt.int_str a t' b t
  |_=>exact absurd (show false=true from fx) Ej
 |str a=>
  obtain⟨t',rfl⟩:=ry;cases x with
  |non=>cases rx;exact SeqAt.EqAt.str_none a t'
  |bl b=>cases rx;exact SeqAt.EqAt.str_bool a t' b
  |int b=>obtain⟨t,rfl⟩:=rx;exact SeqAt.EqAt.str_int a t' b t
  |str b=>obtain⟨t,rfl⟩:=rx;exact SeqAt.EqAt.str_str a t' b t
  |_=>exact absurd (show false=true from fx) Ej
 |_=>exact absurd (show false=true from fy) Ej
def eqU(x:V)(u:KB):Bool:=match u with
 | .none=>eqV .non x
 | .bool b=>eqV (.bl b) x
 | .int i _=>eqV (.int i) x
 | .str z _=>eqV (.str z) x
 |_=>false
def pA{y:V}{u:KB}(r:RelV y u)(f:bN y=true):eqU x u=eqV y x:=by
 cases y with
 |non=>cases r;rfl
 |bl b=>cases r;rfl
 |int i=>obtain⟨t,rfl⟩:=r;rfl
 |str z=>obtain⟨t,rfl⟩:=r;rfl
 |_=>exact absurd (show false=true from f) Ej
def jk{x:V}:∀ {xs:List V} {us:List KB},Vals xs us->xs.all bN=true->us.any (eqU x)=xs.any λy=>eqV y x
 |_,_,.nil,_=>rfl
 |y::xs,u::us,.cons r t,f=>by
  rw[Fh,Ew] at f;rw[Fi,Fi,pA r f.1,jk t f.2]
def mem_eqAt{A:PQ}{s:KM}{x:V}{v:KB}(rx:RelV x v)(fx:bN x=true):∀ {xs:List V} {us:List KB},Vals xs us->xs.all bN=true->∀ u∈us,SeqAt.EqAt A s u v (eqU x u)
 |_,_,.nil,_=>λu hu=>by cases hu
 |y::xs,u::us,.cons r t,f=>λu' hu=>by
  rw[Fh,Ew] at f;rcases Ea.mp hu with rfl|hu
  .rw[pA r f.1];exact eqAt_V r rx f.1 fx
  .exact mem_eqAt rx fx t f.2 u' hu
def inV(x:V)(xs:List V):Bool:=xs.any λy=>eqV y x
def rIn(K:D6)(neg:Bool):R2:=λx y H Q=>∃ p xs,y= .ref p/\(SqL K H p xs\/SqT K H p xs)/\bN x=true/\xs.all bN=true/\Q (.bl (if neg then !inV x xs else inV x xs)) H
def vT:OpR X (P6 .NotIn) (rIn X.K true):=by
 intro pins s σ H x y v u Q I rx ry h;obtain⟨p,xs,rfl,hq,fx,fs,q⟩:=h;cases ry;rcases hq with hq|hq
 .obtain⟨its,r,pl,hz⟩:=I.list hq;refine SeqAt.notIn_listAt (eqU x) pl.isList (λw hw=>mem_eqAt rx fx r fs w (by simpa using hw)) ⟨.bl _,H,I,rfl,?_⟩;rw[show its.toArray.any (eqU x)=its.any (eqU x) by simp,jk r fs];exact q
 .obtain⟨its,r,pl,hz⟩:=I.tuple hq;refine SeqAt.notIn_tupleAt (eqU x) pl (λw hw=>mem_eqAt rx fx r fs w (by simpa using hw)) ⟨.bl _,H,I,rfl,?_⟩;rw[show its.toArray.any (eqU x)=its.any (eqU x) by simp,jk r fs];exact q
def vU:OpR X (P6 .NotIn) (λx y H Q=>∃ i j,x= .str i/\y= .str j/\Q (.bl (!(!(Builtin.Str.occurrences j i 0 j.length 1).isEmpty))) H):=by
 intro pins s σ H x y v u Q I rx ry h;obtain⟨i,j,rfl,rfl,q⟩:=h;obtain⟨t,rfl⟩:=rx;obtain⟨t',rfl⟩:=ry;exact notIn_str ⟨.bl _,H,I,rfl,q⟩
def vV:bA X (.type "list") (λxs H Q=>∃ p ys,xs=[.ref p]/\(SqL X.K H p ys\/SqT X.K H p ys)/\∀ l,H l=o_->Q (.ref l) (upd H l (.lst ys))):=by
 intro pins s σ H xs us Q I r h;obtain⟨p,ys,rfl,hq,q⟩:=h;obtain⟨u,rfl,rx⟩:=bM r;cases rx;have d6:∀ (its:List KB),Vals ys its->ys.length<=sizeLine->∀ (h':Heap) (c':Nat),(∀ b o',s.heap.get? b=be o'->h'.get? b=be o')->
   h'.get? s.heap.objs.size=be {cls:= .type "list",dict:=o_,data:= .seq its.toArray c',slots:=#[]}->EP X pins σ Q (.ref s.heap.objs.size) {s with heap:=h'}:=λits r' hz h' c' kp e=>
  ⟨.ref s.heap.objs.size,_,I.laid (t':=s.toks) kp (D7 _) (show ObjOk X.prog X.w _ h' _ (.lst ys) from⟨hz,its,c',r',e⟩),rfl,q _ (I.hok.fresh (D7 _))⟩
 rcases hq with hq|hq
 .obtain⟨its,r',pl,hz⟩:=I.list hq;have b7:=r'.length;obtain⟨o,ho,hc,n,hd⟩:=pl.isList;exact call_list_seq p (.inl rfl) ho hc hd (λh' c' kp e=>d6 its r' hz h' c' kp e) (by simp only[El]<;>lia)
 .obtain⟨its,r',pl,hz⟩:=I.tuple hq;have b7:=r'.length;obtain⟨o,ho,hc,n,hd⟩:=pl;exact call_list_seq p (.inr rfl) ho hc hd (λh' c' kp e=>d6 its r' hz h' c' kp e) (by simp only[El]<;>lia)
def tyV(K:D6)(T:String)(x:V)(H:Hp):Prop:=match x with
 | .str _=>T="str"
 | .int _=>T="int"
 | .ref p=>(T="list"/\∃ xs,SqL K H p xs)\/(T="tuple"/\∃ o,K.lookup p=be o/\o.cls= .type "tuple"/\o.dict=o_)\/
   (T="dict"/\((∃ a8,H p=be (.dK a8))\/∃ a8,H p=be (.dT a8)))\/(T="set"/\∃ S n,H p=be (.set S n))
 |_=>False
def vW{σ:St}{H:Hp}{T:String}{v:KB}(I:Inv X pins σ H s)(r:RelV x v)(ty:tyV X.K T x H):
  s.TypeIs v T/\∀ a,v= .ref a->∃ ob,s.heap.get? a=be ob/\ob.dict=none:=by
 cases x with
 |str z=>
  obtain⟨t,rfl⟩:=r;cases(show T="str" from ty);exact⟨Rl s z t,λ_ e=>nomatch e⟩
 |int i=>
  obtain⟨t,rfl⟩:=r;cases(show T="int" from ty);exact⟨typeIs_int s i t,λ_ e=>nomatch e⟩
 |ref p=>
  cases r;rcases ty with⟨rfl,xs,hq⟩|⟨rfl,o,hk,hc,hd⟩|⟨rfl,hk⟩|⟨rfl,S,n,hk⟩
  .obtain⟨its,_,pl,_⟩:=I.list hq;refine⟨pl.isList.typeIs,λa e=>?_⟩;cases e;obtain⟨o,n,e,c,hd,_⟩:=pl;exact⟨o,e,hd⟩
  .refine⟨⟨o,I.kIn p o hk,hc⟩,λa e=>?_⟩;cases e;exact⟨o,I.kIn _ o hk,hd⟩
  .have z:∃ o,s.heap.get? p=be o/\o.ExactDict:=by
    rcases hk with⟨a8,hk⟩|⟨a8,hk⟩
    .obtain⟨_,_,_,_,o,_,_,e,ex,_⟩:=I.hok p _ hk;exact⟨o,e,ex⟩
    .obtain⟨_,_,_,_,o,_,_,e,ex,_⟩:=I.hok p _ hk;exact⟨o,e,ex⟩
   obtain⟨o,e,ex⟩:=z;refine⟨⟨o,e,ex.1⟩,λa e2=>?_⟩;cases e2;exact⟨o,e,ex.2.1⟩
  .obtain⟨o,_,_,_,e,ex,_⟩:=I.hok p _ hk;refine⟨⟨o,e,ex.1⟩,λa e2=>?_⟩;cases e2;exact⟨o,e,ex.2.1⟩
 |_=>exact False.elim ty
def tBM(K:D6)(T:String)(r:V->List V->Hp->VK->Prop)(to:TE)(t:TA):TE:=λσ H Q=>to σ H λx H1=>tyV K T x H1/\t σ H1 λxs H2=>r x xs H2 Q
variable {o e:PJ}{es:List PJ}{to:TE}{t:TA}{name:y'}{apos cpos:P0}{T id:String}{r:V->List V->Hp->VK->Prop}
def dW(pa:PlainAttrs T)(slot:Slot T name id)(KJ:typeOf (.builtin id)=pure (.type "method_descriptor"))(hm:MtR X id r)(ho:PE X o to)(ha:PA X (e::es) t)
  (b_:autoParam (PV o name X.env (PX o X.env)=PX o X.env) zA0)
  (d_:((Qo cpos (PR (e::es) X.env)).all (λx=>!x.1) && (QH cpos (Qm [] X.env)).all (λx=>x.1.isSome)
   && decide ((e::es).length+([]:List QI).length+(if([]:List QI).isEmpty then 0 else 1)<30))=true:=by rfl)
  (c8:autoParam ((apos.endLine==cpos.line)=true) zA0) (hs:autoParam (zSE X e es) zA0) (m8:autoParam (zPL X cpos es) zA0):
  PE X (.Call (.Attribute o name apos) (e::es) [] cpos) (tBM X.K T r to t):=by
 intro pins s σ H Q I h;refine wpAny_Call_method_late b_ d_ c8 rfl (thn (ho pins s σ H _ I h) λv s1 b8=>?_);obtain⟨x,H1,I1,r1,ty,q1⟩:=b8;obtain⟨h1,h2⟩:=vW I1 r1 ty;refine⟨T,id,pa,slot,KJ,h1,h2,?_⟩;have hA:=ha cpos pins s1 σ H1 _ I1 q1;rw[hs] at hA ⊢;refine Calls.callWith_builtin (by show(false||(Qo cpos (PR es X.env)).any (·.1))=false;rw[m8]<;>rfl) (Calls.evalArgs_plain ?_);exact thn hA λus s2 ⟨vs,H2,I2,r2,q2⟩=>hm pins s2 σ H2 x vs v us Q I2 r1 r2 q2
end
def MtM(X:Cx)(id:String)(r:V->List V->Hp->VK->Prop):Prop:=
 ∀ (pins:List (KF × P7)) (s:KM) (σ:St) (H:Hp) (x:V) (xs:List V) (v:KB) (us:List KB) (Q:VK),Inv X pins σ H s->RelV x v->Vals xs us->r x xs H Q->
  PN (PM X.prog X.w) X.A (call (.builtin id) (v::us)) (EP X pins σ Q) X.xe s
def Vals.one:∀ {x:V} {us:List KB},Vals [x] us->∃ u,us=[u]/\RelV x u:=by
 intro x us h;cases h with
 |cons r h=>cases h;exact⟨_,rfl,r⟩
def Vals.two:∀ {x y:V} {us:List KB},Vals [x,y] us->∃ u v,us=[u,v]/\RelV x u/\RelV y v:=by
 intro x y us h;cases h with
 |cons r h=>
  obtain⟨u,rfl,q⟩:=Vals.one h;exact⟨_,_,rfl,r,q⟩
def Vals.zero:∀ {us:List KB},Vals [] us->us=[]
 |_,.nil=>rfl
def Vals.dropLast{xs:List V}{us:List KB}(h:Vals xs us):Vals xs.dropLast us.dropLast:=by
 induction h with
 |nil=>exact .nil
 |cons r t ih=>
  cases t with
  |nil=>exact .nil
  |cons q t'=>exact .cons r ih
section
variable {X:Cx}{pins:List (KF × P7)}{σ:St}{H:Hp}{s:KM}{l b:KF}{xs ys zs:List V}
variable{its:List KB}
def Inv.lset{its':List KB}{n:Nat}{f:Array KB->Array KB}{t':Nat}(I:Inv X pins σ H s)(hH:H l=be (.lst xs))
  (e:s.heap.get? l=be {cls:= .type "list",data:= .seq its.toArray n}) (hf:f its.toArray=its'.toArray) (hv:Vals ys its') (hz:ys.length<=sizeLine):
  Inv X pins σ (upd H l (.lst ys)) {s with heap:=s.heap.update l (Obj.mapSeq f),toks:=t'}:=by
 have q:=PySem.IsL.update e f;rw[hf] at q;refine I.write (x:=l) (e:=l) (by rw[hH];exact trivial) (.inl rfl) (λb' u hb hu=>(Heap.get?_update_other s.heap (Obj.mapSeq f) (Ne.symm hb)).trans hu) ⟨_,q⟩ ?_;exact⟨hz,its',_,hv,q⟩
def Inv.lnew{t':Nat}(I:Inv X pins σ H s)(hv:Vals ys its)(hz:ys.length<=sizeLine):
  Inv X pins σ (upd H s.heap.objs.size (.lst ys)) {s with heap:=s.heap.push {cls:= .type "list",data:= .seq its.toArray},toks:=t'}:=
 I.laid (λ_ _ q=>Heap.get?_push_of_some _ q) (D7 _) ⟨hz,its,0,hv,Heap.get?_push_size _ rfl⟩
def Inv.fresh(I:Inv X pins σ H s):H s.heap.objs.size=none:=I.hok.fresh (D7 _)
def Inv.lstM(I:Inv X pins σ H s)(hH:H l=be (.lst xs)):xs.length<=sizeLine/\∃ (its:List KB) (n:Nat),Vals xs its/\xs.length=its.length/\s.heap.get? l=be {cls:= .type "list",data:= .seq its.toArray n}:=by
 obtain⟨z,its,n,r,e⟩:=I.hok l _ hH;exact⟨z,its,n,r,r.length,e⟩
def vX{n:Nat}(h:n<=sizeLine):Builtin.List.listTooLong n=false:=by
 unfold Builtin.List.listTooLong;exact decide_eq_false (by lia)
end
section
variable {X:Cx}
def vY:V->List V->Hp->VK->Prop:=λx vs H Q=>∃ l xs y,x= .ref l/\vs=[y]/\H l=be (.lst xs)/\xs.length<sizeLine/\Q .non (upd H l (.lst (xs++[y])))
def gl:MtM X "list.append" vY:=by
 intro pins s σ H x vs v us Q I rx rv h;obtain⟨l,xs,y,rfl,rfl,hH,hz,q⟩:=h;cases rx;obtain⟨u,rfl,ru⟩:=rv.one;obtain⟨z,its,n,r,hl,e⟩:=I.lstM hH;refine call_meets F.slot_list_append ⟨_,e,rfl⟩ F.entry_list_append (F.args_list_append_2 _ _) (PySem.list_append l its.toArray n u (by rw[El];lia)) ⟨e,?_⟩;refine⟨.non,_,I.lset (its':=its++[u]) hH e (by simp) (r.append (.cons ru .nil)) ?_,rfl,q⟩;rw[Eg,List.length_singleton];lia
def vZ:V->List V->Hp->VK->Prop:=λx vs H Q=>∃ l b xs zs,x= .ref l/\vs=[.ref b]/\H l=be (.lst xs)/\H b=be (.lst zs)/\xs.length+zs.length<=sizeLine/\Q .non (upd H l (.lst (xs++zs)))
def D1:MtM X "list.extend" vZ:=by
 intro pins s σ H x vs v us Q I rx rv h;obtain⟨l,b,xs,zs,rfl,rfl,hH,hB,hz,q⟩:=h;cases rx;obtain⟨u,rfl,ru⟩:=rv.one;cases ru;obtain⟨z,its,n,r,hl,e⟩:=I.lstM hH;obtain⟨z2,k_,n2,r2,HA,e2⟩:=I.lstM hB;have g6:its.toArray.size+k_.toArray.size<=sizeLine:=by rw[El,El];lia
 have IT:¬ (!its.toArray.isEmpty && Builtin.List.listTooLong (its.toArray.size+k_.toArray.size))=true:=by
  rw[vX g6,Bool.and_false];exact Ej
 refine call_meets F.slot_list_extend ⟨_,e,rfl⟩ F.entry_list_extend (F.args_list_extend_2 _ _)
  (AutoSeq1.list_extend_list_list_0 l its.toArray n b k_.toArray n2 IT (by rw[El];lia) (by lia)) ⟨e,e2,?_⟩
 refine⟨.non,_,I.lset (its':=its++k_) hH e (by simp) (r.append r2) ?_,rfl,q⟩;rw[Eg];lia
def rCat:R2:=λx y H Q=>∃ l b xs zs,x= .ref l/\y= .ref b/\H l=be (.lst xs)/\H b=be (.lst zs)/\xs.length+zs.length<=sizeLine/\∀ p,H p=o_->Q (.ref p) (upd H p (.lst (xs++zs)))
def wa:OpR X (P8 .Add) rCat:=by
 intro pins s σ H x y v u Q I rx ry h;obtain⟨l,b,xs,zs,rfl,rfl,hH,hB,hz,q⟩:=h;cases rx;cases ry;obtain⟨z,its,n,r,hl,e⟩:=I.lstM hH;obtain⟨z2,k_,n2,r2,HA,e2⟩:=I.lstM hB;refine PySem.P.add_list e e2 ?_ (by rw[El,El];lia);have ea:its.toArray++k_.toArray=(its++k_).toArray:=by simp
 rw[ea];exact⟨.ref _,_,I.lnew (t':=s.toks) (r.append r2) (by rw[Eg];lia),rfl,q _ I.fresh⟩
end
end L2
namespace MN
open PySem PySem.W PySem.Calls PyProof.Rows
variable{P:Params}
def wc{h:Heap}:∀ (ns:List Int) (vs:List KB),WellAll P h vs (ns.map WData.int)->QL vs ns:=by
 intro ns;induction ns with
 |nil=>
  intro vs w;rw[Fc] at w;cases w;exact .nil
 |cons n ns ih=>
  intro vs w;rw[En] at w;cases w with
  |cons a b=>
   cases a;exact .cons _ _ (ih _ b)
variable{l:OpenLaw}
def we{n:Nat}(hn:l.most=be n){h:Heap}{args:List WData}{HS:List KB}
  (z6:l.row.toRowW.claim.pre args=true) (KL:WellAll P h HS args):
  ∃ a vs ns,HS=[Value.ref a]/\args=[WData.list (ns.map WData.int)]/\h.get? a=be {cls:= .type "list",data:= .seq vs.toArray}/\QL vs ns/\ns.length<=n:=by
 have NO:WShape.hasAll [] args [.list .int]=true:=(pre_splitW z6).1;have hc:l.pre.holds [] {args:=args}=true:=(pre_splitW z6).2;obtain⟨d,r,rfl,h1,h2⟩:=hasAllW_cons NO;obtain rfl:=hasAllW_nil h2;obtain⟨xs,rfl,h3⟩:=hasW_list h1;obtain⟨ns,rfl⟩:=items_int h3;have b7:ns.length<=n:=by
  unfold OpenLaw.pre at hc;have h4:(WTm.not (.lt (.lit (.int (n:Int))) (.len (.arg 0)))).holds [] {args:=[.list (ns.map .int)]}=true:=by
   have h4:=(holds_andW hc).1;rw[hn] at h4;exact h4
  have h5:=condW_of h4 (w_not (w_lt w_lit (w_len_list (w_arg rfl))));rw[Ef] at h5;refine F7 λq=>?_;have q':(n:Int)<((ns.length:Nat):Int):=by lia
  first
   |(rw[decide_eq_true q'] at h5;exact absurd h5 (by decide))
   |(simp at h5;lia)
 cases KL with
 |cons w1 w2=>
  cases w2;cases w1 with
  |list ho z7=>exact⟨_,_,ns,rfl,rfl,ho,wc ns _ z7,b7⟩
def wg(l:OpenLaw)(args:List WData):l.row.toRowW.claim.post args (.bool true) args=true:=
 postW_of (r:=l.row.toRowW) (X:=(true==true))
  (show WShape.has [] (.bool true) .bool=true by first|rfl|decide|simp[WShape.has,WShape.arms,WShape.armsAll])
  (show(WTm.eq .res (.lit (.bool true))).value [] {args:=args,res:=be (.bool true),after:=args}=be (.bool (true==true)) from w_eq_bool (w_res rfl) w_lit) rfl
def attach_call{n:Nat}{q:PH}{j6:List y'}{XP:(y'->Option KB)->Heap->Prop}{YP:PP->Heap->Prop}{d:DefRec}
  (hn:l.most=be n) (IU:d.params.defaults=[])
  (call:∀ (w:PP) (s₀ s₁:KM) (mg mb:y'->Option KB) (fa:KF) (o:P7) (pm cd doc:KB) (a:KF) (vs:List KB) (ns:List Int),
   Ground q j6 [] XP w s₀ mg mb s₁.heap->YP w s₁.heap->
   s₁.heap.get? fa=be o->o.data= .func (docDef d.name d.params d.body d.scope pm cd doc)->s₁.heap.CodeRec cd d.name->mg d.name=be (.ref fa)->
   s₁.heap.get? a=be {cls:= .type "list",data:= .seq vs.toArray}->QL vs ns->ns.length<=n->s₁.gens=#[]->
   QA (PM l.prog w) QK (.call (.ref fa) ⟨[.ref a],[]⟩) (λr s'=>r= .ok (.ret (.bool true))/\OldK s₁.heap s'.heap/\s'.os=s₁.os/\Qw s'.gens) s₁):
  WalkO q j6 XP YP l.row.toRowW d [] (λf vs=>PySem.call f vs):=by
 intro w s₀ s₁ mg mb G Y fa o pm cd doc dV kV ho hd f8 hD l8 hg args HS as z6 NP O9 KL O_;obtain rfl:dV= .none:=Dflts.none hD IU;obtain rfl:kV= .none:=Dflts.noKw hD;obtain⟨a,vs,ns,rfl,rfl,HU,u8,b7⟩:=we hn z6 KL;refine enter_call (Qq (call w s₀ s₁ mg mb fa o pm cd doc a vs ns G Y ho (fd_plain hd) f8 l8 HU u8 b7 hg) λr s' hq=>?_);obtain⟨rfl,h2,h3,h4⟩:=hq;exact⟨.inl ⟨.bool true,.bool true,[],rfl,λ_=>rfl,.bool true,wg l _,λ_=>⟨List.Pairwise.nil,λ_ hm=>(nomatch hm)⟩⟩,h2,h3,h4⟩
end MN
namespace L2
open PySem PySem.Spec PyProof.Rows
def pB:∀ {vs:List KB} {ns:List Int},QL vs ns->Vals (ns.map V.int) vs
 |_,_,.nil=> .nil
 |_,_,.cons n t h=> .cons ⟨t,rfl⟩ (pB h)
def Only(H:Hp):Prop:=∀ b,H b=o_\/∃ o xs,H b=be (.frz o (.lst xs))
variable{P:PH}{w:PP}{a:KF}
def wj{K:D6}{mg mb:y'->Option KB}{CX:CXT}{k:Nat}{fa:KF}{fd:PY}{x:y'}{sp:Sp}{s₁:KM}{vs:List KB}{ns:List Int}
  (KX:K.In s₁.heap) (hns:s₁.heap.Ns Pi mg) (hb:s₁.heap.Ns Ro mb) (NQ:∀ x:y',x≠"__name__"->mb x=P5 x) (KN:s₁.heap.NoLimit) (hg:s₁.gens=#[])
  (ha:s₁.heap.get? a=be {cls:= .type "list",data:= .seq vs.toArray}) (hi:QL vs ns) (hl:ns.length<=sizeLine) (hr:Room k QK)
  (F:∀ base:Heap,K.In base->base.Ns Pi mg->FnOk P w K mg base CX k fa fd [x] sp) (IV:∀ (s:KM) (u:KB),QM s fd ⟨[u],[]⟩ [(x,u)])
  (q8:∀ H:Hp,Only H->SqL K H a (ns.map V.int)->sp [.ref a] H (λv _=>v= .bl true) λ_ _ _=>False)
  (KO:∀ H e s',CX [] H s₁ (λ_ _ _=>False) e s'->False):
  QA (PM P w) QK (.call (.ref fa) ⟨[.ref a],[]⟩) (λr s'=>r= .ok (.ret (.bool true))/\OldK s₁.heap s'.heap/\s'.os=s₁.os/\Qw s'.gens) s₁:=by
 have rv:=pB hi;have KP:=hi.length;have IY:∀ H:Hp,Only H->SqL K H a (ns.map V.int)->HOk P w H s₁.heap->(∀ b,H b≠o_->b=a)->(H a≠o_->K.lookup a=o_)->
   QA (PM P w) QK (.call (.ref fa) ⟨[.ref a],[]⟩) (λr s'=>r= .ok (.ret (.bool true))/\OldK s₁.heap s'.heap/\s'.os=s₁.os/\Qw s'.gens) s₁:=by
  intro H hO hS hok hA hK;have pc:∀ {b:KF} {o:P7},s₁.heap.get? b=be o->H b=o_->(hidT s₁.heap H).get? b=be o:=λe n=>tE e n;have IR:∀ {b:KF} {o:P7} {es:Array DictEntry} {ep:Nat},s₁.heap.get? b=be o->o.data= .dict es ep->H b=none:=λ{b o es ep} e d=>by
   cases q:H b with
   |none=>rfl
   |some u=>
    have e':b=a:=hA b (by rw[q];simp);subst e';rw[ha] at e;cases e;have d':Data.seq vs.toArray _=Data.dict es ep:=d;cases d'
  have J8:∀ {b:KF} {m:y'->Option KB},s₁.heap.Ns b m->(hidT s₁.heap H).Ns b m:=λ{b m} ⟨o,es,ep,e,d,r⟩=>⟨o,es,ep,pc e (IR e d),d,r⟩;have MQ:K.In (hidT s₁.heap H):=λb o e=>pc (KX b o e) (by
   cases q:H b with
   |none=>rfl
   |some u=>
    have e':b=a:=hA b (by rw[q];simp);subst e';rw[hK (by rw[q];simp)] at e;cases e)
  have hM:Mod K mg (hidT s₁.heap H):=⟨MQ,J8 hns,⟨mb,J8 hb,NQ⟩,let ⟨mc,h1,h2⟩:=KN;⟨mc,J8 h1,h2⟩⟩;have e0:Env0 P w K mg (hidT s₁.heap H) QK [] s₁ H:=⟨rfl,hM,λb o e=>tF e,FN (tD _ _),trivial,λb hb=>absurd (show b∈([]:List KF) from hb) (by simp),hok,.of_eq hg⟩;refine Qq ((F _ MQ (J8 hns)).run QK [] s₁ H ⟨[.ref a],[]⟩ [.ref a] [.ref a] _ _ hr e0 (IV s₁ (.ref a)) (.cons rfl .nil) (q8 H hO hS)) λr s' h=>?_;cases r with
  |error e=>exact(KO H e s' h).elim
  |ok fl=>
   cases fl with
   |next=>exact False.elim h
   |brk=>exact False.elim h
   |cont=>exact False.elim h
   |ret u=>
    obtain⟨v,H',os,bare,un,KQ,r',q⟩:=h;have q':v= .bl true:=q;subst q';obtain rfl:u=Value.bool true:=r';refine⟨rfl,OldK.of_keep λb o e=>?_,os,bare⟩;cases q:H b with
    |none=>exact un.keep b o e q (by intro z;exact absurd (show b∈([]:List KF) from z) (by simp)) (by simp)
    |some u=>
     rcases hO b with z|⟨ob,xs,z⟩
     .rw[q] at z;cases z
     .have z2:=un.frzs b ob _ z;obtain⟨e1,_⟩:=hok b _ z;obtain⟨e2,_⟩:=KQ b _ z2;rw[e] at e1;cases e1;exact e2
 cases hk:K.lookup a with
 |some o=>
  have e:=KX a o hk;rw[ha] at e;cases e;refine IY (λ_=>o_) (λ_=> .inl rfl) (.inr ⟨_,vs.toArray,_,hk,rfl,rfl,rfl,by rw[El,KP];exact hl,by simpa using rv⟩) (λb u z=>by have z':(o_:Option HO)=be u:=z;cases z') (λb z=>absurd rfl z) λz=>absurd rfl z
 |none=>
  refine IY (λb=>if b=a then be (.frz {cls:= .type "list",data:= .seq vs.toArray} (.lst (ns.map V.int))) else o_) (λb=>?_) (.inl (.inr ⟨{cls:= .type "list",data:= .seq vs.toArray},if_pos rfl⟩)) (λb u z=>?_) (λb z=>?_) λ_=>hk
  .by_cases hb:b=a
   .exact .inr ⟨_,_,if_pos hb⟩
   .exact .inl (if_neg hb)
  .by_cases hb:b=a
   .have z':=(if_pos hb).symm.trans z;cases z';subst hb;exact⟨ha,by rw[Ef];exact hl,vs,_,rv,ha⟩
   .have z':=(if_neg hb).symm.trans z;cases z'
  .by_cases hb:b=a
   .exact hb
   .exact absurd (if_neg hb) z
def walk_of{l:F8}{n k:Nat}{q:PH}{j6:List y'}{XP:(y'->Option KB)->Heap->Prop}{YP:PP->Heap->Prop}{d:DefRec}{K:Params->D6}{CX:PP->CXT}{sp:PP->Sp}{x:y'}
  (hn:l.most=be n) (x':n<=sizeLine) (IU:d.params.defaults=[]) (hr:Room k QK)
  (hY:∀ (w:PP) (h:Heap),YP w h->(K w.params).In h)
  (F:∀ (w:PP) (mg:y'->Option KB) (fa:KF) (h:Heap),(K w.params).In h->h.Ns Pi mg->mg d.name=be (.ref fa)->
   ∃ fd:PY,(∀ (s:KM) (u:KB),QM s fd ⟨[u],[]⟩ [(x,u)])/\
    ∀ base:Heap,(K w.params).In base->base.Ns Pi mg->FnOk l.prog w (K w.params) mg base (CX w) k fa fd [x] (sp w))
  (q8:∀ (w:PP) (H:Hp) (a:KF) (ns:List Int),ns.length<=n->Only H->SqL (K w.params) H a (ns.map V.int)->sp w [.ref a] H (λv _=>v= .bl true) λ_ _ _=>False)
  (KO:∀ (w:PP) (H:Hp) (s:KM) (e:KB) (s':KM),CX w [] H s (λ_ _ _=>False) e s'->False):
  GH q j6 XP YP l.row.toRowW d [] (λf vs=>PySem.call f vs):=by
 refine MN.attach_call hn IU λw s₀ s₁ mg mb fa o pm cd doc a vs ns G Y ho hd f8 l8 HU u8 b7 hg=>?_;have KX:=hY w _ Y;obtain⟨fd,hb,hF⟩:=F w mg fa _ KX G.T.g l8;exact wj KX G.T.g G.T.b G.T.builtins G.T.nolimit hg HU u8 (Ei b7 x') hr hF hb (λH hO hS=>q8 w H a ns b7 hO hS) λH e s'=>KO w H s₁ e s'
def bg(s:PL)(j:Nat):PL:=match s with
 | .ClassDef _ _ _ body _ _ _ _ _ _ _=>body.getD j (.Pass ⟨0,0,0,0⟩)
 |_=> .Pass ⟨0,0,0,0⟩
def bD(s:PL):Arguments:=match s with
 | .FunctionDef _ a _ _ _ _ _ _ _ _=>a
 |_=>{posonlyargs:=[],args:=[],vararg:=o_,kwonlyargs:=[],kw_defaults:=[],kwarg:=o_,defaults:=[]}
def aI(s:PL):List PL:=match s with
 | .FunctionDef _ _ b _ _ _ _ _ _ _=>b
 |_=>[]
def ag(s:PL):Qf:=match s with
 | .FunctionDef _ _ _ _ _ _ sc _ _ _=>sc
 |_=>{kind:= .function,names:=[],isGenerator:=false,isCoroutine:=false}
abbrev CX0:CXT:=λ_ _ _ _ _ _=>False
abbrev E0:XK:=λ_ _ _=>False
structure Fun(K:D6)(x qual:Str)(st:PL)(f:KF)(fd:PY):Prop where
 ex:∃ (oc:KB) (od:Option KF) (kV doc pm:KB) (an:Option KF) (cdv ct:KB) (osl:Array (Option KB)),
  fd=fnOf x qual (bD st) (aI st) (ag st) .none kV doc pm an cdv ct/\K.lookup f=be ⟨oc,od,.func fd,osl⟩/\codeIn K cdv qual=true
 kp:keepIn K (.ref f)=true
section
variable {P:PH}{w:PP}{K:D6}{mg:y'->Option KB}{base:Heap}
variable{x qual:y'}{st:PL}{f:KF}{ps:List y'}
def Fun.ok{fd:PY}{N:List y'}{k:Nat}{sp:Sp}(F:Fun K x qual st f fd)(S:FnScope N ps (ag st))(len:∀ vs H Q E,sp vs H Q E->vs.length=ps.length)
  (a9:∀ (cdv:KB) (A:PQ) (outer:List Qs) (s:KM) (H:Hp) (vs:List V) (Q:VK) (E:XK),Room k (A.deeper (P2 qual (ag st) s.heap.objs.size f cdv))->sp vs H Q E->
   ∃ t,PSs (cxOf CX0 P w K mg base N qual (ag st) f cdv A outer s H E).nox (aI st) t/\t {nx:=λ_ H'=>Q .non H',rt:=Q} (start N vs) H):FnOk P w K mg base CX0 (k+1) f fd ps sp:=by
 obtain⟨oc,od,kV,doc,pm,an,cdv,ct,osl,rfl,lk,f8⟩:=F.ex;refine pd lk f8 S len λA outer s H vs Q E hr q8=>?_;obtain⟨t,h,q⟩:=a9 cdv A outer s H vs Q E hr q8;exact⟨t,h.nox,q⟩
def Fun.binds{fd:PY}(F:Fun K x qual st f fd)
  (h:∀ (kV doc pm:KB) (an:Option KF) (cdv ct:KB) (us:List KB),us.length=ps.length->Qr (fnOf x qual (bD st) (aI st) (ag st) .none kV doc pm an cdv ct) ⟨us,[]⟩=pure (ps.zip us)):Binds K fd ps []:=by
 obtain⟨oc,od,kV,doc,pm,an,cdv,ct,osl,rfl,lk,f8⟩:=F.ex;exact .all (h kV doc pm an cdv ct)
def gm{oc:KB}{od an:Option KF}{osl:Array (Option KB)}{kV doc pm cdv ct:KB}(l:K.lookup f=be ⟨oc,od,.func (fnOf x qual (bD st) (aI st) (ag st) .none kV doc pm an cdv ct),osl⟩)
  (c:codeIn K cdv qual=true) (k:keepIn K (.ref f)=true):Fun K x qual st f (fnOf x qual (bD st) (aI st) (ag st) .none kV doc pm an cdv ct):=⟨⟨oc,od,kV,doc,pm,an,cdv,ct,osl,rfl,l,c⟩,k⟩
end
def pC{A:PQ}{k:Nat}(hr:Room k A):A.units+1<Q0:=GI (Nat.add_le_add_left (by decide:1<=64) _) hr.units
def wk{n:Nat}(h:n<=1000):n<sizeLine:=GI h (by decide)
def ite2{c A B:Prop}[Decidable c](h1:c->A)(h2:¬ c->B):if c then A else B:=by
 by_cases h:c
 .rw[if_pos h];exact h1 h
 .rw[if_neg h];exact h2 h
def Same(H H':Hp):Prop:=∀ b o,H b=be o->H' b=be o
def Same.refl(H:Hp):Same H H:=λ_ _ h=>h
variable{H:Hp}
def Same.trans{H1 H2:Hp}(a:Same H H1)(b:Same H1 H2):Same H H2:=λc o h=>b c o (a c o h)
variable{H':Hp}
def Same.free(e:Same H H'){l:KF}(h:H' l=Option.none):H l=Option.none:=by
 cases q:H l with
 |none=>rfl
 |some o=>
  rw[e l o q] at h;cases h
def Same.seq{K:D6}{xs:List V}(e:Same H H')(h:SqL K H a xs):SqL K H' a xs:=by
 rcases h with(h|⟨o,h⟩)|h
 .exact .inl (.inl (e _ _ h))
 .exact .inl (.inr ⟨o,e _ _ h⟩)
 .exact .inr h
section
variable {κ:Type}[DecidableEq κ]
def valV(a8:List (κ × V))(k:κ):Option V:=(a8.find? λkv=>decide (kv.1=k)).map (·.2)
def putK(a8:List (κ × V))(k:κ)(v:V):List (κ × V):=
 if(a8.any λkv=>decide (kv.1=k))=true then a8.map (λkv=>if kv.1=k then(kv.1,v) else kv) else a8++[(k,v)]
def jl{p:κ × V}{r:List (κ × V)}{k:κ}(e:p.1=k):valV (p::r) k=be p.2:=by simp[valV,Fj,e]
def jm{p:κ × V}{r:List (κ × V)}{k:κ}(e:¬ p.1=k):valV (p::r) k=valV r k:=by simp[valV,Fj,e]
def RelO.getD{o:Option V}{u:Option KB}{d:V}{d':KB}(r:RelO o u)(rd:RelV d d'):RelV (o.getD d) (u.getD d'):=by
 cases o with
 |none=>cases u with
  |none=>exact rd
  |some _=>exact(show False from r).elim
 |some _=>cases u with
  |none=>exact(show False from r).elim
  |some _=>exact r
def KV.val{a8:List (κ × V)}{vs:List (κ × KB)}(r:KV a8 vs)(k:κ):RelO (valV a8 k) (QS vs k):=by
 unfold KV at r;induction r with
 |nil=>exact True.intro
 |@cons p q ps qs h t ih=>
  obtain⟨h1,h2⟩:=h;by_cases e:p.1=k
  .have e':q.1=k:=h1.symm.trans e;have b:QS (q::qs) k=be q.2:=by simp[QS,Fj,e']
   rw[jl e,b];exact h2
  .have e':¬ q.1=k:=λz=>e (h1.trans z);have b:QS (q::qs) k=QS qs k:=by simp[QS,Fj,e']
   rw[jm e,b];exact ih
def KV.any{a8:List (κ × V)}{vs:List (κ × KB)}(r:KV a8 vs)(k:κ):(a8.any λkv=>decide (kv.1=k))=vs.any λkv=>decide (kv.1=k):=by
 unfold KV at r;induction r with
 |nil=>rfl
 |cons h t ih=>rw[Fi,Fi,ih,h.1]
def KV.keys{a8:List (κ × V)}{vs:List (κ × KB)}(r:KV a8 vs):a8.map (·.1)=vs.map (·.1):=by
 unfold KV at r;induction r with
 |nil=>rfl
 |cons h t ih=>rw[En,En,ih,h.1]
def KV.length{a8:List (κ × V)}{vs:List (κ × KB)}(r:KV a8 vs):a8.length=vs.length:=Paired.length r
end
def pD{k:Key}{u:KB}(r:RelV (kV k) u):(bC P w).is k u=true:=by
 cases k with
 |inl i=>obtain⟨t,e⟩:=(show ∃ t,u=Value.int i t from r);subst e;exact mixKind_int P w i t
 |inr x=>obtain⟨t,e⟩:=(show ∃ t,u=Value.str x t from r);subst e;exact tw P w x t
def pE{P:PH}{w:PP}:∀ {ks:List Key} {us:List KB},Vals (ks.map kV) us->ItemsAre (bC P w) ks us
 |[],_,r=>by rw[Fc] at r;cases r;exact .nil
 |k::ks,_,r=>by
  rw[En] at r;cases r with
  |cons h t=>exact .cons (pD h) (pE t)
abbrev KT(H:Hp):List (List Key × V)->List (List Key × KF × KB)->Prop:=Paired λp q=>p.1=q.1/\H q.2.1=be (.tup (p.1.map kV))/\RelV p.2 q.2.2
variable{xs:List (List Key × KF × KB)}{a8:List (List Key × V)}
def KT.val(r:KT H a8 xs)(k:List Key):RelO (valV a8 k) ((QR xs k).map (·.2)):=by
 induction r with
 |nil=>exact True.intro
 |@cons p q ps qs h t ih=>
  obtain⟨h1,_,h2⟩:=h;by_cases e:p.1=k
  .have e':q.1=k:=h1.symm.trans e;have b:QR (q::qs) k=be q.2:=by simp[QR,Fj,e']
   rw[jl e,b];exact h2
  .have e':¬ q.1=k:=λz=>e (h1.trans z);have b:QR (q::qs) k=QR qs k:=by simp[QR,Fj,e']
   rw[jm e,b];exact ih
def KT.keeps(r:KT H a8 xs)(ht:∀ b ys,H b=be (.tup ys)->H' b=be (.tup ys)):KT H' a8 xs:=
 Paired.mapP r λ_ _ z=>⟨z.1,ht _ _ z.2.1,z.2.2⟩
section
variable {P:PH}{w:PP}{H:Hp}{h:Heap}{a:KF}
def pF{u:HO}(ok:HOk P w H h)(e:Rd H a u):ObjOk P w H h a u:=e.ok ok
def wl{a8:List (Key × V)}(ok:HOk P w H h)(e:Rd H a (.dK a8)):a8.length<=sizeLine/\(a==Qa)=false/\∃ vs,KV a8 vs/\h.DictOf (bC P w) a vs:=
 show ObjOk P w H h a (.dK a8) from pF ok e
def key_of{ks:List Key}(ok:HOk P w H h)(e:H a=be (.tup (ks.map kV))):(Qx (bC P w)).is h ks a:=by
 obtain⟨_,its,r,o,h1,h2,n,h3⟩:=(show ObjOk P w H h a (.tup (ks.map kV)) from ok a _ e);exact⟨o,its.toArray,n,h1,h2,h3,by simpa using pE r⟩
variable{a8:List (List Key × V)}
def pG(ok:HOk P w H h)(e:Rd H a (.dT a8)):a8.length<=sizeLine/\(a==Qa)=false/\
  ∃ xs,KT H a8 xs/\h.DictOfH (Qx (bC P w)) a xs:=by
 obtain⟨z,y,xs,r,o,es,ep,h1,h2,h3,h4,h5⟩:=(show ObjOk P w H h a (.dT a8) from pF ok e);refine⟨z,y,xs,r,o,es,ep,h1,h2,h3,h4,λx hx=>?_,h5⟩;have all:∀ {l:List (List Key × V)} {m:List (List Key × KF × KB)},KT H l m->∀ x∈m,(Qx (bC P w)).is h x.1 x.2.1:=by
  intro l m q;induction q with
  |nil=>intro x hx;exact nomatch hx
  |@cons p q ps qs hq t ih=>
   intro x hx;rcases Ea.mp hx with e|hx
   .subst e;exact key_of ok (by rw[<- hq.1];exact hq.2.1)
   .exact ih x hx
 exact all r x hx
def wm(ok:HOk P w H h)(e:H a=be (.dT a8)):a8.length<=sizeLine/\(a==Qa)=false/\
  ∃ xs,KT H a8 xs/\h.DictOfH (Qx (bC P w)) a xs:=pG ok (.inl e)
end
def DGet(H:Hp)(a:KF)(y:V)(r:Option V):Prop:=
 (∃ a8 k,Rd H a (.dK a8)/\y=kV k/\r=valV a8 k)\/∃ a8 k b,Rd H a (.dT a8)/\y= .ref b/\H b=be (.tup (k.map kV))/\r=valV a8 k
def DPut(H:Hp)(a:KF)(y v:V)(H':Hp):Prop:=
 (∃ a8 k,H a=be (.dK a8)/\y=kV k/\a8.length<sizeLine/\H'=upd H a (.dK (putK a8 k v)))\/
 ∃ a8 k b,H a=be (.dT a8)/\y= .ref b/\H b=be (.tup (k.map kV))/\a8.length<sizeLine/\H'=upd H a (.dT (putK a8 k v))
def DGet.k{a8:List (Key × V)}{k:Key}(e:H a=be (.dK a8)):DGet H a (kV k) (valV a8 k):= .inl ⟨a8,k,.inl e,rfl,rfl⟩
def DGet.t{b:KF}{k:List Key}(e:H a=be (.dT a8))(eb:H b=be (.tup (k.map kV))):DGet H a (.ref b) (valV a8 k):= .inr ⟨a8,k,b,.inl e,rfl,eb,rfl⟩
def DPut.k{a8:List (Key × V)}{k:Key}{v:V}(e:H a=be (.dK a8))(hl:a8.length<sizeLine):DPut H a (kV k) v (upd H a (.dK (putK a8 k v))):= .inl ⟨a8,k,e,rfl,hl,rfl⟩
def DPut.t{b:KF}{k:List Key}{v:V}(e:H a=be (.dT a8))(eb:H b=be (.tup (k.map kV)))(hl:a8.length<sizeLine):
  DPut H a (.ref b) v (upd H a (.dT (putK a8 k v))):= .inr ⟨a8,k,b,e,rfl,eb,hl,rfl⟩
section
variable {X:Cx}{pins:List (KF × P7)}{σ:St}{H:Hp}{s:KM}{a:KF}{y v:V}{u r:KB}{o:Option V}{A:PQ}{E:KB->KM->Prop}
def Inv.big(I:Inv X pins σ H s):Qa<s.heap.objs.size:=by
 have h:Pi<s.heap.objs.size:=(I.mod.glob.keeps I.bk).lt;exact GJ (by decide) h
def wn{h':Heap}{t':Nat}{ob:HO}(I:Inv X pins σ H s)(mu:Mut (H a))(hs:Heap.SameBut a s.heap h')(he:∃ q,h'.get? a=be q)(new:ObjOk X.prog X.w (upd H a ob) h' a ob):
  Inv X pins σ (upd H a ob) {s with heap:=h',toks:=t'}:=
 I.write (x:=a) (e:=a) mu (.inl rfl) (λb q hb z=>(hs.2 b hb).trans z) he new
end
def wo(h:Heap)(hb:Qa<h.objs.size):ObjOk P w H (h.push {cls:= .type "dict",data:= .dict #[]}) h.objs.size (.dT []):=
 ⟨EA _,beq_eq_false_iff_ne.mpr (Ne.symm (Eh hb)),[],.nil,_,#[],0,Heap.get?_push_size _ rfl,⟨rfl,rfl,rfl⟩,rfl,rfl,GK⟩
def wr:TE:=λ_ H Q=>∀ p,H p=o_->Q (.ref p) (upd H p (.dT []))
section
variable {X:Cx}{pos:P0}
def pe_dnewT:PE X (.Dict [] [] pos) wr:=λpins s σ H Q I h=>
 wpAny_Dict_empty ⟨.ref s.heap.objs.size,_,I.laid (a:=s.heap.objs.size) (o:= .dT []) (t':=s.toks) (λ_ _ q=>Heap.get?_push_of_some _ q) (D7 _) (wo s.heap I.big),rfl,h _ (I.hok.fresh (D7 _))⟩
end
structure M1(X:Cx)(o:PJ)(m:Str)(apos:P0)(e:PJ)(cpos:P0):Prop where
 base:PV o m X.env (PX o X.env)=PX o X.env
 few:((Qo cpos (PR [e] X.env)).all (λx=>!x.1) && (QH cpos (Qm [] X.env)).all (λx=>x.1.isSome)
  && decide (([e]:List PJ).length+([]:List QI).length+(if([]:List QI).isEmpty then 0 else 1)<30))=true
 line:(apos.endLine==cpos.line)=true
 trees:Qo cpos (PR [e] X.env)=[(false,PX e X.env)]
structure M2(X:Cx)(o:PJ)(m:Str)(apos:P0)(e f:PJ)(cpos:P0):Prop where
 base:PV o m X.env (PX o X.env)=PX o X.env
 few:((Qo cpos (PR [e,f] X.env)).all (λx=>!x.1) && (QH cpos (Qm [] X.env)).all (λx=>x.1.isSome)
  && decide (([e,f]:List PJ).length+([]:List QI).length+(if([]:List QI).isEmpty then 0 else 1)<30))=true
 line:(apos.endLine==cpos.line)=true
 trees:Qo cpos (PR [e,f] X.env)=[(false,PX e X.env),(false,PX f X.env)]
section
variable {X:Cx}{pins:List (KF × P7)}{σ:St}{H:Hp}{s:KM}{a:KF}{y d:V}{u r:KB}{o:Option V}{A:PQ}{E:KB->KM->Prop}
def wt{Q:KB->KM->Prop}(hu:A.units+1<Q0)(I:Inv X pins σ H s)(g:DGet H a y o)(ry:RelV y u)(rd:RelV d r)(h:∀ w' s',Inv X pins σ H s'->RelV (o.getD d) w'->Q w' s'):
  PN (PM X.prog X.w) A (call (.builtin "dict.get") [.ref a,u,r]) Q E s:=by
 rcases g with⟨a8,k,e,ey,l⟩|⟨a8,k,b,e,ey,eb,l⟩
 .subst ey;obtain⟨z,hd,vs,rel,dd⟩:=wl I.hok e;refine Q9 PySem.F.slot_dict_get dd.typeIs PySem.F.entry_dict_get (PySem.F.args_dict_get_3 _ _ _) (meets_dict_get_default (bC X.prog X.w) a (pD ry) hd r) ⟨_,dd.mapOf,h _ _ (I.tok _) ?_⟩;rw[l];exact(rel.val k).getD rd
 .subst ey;cases(show u=Value.ref b from ry);obtain⟨z,hd,xs,rel,dd⟩:=pG I.hok e;refine Q9 PySem.F.slot_dict_get dd.typeIs PySem.F.entry_dict_get (PySem.F.args_dict_get_3 _ _ _) (meetsH_dict_get_default (Qx (bC X.prog X.w)) a b hd r) ⟨Rm hu,k,xs,key_of I.hok eb,dd,h _ _ (I.tok _) ?_⟩;rw[l];exact(rel.val k).getD rd
end
end L2
end
section
open PySem PySem.Spec PyProof.Rows L2
namespace Exc
open PySem PySem.Spec PyProof.Rows PySem.W L2
def aO:List KB->Bool
 | .ref _::r=>aO r
 |l=>l==[.type "ValueError",.type "Exception",.type "BaseException",.type "object"]
def pH(self:KB):∀ {l:List KB},aO l=true->refuseLoop self "__setattr__" l=pure ()
 | .ref c::r,e=>by rw[refuseLoop_ref];exact pH self (by unfold aO at e;exact e)
 |[],e=>by simp[aO] at e
 | .type n::r,e=>by
  have e':(Value.type n::r)=[.type "ValueError",.type "Exception",.type "BaseException",.type "object"]:=by simpa[aO] using e
  rw[e'];exact PySem.F.store_ValueError.passes self
 | .none::r,e=>by simp[aO] at e
 | .bool _::r,e=>by simp[aO] at e
 | .int _ _::r,e=>by simp[aO] at e
 | .float _ _::r,e=>by simp[aO] at e
 | .str _ _::r,e=>by simp[aO] at e
 | .bytes _ _::r,e=>by simp[aO] at e
 | .builtin _::r,e=>by simp[aO] at e
def gp{T:String}(hT:[Value.type "ValueError",.type "Exception",.type "BaseException",.type "object"].contains (.type T)=true):∀ {l:List KB},aO l=true->l.contains (.type T)=true
 | .ref c::r,e=>by rw[GL,gp hT (l:=r) (by unfold aO at e;exact e),F9]
 |[],e=>by simp[aO] at e
 | .type n::r,e=>by
  have e':(Value.type n::r)=[.type "ValueError",.type "Exception",.type "BaseException",.type "object"]:=by simpa[aO] using e
  rw[e'];exact hT
 | .none::r,e=>by simp[aO] at e
 | .bool _::r,e=>by simp[aO] at e
 | .int _ _::r,e=>by simp[aO] at e
 | .float _ _::r,e=>by simp[aO] at e
 | .str _ _::r,e=>by simp[aO] at e
 | .bytes _ _::r,e=>by simp[aO] at e
 | .builtin _::r,e=>by simp[aO] at e
section
variable {prog:PH}{w:PP}{A:PQ}{E:KB->KM->Prop}{s:KM}{K:D6}{x C:KF}{ox:P7}{cd:ClassData}{name:y'}{v:KB}{vs:Array KB}
def wu{Q:Unit->KM->Prop}(X:K.In s.heap)(hx:s.heap.get? x=be ox)(j7:ox.cls= .ref C)(HW:ox.data= .fields vs)(hd:ox.dict=o_)(hc:clsIn K C=be cd)(hm:aO cd.mro=true)(hh:cd.hasDict=true)
  (hs:findIn K (.ref C) "__setattr__"=be (be (.builtin "object.__setattr__"))) (hf:findIn K (.ref C) name=be o_)
  (h:∀ h',h'.get? x=be {ox with dict:=be s.heap.objs.size}->h'.Ns1 s.heap.objs.size (λy=>if y=name then be v else o_)->(∀ b o,b≠x->s.heap.get? b=be o->h'.get? b=be o)->∀ tk,Q () {s with heap:=h',toks:=tk}):
  PN (PM prog w) A (setAttr (.ref x) name v) Q E s:=by
 have hn:notCls ox=true:=by unfold notCls;rw[HW]
 have I:InstAt s.heap x ox C none:=⟨hx,j7,hn,by rw[hd];trivial⟩;refine set_plain X I hs ?_;have SF:=PySem.F.store_object;have ne:cd.mro.isEmpty=false:=by cases q:cd.mro with|nil=>rw[q] at hm;simp[aO] at hm|cons _ _=>rfl
 have sub:Looks (PM prog w) s.heap (Rn (.ref x) (.type "object")) true:=I.type.andThen (looks_mroIn X (by unfold mroIn;rw[hc,Ga,if_neg (by rw[ne];decide),gp (by decide+kernel) hm]));refine Re SF.slot.plain SF.entry (@check_slot (PM prog w) _ _ _ "object.__setattr__" "object" "__setattr__" (.ref x) [.str name s.toks,v] [] _ SF.kind SF.split sub (SF.args (.ref x) (.str name s.toks) v) ?_);have KR:Looks (PM prog w) s.heap (mroOf (.ref C)) cd.mro:=(looks_clsIn X hc).andThen .now;rw[osa_eq,refuse_eq];refine Os (Os (I.type.here (s:={s with toks:=s.toks+1}) (Os (KR.here (s:={s with toks:=s.toks+1}) ?_))));rw[pH _ hm];refine PK (Os (I.type.here (s:={s with toks:=s.toks+1}) (Os ((looks_findIn X hf).here (s:={s with toks:=s.toks+1}) (Os (Looks.now.here (s:={s with toks:=s.toks+1}) ?_))))));obtain⟨oc,NR,NS,osl⟩:=ox;dsimp only at j7 hd HW;subst j7 hd HW;refine Os (PK (Os (Os (wpAny_loadPart hx (Os ((looks_clsIn X hc).here (s:={s with toks:=s.toks+1}) ?_))))));rw[hh];rw[if_neg (by decide)];have hx₁:(s.heap.push {cls:= .type "dict",data:= .dict #[]}).get? x=be ⟨.ref C,o_,.fields vs,osl⟩:=Heap.get?_push_of_some _ hx;have MU:x≠s.heap.objs.size:=Eh (Heap.lt_size hx);show PN _ _ (do
  let d <- alloc {cls:=Value.type "dict",data:=Data.dict #[]}
  update x λo=>{cls:=o.cls,dict:=be d,data:=o.data,slots:=o.slots}
  dictMade (.ref C) x d) _ _ _
 refine Os (wpAny_alloc' ?_);refine Os (wpAny_update' hx₁ ?_);refine PK ?_;have NT:((s.heap.push {cls:= .type "dict",data:= .dict #[]}).update x λo=>{cls:=o.cls,dict:=be s.heap.objs.size,data:=o.data,slots:=o.slots}).get? s.heap.objs.size
   =be {cls:= .type "dict",data:= .dict #[]}:=
  (Heap.get?_update_ne _ _ _ _ MU.symm).trans (Heap.get?_push_at rfl rfl)
 have NU:((s.heap.push {cls:= .type "dict",data:= .dict #[]}).update x λo=>{cls:=o.cls,dict:=be s.heap.objs.size,data:=o.data,slots:=o.slots}).Ns s.heap.objs.size (λ_=>o_):=
  ⟨_,#[],_,NT,rfl,λe he=>absurd he (by simp),λ_=>rfl⟩
 show PN _ _ (Builtin.ObjectAttr.storeInDict s.heap.objs.size (.str name s.toks) name v) _ _ _;unfold Builtin.ObjectAttr.storeInDict Builtin.ObjectAttr.newKeyGuard;refine Os (PK (Os (wpAny_nsSet1 (Heap.Ns1.of_empty NU) λh' k8 hs=>?_)));obtain⟨oD,NI,NJ,KE,KG,KH⟩:=k8.count (Within.cons name v Within.nil);refine Os (wpAny_lookBehind KE (by rw[KG];exact pastItsLine_dict (Ei KH (by rw[Eb,FB,QF];lia))) ?_);refine PK (h h' ?_ k8 (λb o hb q=>?_) _)
 .exact(hs.2 x MU).trans (Heap.get?_update_self _ hx₁ rfl)
 .exact(hs.2 b (Eh (Heap.lt_size q))).trans ((Heap.get?_update_ne _ _ _ _ hb).trans (Heap.get?_push_of_some _ q))
def wv{Q:KB->KM->Prop}{rest:List KB}{t0:KF}{a1 a2 a3 a4 a5:KB}(X:K.In s.heap)(hx:s.heap.get? x=be ox)(j7:ox.cls= .ref C)(HW:ox.data= .fields #[.ref t0,a1,a2,a3,a4,a5])(hc:clsIn K C=be cd)(hm:aO cd.mro=true)(hl:rest.length<=sizeLine)
  (h:∀ h',h'.get? x=be {ox with data:= .fields #[.ref s.heap.objs.size,a1,a2,a3,a4,a5]}->(∀ b o,b≠x->s.heap.get? b=be o->h'.get? b=be o)->Q .none {s with heap:=h'}):
  PN (PM prog w) A (call (.builtin "ValueError.__init__") (.ref x::rest)) Q E s:=by
 have F:=PySem.F.excBase_ValueError;have hn:notCls ox=true:=by unfold notCls;rw[HW]
 have ht:Looks (PM prog w) s.heap (typeOf (.ref x)) (.ref C):=j7 ▸ (Looks.ld hx).andThen .now;have ne:cd.mro.isEmpty=false:=by cases q:cd.mro with|nil=>rw[q] at hm;simp[aO] at hm|cons _ _=>rfl
 have sub:Looks (PM prog w) s.heap (Rn (.ref x) (.type "ValueError")) true:=ht.andThen (looks_mroIn X (by unfold mroIn;rw[hc,Ga,if_neg (by rw[ne];decide),gp (by decide+kernel) hm]));have NV:∀ {Q:Unit->KM->Prop} {E:KB->KM->Prop} {A:PQ},Q () s->PN (PM prog w) A (checkBuiltinCall "ValueError.__init__" ⟨.ref x::rest,[]⟩) Q E s:=λ{Q E A} hq=>by
  have KS:=F.noStar;simp only[checkBuiltinCall,F.initKind,F.initSplit,F.initRow];refine Os (sub.here ?_);obtain⟨hp,g,d,t,os⟩:=s;have Lc:=looks_clsIn (M:=PM prog w) X hc
  repeat(first|(with_reducible refine P_ hx ?_;rw[j7])|(with_reducible refine Lc.here ?_)|wp_step)
  refine wpAny_onRaise ?_;rw[show ∀ (a b:String) (n:Nat),Bind.check ⟨.positional,"*","ValueError",.self,[⟨"args",.varPos,false⟩]⟩ a b n (FO (λx=>x.fst) ({pos:=Value.ref x::rest}:Args).kw)=pure () from
   λa b n=>check_star_args _ _ _ _ _ _]
  exact PK hq
 refine Qy (Re F.init.plain F.initEntry (NV ?_));obtain⟨hp,g,d,t,os⟩:=s;obtain⟨oc,NR,NS,osl⟩:=ox;dsimp only at j7 HW hx h;subst j7 HW
 wp_walk
 have hx₁:=Heap.get?_push_of_some {cls:=Value.type "tuple",data:=Data.seq rest.toArray} hx;refine h _ ?_ (λb o hb q=>?_)
 .rw[Heap.get?_update_self _ hx₁ rfl];rfl
 .rw[Heap.get?_update_other _ _ (Ne.symm hb)];exact Heap.get?_push_of_some _ q
end
abbrev veLine:List KB:=[.type "ValueError",.type "Exception",.type "BaseException",.type "object"]
section
variable {prog:PH}{w:PP}{A:PQ}{E:KB->KM->Prop}{h:Heap}{g:Array GenState}{d:Drawn}{t:Nat}{os:OsState}{K:D6}
variable {nm q:y'}{C N fI:KF}{bs bm:List KB}{hdct:Bool}{sn:List y'}{sub:List KB}{ab:Bool}{col:Option Bool}{dd:Option KF}{k0 k1 k2 k3 k5:Option KB}{rest:List KB}
def ww{Q:Fin->KM->Prop}(X:K.In h)(T:OwnTail h veLine bm)(hC:h.get? C=be (Qb nm q C N bs bm hdct sn sub ab col dd k0 k1 k2 k3 k5 "ValueError.__new__"))
  (hi:findIn K (.ref C) "__init__"=be (be (.ref fI))) (hf:typeIn K (.ref fI)=be (.type "function"))
  (hq:∀ h' e,Heap.MadeExcOf h h' e (.ref C) rest->PN (PM prog w) A (call (.ref fI) (.ref e::rest)) (λr s'=>r= .none/\Q (.done (.ret (.ref e))) s') E ⟨h',g,d,t,os⟩) (hl:rest.length<=sizeLine):
  PN (PM prog w) A (Builtin.«type.__call__» ⟨.ref C::rest,[]⟩) Q E ⟨h,g,d,t,os⟩:=by
 have F:=PySem.F.excBase_ValueError
 repeat(first|(with_reducible refine P_ hC ?_)|(with_reducible refine wpAny_madeBy_exc hC ?_)|wp_step)
 refine codeAny_call_builtin_code (Code.quiet_builtin _ F.quiet) (wpAny_check_new_subT F T hC (codeAny_exc_new_subT F T hC ?_ hl));have kp:∀ b o,h.get? b=be o->((h.push {cls:= .type "tuple",data:= .seq rest.toArray}).push {cls:= .ref C,data:= .fields #[.ref h.objs.size,.none,.none,.none,.bool false,.none]}).get? b=be o:=λb o e=>Heap.get?_push_of_some _ (Heap.get?_push_of_some _ e);have NW:=kp _ _ hC;have X1:K.In _:=X.keeps kp;have he:((h.push {cls:= .type "tuple",data:= .seq rest.toArray}).push {cls:= .ref C,data:= .fields #[.ref h.objs.size,.none,.none,.none,.bool false,.none]}).get? (h.objs.size+1)=be {cls:= .ref C,data:= .fields #[.ref h.objs.size,.none,.none,.none,.bool false,.none]}:=by heap_get
 have NX:(Value.ref C::bm).contains (.ref C)=true:=by simp
 have L1:=looks_findIn (M:=PM prog w) X1 hi;have L2:=bind_fn (M:=PM prog w) X1 (.ref (h.objs.size+1)) hf;show PN _ _ _ _ _ _;unfold Rn
 repeat(first|(with_reducible refine P_ he ?_)|(with_reducible refine Rg NW ?_;rw[NX])|wp_step)
 refine L1.at ?_;refine Qe (Os (L2.at ?_));refine Os (P3 (hq _ (h.objs.size+1) ⟨kp,Heap.get?_none_of_le (Fb _),h.objs.size,he,Heap.get?_none_of_le (D7 _),Heap.get?_push_of_some _ (Heap.get?_push_at rfl rfl)⟩) (λr s' hr=>?_) λ_ _ x=>x);obtain⟨rfl,hQ⟩:=hr;refine PK ?_;exact PK hQ
def wx{Q:KB->KM->Prop}(X:K.In h)(T:OwnTail h veLine bm)(hC:h.get? C=be (Qb nm q C N bs bm hdct sn sub ab col dd k0 k1 k2 k3 k5 "ValueError.__new__"))
  (hi:findIn K (.ref C) "__init__"=be (be (.ref fI))) (hf:typeIn K (.ref fI)=be (.type "function"))
  (hq:∀ h' e,Heap.MadeExcOf h h' e (.ref C) rest->PN (PM prog w) (A.under (.builtin "type.__call__" ⟨.ref C::rest,[]⟩)) (call (.ref fI) (.ref e::rest)) (λr s'=>r= .none/\Q (.ref e) s') E ⟨h',g,d,t,os⟩) (hl:rest.length<=sizeLine):
  PN (PM prog w) A (call (.ref C) rest) Q E ⟨h,g,d,t,os⟩:=by
 have f1:=tc_lookup;have f2:=tc_bind (.ref C);have hT:(⟨h,g,d,t,os⟩:KM).TypeIs (.ref C) "type":=⟨_,hC,rfl⟩;refine Qy (codeAny_of_tree ?_);show PN _ _ (callAny (.ref C) _) _ _ _
 repeat(any_goals (first|(with_reducible refine P_ hC ?_)|assumption|wp_step))
 exact⟨rfl,codeAny_call_builtin_at (Code.quiet_builtin _ (by decide+kernel)) entry_typeCall (wpAny_check_type_call_sub hC (ww X T hC hi hf (λh' e hm=>hq h' e hm) hl))⟩
end
section
variable {prog:PH}{w:PP}{A:PQ}{E:KB->KM->Prop}{s:KM}{env:Qs}
variable {nm q:y'}{C N:KF}{bs bm:List KB}{hdct:Bool}{sn:List y'}{sub:List KB}{ab:Bool}{col:Option Bool}{dd:Option KF}{k0 k1 k2 k3 k5:Option KB}{newId:String}
variable{Q:Flow->KM->Prop}
def wy{x:Q_ KB}(b_:bm.contains (.type "BaseException")=true)(hh:A.handled=o_)
  (h:PN (PM prog w) A x (λv s₁=>∃ e t od sl,v= .ref e/\s₁.heap.get? C=be (Qb nm q C N bs bm hdct sn sub ab col dd k0 k1 k2 k3 k5 newId)/\
   s₁.heap.get? e=be ⟨.ref C,od,.fields #[.ref t,.none,.none,.none,.bool false,.none],sl⟩/\E (.ref e) s₁) E s):
  PN (PM prog w) A (raiseStmt env (be x) o_) Q E s:=by
 have NY:(Value.ref C::bm).contains (.type "BaseException")=true:=by rw[GL,b_,F9]
 unfold raiseStmt;refine Os (P3 h (λv s₁ h₁=>?_) λ_ _ x=>x);obtain⟨e,t,od,sl,rfl,hC,he,hE⟩:=h₁;obtain⟨hp,g,d,tk,os⟩:=s₁
 repeat(first|(with_reducible refine P_ he ?_)|(with_reducible refine P_ hC ?_)|(with_reducible refine Rg hC ?_;rw[NY])|wp_step)
 exact wpAny_raiseNew_none hh hE
def jn{x:PJ}{pos:P0}(b_:bm.contains (.type "BaseException")=true)(hh:A.handled=o_)
  (h:PN (PM prog w) A (PX x env) (λv s₁=>∃ e t od sl,v= .ref e/\s₁.heap.get? C=be (Qb nm q C N bs bm hdct sn sub ab col dd k0 k1 k2 k3 k5 newId)/\
   s₁.heap.get? e=be ⟨.ref C,od,.fields #[.ref t,.none,.none,.none,.bool false,.none],sl⟩/\E (.ref e) s₁) E s):
  PN (PM prog w) A (exec (.Raise (be x) o_ pos) env) Q E s:=by
 rw[arm_exec_Raise];show PN (PM prog w) A (do Qz pos;raiseStmt env (be (do let v <- PX x env;Qz pos;pure v)) o_) Q E s;exact Os (Qd (wy b_ hh (Os (P3 h (λv s₁ h₁=>Os (Qd (PK h₁))) λ_ _ x=>x))))
end
def ExAt(h:Heap)(e C:KF)(od:Option KF)(T:KF)(fl:KB):Prop:=
 ∃ sl vs oT ts,h.get? e=be ⟨.ref C,od,.fields vs,sl⟩/\vs[1]?=be (.ref T)/\T≠e/\h.get? T=be oT/\oT.data= .fields ts/\ts[3]?=be fl
structure Stay(fs ex:List KF)(h h':Heap):Prop where
 keep:∀ b o,h.get? b=be o->b ∉ ex->b ∉ fs->h'.get? b=be o
 slot:∀ b o,h.get? b=be o->b ∉ ex->∃ sl,h'.get? b=be {o with slots:=sl}
 there:∀ b o,h.get? b=be o->∃ o',h'.get? b=be o'
variable{fs ex:List KF}{h:Heap}
def Stay.trans{IK:List KF}{h1 h2:Heap}(a:Stay fs ex h h1)(b:Stay fs IK h1 h2):Stay fs (ex++IK) h h2:=
  ⟨λc o e n m=>b.keep c o (a.keep c o e (λz=>n (EV _ z)) m) (λz=>n (Ek _ z)) m,
   λc o e n=>by
    obtain⟨s1,e1⟩:=a.slot c o e (λz=>n (EV _ z));obtain⟨s2,e2⟩:=b.slot c _ e1 (λz=>n (Ek _ z));exact⟨s2,e2⟩,
   λc o e=>by
    obtain⟨o1,e1⟩:=a.there c o e;exact b.there c o1 e1⟩
section
variable {M:Model}{A:PQ}{E:KB->KM->Prop}{s:KM}{env:Qs}{outer:List Qs}{base:Heap}{L e C T:KF}{od:Option KF}
variable{Q:Unit->KM->Prop}
def wz{sl:Array (Option KB)}{vs:Array KB}(z8:A.frames=be (env::outer))(hl:s.heap.FunFrames base (env::outer))(hf:env.frame=be L)
  (he:s.heap.get? e=be ⟨.ref C,od,.fields vs,sl⟩) (h1:vs[1]?=be .none)
  (h:∀ h' T,ExAt h' e C od T (QG L)->s.heap.objs.size<=T->Stay (frs (env::outer)) [e] s.heap h'->Q () {s with heap:=h'}):PN M A (QO (.ref e) env) Q E s:=by
 have g6:1<vs.size:=(FP.mp h1).1;have HX:e ∉ (env::outer).filterMap (·.frame):=λhm=>by
  obtain⟨_,o,ho,hnf⟩:=hl.mem hm;rw[he] at ho;injection ho with ho;subst ho;exact hnf vs rfl
 unfold QO;simp only[hf];refine Os (Qk he rfl h1 ?_);rw[if_neg (by decide)];refine Os (Rp z8 hl hf λh₁ hs₁=>Os (Rj λpl c5=>?_));unfold EntryCells.newEntry newFields;refine Os (P1 ?_ (c5.sizeOk5 _ _ _ _ _));have he₁:h₁.get? e=be ⟨.ref C,od,.fields vs,sl⟩:=(hs₁.2.1 e HX).trans he;have fresh:h₁.get? h₁.objs.size=none:=Heap.get?_none_of_le (D7 _);generalize I_:({cls:= .type "traceback",dict:=o_,data:= .fields ([Value.none,.ref L,.none,QG L,.none]++(if pl.isEmpty then EN 6 Value.none else pl)).toArray}:P7)=oT;have he₂:=Heap.get?_push_of_some (h:=h₁) oT he₁;have HY:h₁.objs.size≠e:=E8 (Heap.lt_size he₁);refine QE he₂ rfl g6 (h _ h₁.objs.size ?_ ?_ ?_)
 .refine⟨sl,vs.setIfInBounds 1 (.ref h₁.objs.size),oT,([Value.none,.ref L,.none,QG L,.none]++(if pl.isEmpty then EN 6 Value.none else pl)).toArray,?_,by simp[g6],HY,?_,by rw[<- I_],by simp⟩
  .rw[Heap.get?_update_self _ he₂ rfl];rfl
  .rw[Heap.get?_update_other _ _ (Ne.symm HY)];exact Heap.get?_push_size h₁ (by rw[<- I_];rfl)
 .exact FN hs₁.1.symm
 .have kp:∀ b o,b≠e->h₁.get? b=be o->((h₁.push oT).update e (Obj.mapFields (·.setIfInBounds 1 (Value.ref h₁.objs.size)))).get? b=be o:=λb o hb z=>by
   rw[Heap.get?_update_other _ _ (Ne.symm hb)];exact Heap.get?_push_of_some _ z
  refine⟨λb o q n m=>kp b o (λz=>n (by simp[z])) ((hs₁.2.1 b m).trans q),λb o q n=>?_,λb o q=>?_⟩
  .obtain⟨u6,z⟩:=hs₁.2.2 b o q;exact⟨u6,kp b _ (λz=>n (by simp[z])) z⟩
  .by_cases hb:b=e
   .subst hb;exact⟨_,Heap.get?_update_self _ he₂ rfl⟩
   .obtain⟨u6,z⟩:=hs₁.2.2 b o q;exact⟨_,kp b _ hb z⟩
def wA(z8:A.frames=be (env::outer))(hl:s.heap.FunFrames base (env::outer))(hf:env.frame=be L)(hx:ExAt s.heap e C od T .none)
  (h:∀ h' T',ExAt h' e C od T' (QG L)->s.heap.objs.size<=T'->Stay (frs (env::outer)) [T,e] s.heap h'->Q () {s with heap:=h'}):PN M A (QO (.ref e) env) Q E s:=by
 obtain⟨sl,vs,oT,ts,he,h1,HY,hT,z9,h3⟩:=hx;have g6:1<vs.size:=(FP.mp h1).1;have J9:3<ts.size:=(FP.mp h3).1;have HX:e ∉ (env::outer).filterMap (·.frame):=λhm=>by
  obtain⟨_,o,ho,hnf⟩:=hl.mem hm;rw[he] at ho;injection ho with ho;subst ho;exact hnf vs rfl
 unfold QO;simp only[hf];refine Os (Qk he rfl h1 ?_);rw[if_pos (show(Value.ref T !=Value.none)=true from by simp)];refine Os (Qk hT z9 h3 ?_);rw[if_neg (show¬ ((Value.none==QG L)=true) from by simp[QG])];refine Os (QE hT z9 J9 ?_);have other:∀ b,b≠T->(s.heap.update T (Obj.mapFields (·.setIfInBounds 3 Value.none))).get? b=s.heap.get? b:=λb hb=>Heap.get?_update_other _ _ (Ne.symm hb);have nT:∀ b o,s.heap.get? b=be o->(∀ vs,o.data≠.fields vs)->b≠T:=λb o hb hnf q=>by
  rw[q,hT] at hb;injection hb with hb;subst hb;exact hnf ts z9
 have NZ:(s.heap.update T (Obj.mapFields (·.setIfInBounds 3 Value.none))).FunFrames base (env::outer):=hl.of_keeps λb o hb hnf=>⟨o,(other b (nT b o hb hnf)).trans hb,rfl⟩;have N1:∃ o',(s.heap.update T (Obj.mapFields (·.setIfInBounds 3 Value.none))).get? T=be o':=⟨_,Heap.get?_update_self _ hT (Obj.isFreed_of_fields (Obj.data_mapFields z9 _))⟩;refine Os (Rp z8 NZ hf λh₁ hs₁=>Os (Rj λpl c5=>?_));unfold EntryCells.newEntry newFields;refine Os (P1 ?_ (c5.sizeOk5 _ _ _ _ _));have he₁:h₁.get? e=be ⟨.ref C,od,.fields vs,sl⟩:=(hs₁.2.1 e HX).trans ((other e (Ne.symm HY)).trans he);have fresh:h₁.get? h₁.objs.size=none:=Heap.get?_none_of_le (D7 _);generalize I_:({cls:= .type "traceback",dict:=o_,data:= .fields ([Value.ref T,.ref L,.none,QG L,.none]++(if pl.isEmpty then EN 6 Value.none else pl)).toArray}:P7)=KU;have he₂:=Heap.get?_push_of_some (h:=h₁) KU he₁;have Ja:h₁.objs.size≠e:=E8 (Heap.lt_size he₁);refine QE he₂ rfl g6 (h _ h₁.objs.size ?_ ?_ ?_)
 .refine⟨sl,vs.setIfInBounds 1 (.ref h₁.objs.size),KU,([Value.ref T,.ref L,.none,QG L,.none]++(if pl.isEmpty then EN 6 Value.none else pl)).toArray,?_,by simp[g6],Ja,?_,by rw[<- I_],by simp⟩
  .rw[Heap.get?_update_self _ he₂ rfl];rfl
  .rw[Heap.get?_update_other _ _ (Ne.symm Ja)];exact Heap.get?_push_size h₁ (by rw[<- I_];rfl)
 .exact FN (hs₁.1.trans (Heap.size_after_update _ _ _)).symm
 .have kp:∀ b o,b≠e->h₁.get? b=be o->((h₁.push KU).update e (Obj.mapFields (·.setIfInBounds 1 (Value.ref h₁.objs.size)))).get? b=be o:=λb o hb z=>by
   rw[Heap.get?_update_other _ _ (Ne.symm hb)];exact Heap.get?_push_of_some _ z
  refine⟨λb o q n m=>kp b o (λz=>n (by simp[z])) ((hs₁.2.1 b m).trans ((other b (λz=>n (by simp[z]))).trans q)),λb o q n=>?_,λb o q=>?_⟩
  .obtain⟨u6,z⟩:=hs₁.2.2 b o ((other b (λz=>n (by simp[z]))).trans q);exact⟨u6,kp b _ (λz=>n (by simp[z])) z⟩
  .by_cases hb:b=e
   .subst hb;exact⟨_,Heap.get?_update_self _ he₂ rfl⟩
   .have:∃ o',(s.heap.update T (Obj.mapFields (·.setIfInBounds 3 Value.none))).get? b=be o':=by
     by_cases hb:b=T
     .rw[hb];exact N1
     .exact⟨o,(other _ hb).trans q⟩
    obtain⟨o',q'⟩:=this;obtain⟨u6,z⟩:=hs₁.2.2 b o' q';exact⟨_,kp b _ hb z⟩
def pI{fl:KB}(hx:ExAt s.heap e C od T fl)(h:∀ h',ExAt h' e C od T .none->Stay [] [T] s.heap h'->Q () {s with heap:=h'}):PN M A (setFlight (.ref e) o_) Q E s:=by
 obtain⟨sl,vs,oT,ts,he,h1,HY,hT,z9,h3⟩:=hx;have J9:3<ts.size:=(FP.mp h3).1;unfold setFlight;refine Os (Qk he rfl h1 ?_);rw[if_pos (show(Value.ref T !=Value.none)=true from by simp)];refine QE hT z9 J9 (h _ ?_ ?_)
 .exact⟨sl,vs,_,_,(Heap.get?_update_other _ _ HY).trans he,h1,HY,Heap.get?_update_self _ hT (Obj.isFreed_of_fields (Obj.data_mapFields z9 _)),Obj.data_mapFields z9 _,by simp[J9]⟩
 .have other:∀ b o,b ∉ [T]->s.heap.get? b=be o->(s.heap.update T (Obj.mapFields (·.setIfInBounds 3 ((o_:Option KF).elim Value.none λf=>QG f)))).get? b=be o:=λb o hb q=>(Heap.get?_update_other _ _ (λz=>hb (by simp[z]))).trans q;refine⟨λb o q n _=>other b o n q,λb o q n=>⟨o.slots,other b o n q⟩,λb o q=>?_⟩;by_cases hb:b=T
  .subst hb;exact⟨_,Heap.get?_update_self _ hT (Obj.isFreed_of_fields (Obj.data_mapFields z9 _))⟩
  .exact⟨o,other b o (by simp[hb]) q⟩
end
def CX1(P:PH)(w:PP):CXT:=λouter H s E ev s'=>∃ e C od T H',ev= .ref e/\s'.os=s.os/\Qw s'.gens/\Un (frs outer) [] H H' s.heap s'.heap/\HOk P w H' s'.heap/\ExAt s'.heap e C od T .none/\s.heap.get? e=o_/\s.heap.get? T=o_/\H' e=o_/\H' T=o_/\E (.ref C) od H'
def gq{P:PH}{w:PP}{H:Hp}{h':Heap}(x:HOk P w H h)(st:Stay fs ex h h')(hf:∀ b∈fs,H b=o_)(he:∀ b∈ex,H b=o_):HOk P w H h':=λa o q=>
 (x a o q).stay (λb u hb r=>by
  have hn:H b≠none:=by
   rcases hb with rfl|hb
   .rw[q];exact λz=>nomatch z
   .rw[hb];exact λz=>nomatch z
  exact st.keep b u r (λz=>hn (he b z)) (λz=>hn (hf b z))) (λ_ q=>q) λ_ _ q=>q
def gu{n_:List KF}{H H':Hp}{h1 h2:Heap}(u:Un fs [] H H' h h1)(st:Stay n_ ex h1 h2)(f6:∀ b∈ex,h.get? b=o_)(N2:∀ b∈n_,b∈fs\/h.get? b=o_):Un fs [] H H' h h2 where
 keep:=λb o q n hb hx=>st.keep b o (u.keep b o q n hb hx) (λz=>by rw[f6 b z] at q;cases q) (λz=>(N2 b z).elim hb λy=>by rw[y] at q;cases q)
 slot:=λb o q n hb hx=>by
  obtain⟨sl,e1⟩:=u.slot b o q n hb hx;obtain⟨u6,e2⟩:=st.slot b _ e1 (λz=>by rw[f6 b z] at q;cases q);exact⟨u6,e2⟩
 free:=u.free
 there:=λb o q hx=>by
  obtain⟨o1,e1⟩:=u.there b o q hx;exact st.there b o1 e1
 tups:=u.tups
 frzs:=u.frzs
 tbls:=u.tbls
section
variable {P:PH}{w:PP}{K:D6}{mg:y'->Option KB}{base:Heap}{N:List y'}{qual:y'}{scope:Qf}{f:KF}{cd:KB}{A:PQ}{outer:List Qs}{s:KM}{H:Hp}{E E':XK}
def pJ{b:KF}(hb:b∈frs (P2 qual scope s.heap.objs.size f cd::outer)):b∈frs outer\/s.heap.get? b=none:=by
 unfold frs at hb;rw[FL] at hb;rcases Ea.mp (show b∈s.heap.objs.size::outer.filterMap (·.frame) from hb) with e|e
 .rw[e];exact .inr (Heap.get?_none_of_le (D7 _))
 .exact .inl e
def pK{pins:List (KF × P7)}{σ:L2.St}{H1:Hp}{s1:KM}{e C:KF}{od:Option KF}{sl:Array (Option KB)}{vs:Array KB}(I:Inv (cxOf (CX1 P w) P w K mg base N qual scope f cd A outer s H E') pins σ H1 s1)
  (he:s1.heap.get? e=be ⟨.ref C,od,.fields vs,sl⟩) (h1:vs[1]?=be .none) (He:H1 e=o_) (ne:s.heap.get? e=o_) (hE:E' (.ref C) od H1):(cxOf (CX1 P w) P w K mg base N qual scope f cd A outer s H E').xe (.ref e) s1:=by
 show PN _ _ (Q7 _ _) _ _ _;unfold Q7;refine Os (wz I.ok.frames I.stack rfl he h1 λh2 T2 Jb Jc HQ=>pI (s:={s1 with heap:=h2}) Jb λh3 KW Hy=>?_);have Jd:s1.heap.get? T2=none:=Heap.get?_none_of_le Jc;have f1:∀ b,s1.heap.get? b=o_->s.heap.get? b=none:=λb q=>by
  cases z:s.heap.get? b with
  |none=>rfl
  |some o=>
   obtain⟨o',z'⟩:=I.base.there b o z (by exact λy=>absurd (show b∈([]:List KF) from y) (by simp));rw[q] at z';cases z'
 have hok:HOk P w H1 s1.heap:=I.hok;have Je:H1 T2=none:=hok.fresh Jc;have u2:Un (frs outer) [] H H1 s.heap h2:=gu (show Un (frs outer) [] H H1 s.heap s1.heap from I.base) HQ (λb hb=>by rw[D8.mp hb];exact ne) λb hb=>pJ hb;have u3:Un (frs outer) [] H H1 s.heap h3:=gu u2 Hy (λb hb=>by rw[D8.mp hb];exact f1 T2 Jd) λb hb=>by cases hb
 have k2:=gq hok HQ (λb hb=>I.stkFree b hb) (λb hb=>by rw[D8.mp hb];exact He);have k3:=gq k2 Hy (λb hb=>by cases hb) (λb hb=>by rw[D8.mp hb];exact Je);exact⟨e,C,od,T2,H1,rfl,I.os,I.bare,u3,k3,KW,ne,f1 T2 Jd,He,Je,hE⟩
end
end Exc
namespace L2
def Same.tup{K:D6}{H H':Hp}{a:KF}{xs:List V}(e:Same H H')(h:SqT K H a xs):SqT K H' a xs:=by
 rcases h with(h|⟨o,h⟩)|h
 .exact .inl (.inl (e _ _ h))
 .exact .inl (.inr ⟨o,e _ _ h⟩)
 .exact .inr h
end L2
namespace My
def fz{X:Cx}:fw (Exc.CX1 X.prog X.w) X E0:=λ_ _ _ _ _ _ _ h=>by
 obtain⟨e,C,od,T,H',_,_,_,_,_,_,_,_,_,_,h⟩:=h;exact h.elim
def Fun.okC{P:PH}{w:PP}{K:D6}{mg:y'->Option KB}{base:Heap}{CX:CXT}{x qual:y'}{st:PL}{f:KF}{fd:PY}{N ps:List y'}{k:Nat}{sp:Sp}(F:Fun K x qual st f fd)(S:FnScope N ps (ag st))(len:∀ vs H Q E,sp vs H Q E->vs.length=ps.length)
  (a9:∀ (cdv:KB) (A:PQ) (outer:List Qs) (s:KM) (H:Hp) (vs:List V) (Q:VK) (E:XK),Room k (A.deeper (P2 qual (ag st) s.heap.objs.size f cdv))->sp vs H Q E->
   ∃ t,PSs (cxOf CX P w K mg base N qual (ag st) f cdv A outer s H E) (aI st) t/\t {nx:=λ_ H'=>Q .non H',rt:=Q} (start N vs) H):FnOk P w K mg base CX (k+1) f fd ps sp:=by
 obtain⟨oc,od,kV,doc,pm,an,cdv,ct,osl,rfl,lk,f8⟩:=F.ex;refine pd lk f8 S len λA outer s H vs Q E hr q8=>?_;exact a9 cdv A outer s H vs Q E hr q8
def Cal(P:PH)(w:PP)(K:D6)(mg:y'->Option KB)(base:Heap)(n:Nat)(x:y')(ps:List y')(sp:Sp):Prop:=
 ∃ f fd,FnOk P w K mg base (Exc.CX1 P w) n f fd ps sp/\Binds K fd ps []/\keepIn K (.ref f)=true/\mg x=be (.ref f)
def Tx(K:D6)(mg:y'->Option KB)(x:y')(st:PL)(ps:List y'):Prop:=
 ∃ f fd,Fun K x x st f fd/\Binds K fd ps []/\mg x=be (.ref f)
section
variable {X:Cx}{n m:Nat}{ps:List y'}{sp:Sp}{x:y'}{p pos:P0}{e:PJ}{es:List PJ}{t:TA}
def pL(C:Cal X.prog X.w X.K X.mg X.base n x ps sp)(hr:Room m X.A)(ha:PA X (e::es) t)(hg:autoParam (Gl X x) zA0)(hn:autoParam (n<=m) zA1)(d7:autoParam (zND x) zA1)
  (he:autoParam (zSE X e es) zA0) (c5:autoParam (zPL X pos es) zA0):
  PE X (.Call (.Name x p) (e::es) [] pos) (oX sp [] E0 t):=by
 obtain⟨f,fd,F,hb,hk,hm⟩:=C;exact vD F (hr.mono hn) hg hm hk hb .nil fz ha d7 he c5
end
section
variable {P:PH}{w:PP}{K:D6}{mg:y'->Option KB}{base:Heap}
def Tx.ok{x:y'}{st:PL}{N ps:List y'}{k:Nat}{sp:Sp}(T:Tx K mg x st ps)(S:FnScope N ps (ag st))(len:∀ vs H Q E,sp vs H Q E->vs.length=ps.length)
  (a9:∀ (f:KF) (cdv:KB) (A:PQ) (outer:List Qs) (s:KM) (H:Hp) (vs:List V) (Q:VK) (E:XK),Room k (A.deeper (P2 x (ag st) s.heap.objs.size f cdv))->sp vs H Q E->
   ∃ t,PSs (cxOf (Exc.CX1 P w) P w K mg base N x (ag st) f cdv A outer s H E).nox (aI st) t/\t {nx:=λ_ H'=>Q .non H',rt:=Q} (start N vs) H):Cal P w K mg base (k+1) x ps sp:=by
 obtain⟨f,fd,F,hb,hm⟩:=T;refine⟨f,fd,Fun.okC F S len (λcdv A outer s H vs Q E hr h=>?_),hb,F.kp,hm⟩;obtain⟨t,h1,h2⟩:=a9 f cdv A outer s H vs Q E hr h;exact⟨t,h1.nox,h2⟩
end
def aQ{H:Hp}{p:KF}(h:H p=o_)(o:HO):Same H (upd H p o):=λb u q=>by rw[aq (bL q h)];exact q
def sz{n:Nat}(h:n<=1000):n<=sizeLine:=FK (wk h)
end My
namespace L2
section
variable {X:Cx}
variable{e:PJ}
def PE.anti{t t':TE}(h:PE X e t)(a:∀ s H Q,t' s H Q->t s H Q):PE X e t':=λpins s σ H Q I q=>h pins s σ H Q I (a _ _ _ q)
def PT.anti{t t':TT}(h:PT X e t)(a:∀ s H Q,t' s H Q->t s H Q):PT X e t':=λpins s σ H Q I q=>h pins s σ H Q I (a _ _ _ q)
def PW.anti{t t':TT}(h:PW X e t)(a:∀ s H Q,t' s H Q->t s H Q):PW X e t':=λwh pins s σ H Q I q=>h wh pins s σ H Q I (a _ _ _ q)
def PA.anti{e:List PJ}{t t':TA}(h:PA X e t)(a:∀ s H Q,t' s H Q->t s H Q):PA X e t':=λp pins s σ H Q I q=>h p pins s σ H Q I (a _ _ _ q)
def PS.anti{e:PL}{t t':TS}(h:PS X e t)(a:∀ E s H,t' E s H->t E s H):PS X e t':=λpins s σ H Q I q=>h pins s σ H Q I (a _ _ _ q)
def PSs.anti{e:List PL}{t t':TS}(h:PSs X e t)(a:∀ E s H,t' E s H->t E s H):PSs X e t':=λpins s σ H Q I q=>h pins s σ H Q I (a _ _ _ q)
end
end L2
namespace My
inductive D where
 |non|bl (b:Bool)|int (i:Int)|str (x:Str)|tup (xs:List D)|lst (xs:List D)
  |rol (xs:List D)
  |obj (x:y') (fs:List (y' × D))
  |exc (x:y') (fs:List (y' × D))
  |own (xs:List D)
  |ptr (a:KF)
  |dti (a8:List ((Int × Int) × Int))
def dtiV(a8:List ((Int × Int) × Int)):List (List Key × V):=a8.map λe=>([.inl e.1.1,.inl e.1.2],.int e.2)
def XO(e C:KF)(od:Option KF):HO:= .ext λh=>∃ vs sl,h.get? e=be ⟨.ref C,od,.fields vs,sl⟩
mutual
def Rep(K:D6)(H:Hp):D->V->Prop
 | .non,v=>v= .non
 | .bl b,v=>v= .bl b
 | .int i,v=>v= .int i
 | .str x,v=>v= .str x
 | .tup ds,v=>∃ a vs,v= .ref a/\H a=be (.tup vs)/\Reps K H ds vs
 | .lst ds,v=>∃ a vs,v= .ref a/\H a=be (.lst vs)/\Reps K H ds vs
 | .rol ds,v=>∃ a vs,v= .ref a/\SqL K H a vs/\Reps K H ds vs
 | .obj x fs,v=>∃ a C dx vs,v= .ref a/\nsIn K Pi x=be (be (.ref C))/\H a=be (.ins C dx vs)/\RepF K H fs vs
 | .exc x fs,v=>∃ a C od vs,v= .ref a/\nsIn K Pi x=be (be (.ref C))/\H a=be (XO a C od)/\RepF K H fs vs/\((od=o_/\vs=[])\/∃ b,od=be b/\H b=be (.xd vs))
 | .own _,_=>False
 | .ptr a,v=>v= .ref a
 | .dti a8,v=>∃ a,v= .ref a/\H a=be (.dT (dtiV a8))
def RepF(K:D6)(H:Hp):List (y' × D)->List (y' × V)->Prop
 |[],vs=>vs=[]
 |(f,d)::ds,vs=>∃ v r,vs=(f,v)::r/\Rep K H d v/\RepF K H ds r
def Reps(K:D6)(H:Hp):List D->List V->Prop
 |[],vs=>vs=[]
 |d::ds,vs=>∃ v r,vs=v::r/\Rep K H d v/\Reps K H ds r
end
mutual
def Rep.mono{K:D6}{H H':Hp}(g:Same H H'):∀ (d:D) (v:V),Rep K H d v->Rep K H' d v
 | .non,v,h=>by unfold Rep at h ⊢;exact h
 | .bl b,v,h=>by unfold Rep at h ⊢;exact h
 | .int b,v,h=>by unfold Rep at h ⊢;exact h
 | .str b,v,h=>by unfold Rep at h ⊢;exact h
 | .tup ds,v,h=>by
  unfold Rep at h ⊢;obtain⟨a,vs,e,q,r⟩:=h;exact⟨a,vs,e,g _ _ q,Reps.mono g ds vs r⟩
 | .lst ds,v,h=>by
  unfold Rep at h ⊢;obtain⟨a,vs,e,q,r⟩:=h;exact⟨a,vs,e,g _ _ q,Reps.mono g ds vs r⟩
 | .rol ds,v,h=>by
  unfold Rep at h ⊢;obtain⟨a,vs,e,q,r⟩:=h;exact⟨a,vs,e,g.seq q,Reps.mono g ds vs r⟩
 | .obj C fs,v,h=>by
  unfold Rep at h ⊢;obtain⟨a,C,dx,vs,e,n,q,r⟩:=h;exact⟨a,C,dx,vs,e,n,g _ _ q,RepF.mono g fs vs r⟩
 | .exc C fs,v,h=>by
  unfold Rep at h ⊢;obtain⟨a,C,od,vs,e,n,q,r,d⟩:=h;exact⟨a,C,od,vs,e,n,g _ _ q,RepF.mono g fs vs r,d.imp id λ⟨b,h1,h2⟩=>⟨b,h1,g _ _ h2⟩⟩
 | .own ds,v,h=>by
  unfold Rep at h ⊢;exact h
 | .ptr a,v,h=>by unfold Rep at h ⊢;exact h
 | .dti a8,v,h=>by
  unfold Rep at h ⊢;obtain⟨a,e,q⟩:=h;exact⟨a,e,g _ _ q⟩
def RepF.mono{K:D6}{H H':Hp}(g:Same H H'):∀ (ds:List (y' × D)) (vs:List (y' × V)),RepF K H ds vs->RepF K H' ds vs
 |[],vs,h=>by unfold RepF at h ⊢;exact h
 |(f,d)::ds,vs,h=>by
  unfold RepF at h ⊢;obtain⟨v,r,e,q1,q2⟩:=h;exact⟨v,r,e,Rep.mono g d v q1,RepF.mono g ds r q2⟩
def Reps.mono{K:D6}{H H':Hp}(g:Same H H'):∀ (ds:List D) (vs:List V),Reps K H ds vs->Reps K H' ds vs
 |[],vs,h=>by unfold Reps at h ⊢;exact h
 |d::ds,vs,h=>by
  unfold Reps at h ⊢;obtain⟨v,r,e,q1,q2⟩:=h;exact⟨v,r,e,Rep.mono g d v q1,Reps.mono g ds r q2⟩
end
section
variable {K:D6}{H:Hp}
variable{v:V}
def rep_non:Rep K H .non v↔v= .non:=by unfold Rep;exact Iff.rfl
def rep_bl{b:Bool}:Rep K H (.bl b) v↔v= .bl b:=by unfold Rep;exact Iff.rfl
def rep_int{i:Int}:Rep K H (.int i) v↔v= .int i:=by unfold Rep;exact Iff.rfl
variable{x:y'}
def rep_str:Rep K H (.str x) v↔v= .str x:=by unfold Rep;exact Iff.rfl
variable{ds:List D}
def rep_tupS:Rep K H (.tup ds) v↔∃ a vs,v= .ref a/\H a=be (.tup vs)/\Reps K H ds vs:=by
 constructor
 .intro h;unfold Rep at h;exact h
 .intro h;unfold Rep;exact h
def rep_tup_mp(h:Rep K H (.tup ds) v):∃ a vs,v= .ref a/\SqT K H a vs/\Reps K H ds vs:=by
 obtain⟨a,vs,e,q,r⟩:=rep_tupS.mp h;exact⟨a,vs,e,SqT.of q,r⟩
def rep_ptr{a:KF}:Rep K H (.ptr a) v↔v= .ref a:=by unfold Rep;exact Iff.rfl
def rep_dti{a8:List ((Int × Int) × Int)}:Rep K H (.dti a8) v↔∃ a,v= .ref a/\H a=be (.dT (dtiV a8)):=by
 constructor
 .intro h;unfold Rep at h;exact h
 .intro h;unfold Rep;exact h
def rep_lst:Rep K H (.lst ds) v↔∃ a vs,v= .ref a/\H a=be (.lst vs)/\Reps K H ds vs:=by
 constructor
 .intro h;unfold Rep at h;exact h
 .intro h;unfold Rep;exact h
def rep_rol:Rep K H (.rol ds) v↔∃ a vs,v= .ref a/\SqL K H a vs/\Reps K H ds vs:=by
 constructor
 .intro h;unfold Rep at h;exact h
 .intro h;unfold Rep;exact h
variable{fs:List (y' × D)}
def rep_obj:Rep K H (.obj x fs) v↔∃ a C dx vs,v= .ref a/\nsIn K Pi x=be (be (.ref C))/\H a=be (.ins C dx vs)/\RepF K H fs vs:=by
 constructor
 .intro h;unfold Rep at h;exact h
 .intro h;unfold Rep;exact h
def rep_exc:Rep K H (.exc x fs) v↔∃ a C od vs,v= .ref a/\nsIn K Pi x=be (be (.ref C))/\H a=be (XO a C od)/\RepF K H fs vs/\((od=o_/\vs=[])\/∃ b,od=be b/\H b=be (.xd vs)):=by
 constructor
 .intro h;unfold Rep at h;exact h
 .intro h;unfold Rep;exact h
def rep_own:¬ Rep K H (.own ds) v:=by intro h;unfold Rep at h;exact h
variable{vs:List (y' × V)}
def repf_nil:RepF K H [] vs↔vs=[]:=by unfold RepF;exact Iff.rfl
def repf_cons{f:y'}{d:D}{ds:List (y' × D)}:RepF K H ((f,d)::ds) vs↔∃ v r,vs=(f,v)::r/\Rep K H d v/\RepF K H ds r:=by
 constructor
 .intro h;unfold RepF at h;exact h
 .intro h;unfold RepF;exact h
def RepF.look{f:y'}{d:D}:∀ {fs:List (y' × D)} {vs:List (y' × V)},RepF K H fs vs->fs.lookup f=be d->∃ v,vs.lookup f=be v/\Rep K H d v
 |[],_,_,e=>by cases e
 |(g,x)::fs,vs,h,e=>by
  obtain⟨v,r,rfl,h1,h2⟩:=repf_cons.mp h;rw[Er] at e ⊢;split at e
  .cases e;exact⟨v,rfl,h1⟩
  .exact RepF.look h2 e
def RepF.none{f:y'}:∀ {fs:List (y' × D)} {vs:List (y' × V)},RepF K H fs vs->fs.lookup f=Option.none->vs.lookup f=Option.none
 |[],vs,h,_=>by rw[repf_nil.mp h];rfl
 |(g,x)::fs,vs,h,e=>by
  obtain⟨v,r,rfl,h1,h2⟩:=repf_cons.mp h;rw[Er] at e ⊢;split at e
  .cases e
  .exact RepF.none h2 e
def reps_nil{vs:List V}:Reps K H [] vs↔vs=[]:=by unfold Reps;exact Iff.rfl
def reps_cons{d:D}{vs:List V}:Reps K H (d::ds) vs↔∃ v r,vs=v::r/\Rep K H d v/\Reps K H ds r:=by
 constructor
 .intro h;unfold Reps at h;exact h
 .intro h;unfold Reps;exact h
def Reps.length:∀ {ds:List D} {vs:List V},Reps K H ds vs->vs.length=ds.length
 |[],vs,h=>by rw[reps_nil.mp h];rfl
 |d::ds,vs,h=>by
  obtain⟨v,r,rfl,_,h2⟩:=reps_cons.mp h;rw[Eb,Eb,Reps.length h2]
def Reps.get:∀ {ds:List D} {vs:List V} {i:Nat} {d:D},Reps K H ds vs->ds[i]?=be d->∃ v,vs[i]?=be v/\Rep K H d v
 |[],_,_,_,_,e=>by simp at e
 |x::ds,vs,0,d,h,e=>by
  obtain⟨v,r,rfl,h1,_⟩:=reps_cons.mp h;simp at e;subst e;exact⟨v,rfl,h1⟩
 |x::ds,vs,i+1,d,h,e=>by
  obtain⟨v,r,rfl,_,h2⟩:=reps_cons.mp h;obtain⟨u,q1,q2⟩:=Reps.get (i:=i) h2 (by simpa using e);exact⟨u,by simpa using q1,q2⟩
def Reps.ints:∀ {ns:List Int} {vs:List V},Reps K H (ns.map D.int) vs↔vs=ns.map V.int
 |[],vs=>reps_nil
 |n::ns,vs=>by
  rw[En,reps_cons,En];constructor
  .rintro⟨v,r,rfl,h1,h2⟩;rw[rep_int.mp h1,Reps.ints.mp h2]
  .rintro rfl;exact⟨_,_,rfl,rep_int.mpr rfl,Reps.ints.mpr rfl⟩
end
abbrev SD:=List (Option D)
def gv:D->Bool| .own _=>true|_=>false
structure RepS(K:D6)(B F H:Hp)(t:SD)(s:L2.St):Prop where
 len:s.length=t.length
 val:∀ (i:Nat) d,t[i]?=be (be d)->gv d=false->∃ v,s[i]?=be (be v)/\Rep K F d v
 own:∀ (i:Nat) ds,t[i]?=be (be (.own ds))->∃ a vs,s[i]?=be (be (.ref a))/\H a=be (.lst vs)/\B a=o_/\F a=o_/\Reps K F ds vs
 apart:∀ (i j:Nat) di dj a,t[i]?=be (be (.own di))->t[j]?=be (be (.own dj))->s[i]?=be (be (.ref a))->s[j]?=be (be (.ref a))->i=j
structure Grow(F H F' H':Hp):Prop where
 ff:Same F F'
 fh:Same F' H'
 hh:Same H H'
 out:∀ b,F b=o_->H b≠o_->F' b=o_
variable{F H:Hp}
def Grow.refl(h:Same F H):Grow F H F H:=⟨Same.refl F,h,Same.refl H,λ_ h _=>h⟩
def Grow.trans{F1 H1 F2 H2:Hp}(g:Grow F H F1 H1)(k:Grow F1 H1 F2 H2):Grow F H F2 H2:=
 ⟨g.ff.trans k.ff,k.fh,g.hh.trans k.hh,λb h1 h2=>k.out b (g.out b h1 h2) (by
  cases e:H b with
  |none=>exact absurd e h2
  |some o=>rw[g.hh b o e];exact λz=>nomatch z)⟩
def Grow.new{p:KF}(h:Same F H)(hp:H p=o_)(o:HO):Grow F H (upd F p o) (upd H p o):=by
 have fp:F p=none:=h.free hp;refine⟨aQ fp o,λb u e=>?_,aQ hp o,λb h1 h2=>?_⟩
 .by_cases hb:b=p
  .subst hb;rw[ax] at e ⊢;exact e
  .rw[aq hb] at e ⊢;exact h b u e
 .by_cases hb:b=p
  .subst hb;exact absurd hp h2
  .rw[aq hb];exact h1
class Jx where
 B:Hp
 F0:Hp
 RX:SD->y'->List (y' × D)->Prop
structure Kept[J:Jx](B F0 F H:Hp):Prop where
 bh:Same B H
 fh:Same F H
 f0:Same F0 F
 out:∀ b,F0 b=o_->B b≠o_->F b=o_
 eb:B=J.B
 jf:Same J.F0 F0
 jo:∀ b,J.F0 b=o_->B b≠o_->F0 b=o_
variable{B:Hp}
def Kept.kf[J:Jx]{F0:Hp}(k:Kept B F0 F H):Kept B J.F0 F H:=⟨k.bh,k.fh,k.jf.trans k.f0,λb h1 h2=>k.out b (k.jo b h1 h2) h2,k.eb,Same.refl _,λ_ h _=>h⟩
def Kept.grow[Jx]{F0 F' H':Hp}(k:Kept B F0 F H)(g:Grow F H F' H'):Kept B F0 F' H':=
 ⟨k.bh.trans g.hh,g.fh,k.f0.trans g.ff,λb h1 h2=>g.out b (k.out b h1 h2) (by
  cases e:B b with
  |none=>exact absurd e h2
  |some o=>rw[k.bh b o e];exact λz=>nomatch z),k.eb,k.jf,k.jo⟩
section
variable {K:D6}{B F H F' H':Hp}{t:SD}{s:L2.St}
def RepS.grow(g:Grow F H F' H')(h:RepS K B F H t s):RepS K B F' H' t s where
 len:=h.len
 val:=λi d e no=>let ⟨v,q1,q2⟩:=h.val i d e no;⟨v,q1,q2.mono g.ff⟩
 own:=λi ds e=>by
  obtain⟨a,vs,q1,q2,q3,q4,q5⟩:=h.own i ds e;exact⟨a,vs,q1,g.hh a _ q2,q3,g.out a q4 (by rw[q2];exact λz=>nomatch z),q5.mono g.ff⟩
 apart:=h.apart
variable{i:Nat}
def RepS.set{d:D}{v:V}(h:RepS K B F H t s)(r:Rep K F d v):RepS K B F H (t.set i (be d)) (s.set i (be v)):=by
 have no:gv d=false:=by
  cases d with
  |own ds=>exact absurd r rep_own
  |_=>rfl
 have get:∀ {j:Nat} {x:D},(t.set i (be d))[j]?=be (be x)->(j=i/\x=d/\i<t.length)\/(j≠i/\t[j]?=be (be x)):=λ{j x} e=>by
  by_cases hj:i=j
  .subst hj;rw[Fk] at e;simp at e;exact .inl ⟨rfl,e.2.symm,e.1⟩
  .rw[Et hj] at e;exact .inr ⟨λz=>hj z.symm,e⟩
 refine⟨by rw[EZ,EZ];exact h.len,λj x e nx=>?_,λj ds e=>?_,λj k dj dk a e1 e2 e3 e4=>?_⟩
 .rcases get e with⟨rfl,rfl,hl⟩|⟨hj,e⟩
  .exact⟨v,by rw[EM (by rw[h.len];exact hl)],r⟩
  .obtain⟨u,q1,q2⟩:=h.val j x e nx;exact⟨u,by rw[Et (λz=>hj z.symm)];exact q1,q2⟩
 .rcases get e with⟨rfl,rfl,hl⟩|⟨hj,e⟩
  .cases no
  .obtain⟨a,vs,q1,q⟩:=h.own j ds e;exact⟨a,vs,by rw[Et (λz=>hj z.symm)];exact q1,q⟩
 .rcases get e1 with⟨rfl,rfl,hl⟩|⟨hj,e1⟩
  .cases no
  .rcases get e2 with⟨rfl,rfl,hl⟩|⟨hk,e2⟩
   .cases no
   .rw[Et (λz=>hj z.symm)] at e3;rw[Et (λz=>hk z.symm)] at e4;exact h.apart j k dj dk a e1 e2 e3 e4
variable{ds:List D}
def RepS.setOwn{a:KF}{vs:List V}(h:RepS K B F H t s)(hB:B a=o_)(hF:F a=o_)(r:Reps K F ds vs)
  (free:∀ (j:Nat) dj,j≠i->t[j]?=be (be (.own dj))->s[j]?≠be (be (.ref a))):RepS K B F (upd H a (.lst vs)) (t.set i (be (.own ds))) (s.set i (be (.ref a))):=by
 have get:∀ {j:Nat} {x:D},(t.set i (be (.own ds)))[j]?=be (be x)->(j=i/\x= .own ds/\i<t.length)\/(j≠i/\t[j]?=be (be x)):=λ{j x} e=>by
  by_cases hj:i=j
  .subst hj;rw[Fk] at e;simp at e;exact .inl ⟨rfl,e.2.symm,e.1⟩
  .rw[Et hj] at e;exact .inr ⟨λz=>hj z.symm,e⟩
 refine⟨by rw[EZ,EZ];exact h.len,λj x e nx=>?_,λj dj e=>?_,λj k dj dk b e1 e2 e3 e4=>?_⟩
 .rcases get e with⟨rfl,rfl,hl⟩|⟨hj,e⟩
  .cases nx
  .obtain⟨u,q1,q2⟩:=h.val j x e nx;exact⟨u,by rw[Et (λz=>hj z.symm)];exact q1,q2⟩
 .rcases get e with⟨rfl,e,hl⟩|⟨hj,e⟩
  .cases e;exact⟨a,vs,by rw[EM (by rw[h.len];exact hl)],ax,hB,hF,r⟩
  .obtain⟨b,us,q1,q2,q⟩:=h.own j dj e;have ne:b≠a:=λz=>free j dj hj e (z ▸ q1);exact⟨b,us,by rw[Et (λz=>hj z.symm)];exact q1,by rw[aq ne];exact q2,q⟩
 .rcases get e1 with⟨hj,c1,hl⟩|⟨hj,f1⟩
  .rcases get e2 with⟨hk,c2,HA⟩|⟨hk,f2⟩
   .rw[hj,hk]
   .rw[hj,EM (by rw[h.len];exact hl)] at e3;rw[Et (λz=>hk z.symm)] at e4;cases e3;exact absurd e4 (free k dk hk f2)
  .rcases get e2 with⟨hk,c2,HA⟩|⟨hk,f2⟩
   .rw[hk,EM (by rw[h.len];exact HA)] at e4;rw[Et (λz=>hj z.symm)] at e3;cases e4;exact absurd e3 (free j dj hj f1)
   .rw[Et (λz=>hj z.symm)] at e3;rw[Et (λz=>hk z.symm)] at e4;exact h.apart j k dj dk b f1 f2 e3 e4
def RepS.freeze[Jx]{F0:Hp}(h:RepS K B F H t s)(k:Kept B F0 F H)(e:t[i]?=be (be (.own ds))):∃ F',Kept B F0 F' H/\RepS K B F' H (t.set i (be (.lst ds))) s:=by
 obtain⟨a,vs,q1,q2,q3,q4,q5⟩:=h.own i ds e;have hl:i<t.length:=(Em.mp e).1;have g:Same F (upd F a (.lst vs)):=aQ q4 _;have get:∀ {j:Nat} {x:D},(t.set i (be (.lst ds)))[j]?=be (be x)->(j=i/\x= .lst ds)\/(j≠i/\t[j]?=be (be x)):=λ{j x} e=>by
  by_cases hj:i=j
  .subst hj;rw[Fk] at e;simp at e;exact .inl ⟨rfl,e.2.symm⟩
  .rw[Et hj] at e;exact .inr ⟨λz=>hj z.symm,e⟩
 refine⟨upd F a (.lst vs),⟨k.bh,λb o z=>?_,k.f0.trans g,λb h1 h2=>?_,k.eb,k.jf,k.jo⟩,⟨by rw[EZ];exact h.len,λj x e' nx=>?_,λj dj e'=>?_,λj l dj dl b e1 e2 e3 e4=>?_⟩⟩
 .by_cases hb:b=a
  .subst hb;rw[ax] at z;cases z;exact q2
  .rw[aq hb] at z;exact k.fh b o z
 .by_cases hb:b=a
  .subst hb;exact absurd q3 h2
  .rw[aq hb];exact k.out b h1 h2
 .rcases get e' with⟨rfl,rfl⟩|⟨hj,e'⟩
  .exact⟨.ref a,q1,rep_lst.mpr ⟨a,vs,rfl,ax,q5.mono g⟩⟩
  .obtain⟨u,p1,p2⟩:=h.val j x e' nx;exact⟨u,p1,p2.mono g⟩
 .rcases get e' with⟨rfl,c⟩|⟨hj,e'⟩
  .cases c
  .obtain⟨b,us,p1,p2,p3,p4,p5⟩:=h.own j dj e';have ne:b≠a:=λz=>hj (h.apart j i dj ds a e' e (z ▸ p1) q1);exact⟨b,us,p1,p2,p3,by rw[aq ne];exact p4,p5.mono g⟩
 .rcases get e1 with⟨rfl,c⟩|⟨hj,e1⟩
  .cases c
  .rcases get e2 with⟨rfl,c⟩|⟨hk,e2⟩
   .cases c
   .exact h.apart j l dj dl b e1 e2 e3 e4
end
def startD(N:List y')(ds:List D):SD:=ds.map be++EN (N.length - ds.length) o_
variable{K:D6}
def Rep.noown{d:D}{v:V}(r:Rep K F d v):gv d=false:=by
 cases d with
 |own ds=>exact absurd r rep_own
 |_=>rfl
def dX{N:List y'}{ds:List D}{vs:List V}(h:Reps K F ds vs):RepS K B F H (startD N ds) (L2.start N vs):=by
 have hl:=h.length;have get:∀ (i:Nat) d,(startD N ds)[i]?=be (be d)->∃ v,(L2.start N vs)[i]?=be (be v)/\Rep K F d v:=λi d e=>by
  unfold startD at e;unfold L2.start;by_cases hi:i<ds.length
  .rw[EO (by simpa using hi),Eo] at e;cases q:ds[i]? with
   |none=>rw[q] at e;cases e
   |some x=>
    rw[q] at e;cases e;obtain⟨v,q1,q2⟩:=h.get q;exact⟨v,by rw[EO (by simpa[hl] using hi),Eo,q1];rfl,q2⟩
  .rw[EY (by simpa using hi),F5] at e;split at e<;>cases e
 refine⟨by unfold startD L2.start;simp[hl],λi d e _=>get i d e,λi d e=>?_,λi j di dj a e=>?_⟩
 .obtain⟨v,_,r⟩:=get i _ e;exact absurd r rep_own
 .obtain⟨v,_,r⟩:=get i _ e;exact absurd r rep_own
abbrev TD:=SD->(D->Prop)->Prop
abbrev TDT:=SD->(Bool->Prop)->Prop
abbrev TDA:=SD->(List D->Prop)->Prop
structure EndsD where
 nx:SD->Prop
 rt:D->Prop
 bk:SD->Prop:=λ_=>False
 ct:SD->Prop:=λ_=>False
abbrev TSD:=EndsD->SD->Prop
def lE(K:D6)[J:Jx](t:TD):TE:=λs H Q=>∃ B F z,Kept B J.F0 F H/\RepS K B F H z s/\∃ R:D->Prop,t z R/\∀ d v F' H',Grow F H F' H'->R d->Rep K F' d v->Q v H'
def lT(K:D6)[J:Jx](t:TDT):TT:=λs H Q=>∃ B F z,Kept B J.F0 F H/\RepS K B F H z s/\∃ R:Bool->Prop,t z R/\∀ b F' H',Grow F H F' H'->R b->Q b H'
def lA(K:D6)[J:Jx](t:TDA):TA:=λs H Q=>∃ B F z,Kept B J.F0 F H/\RepS K B F H z s/\∃ R:List D->Prop,t z R/\∀ ds vs F' H',Grow F H F' H'->R ds->Reps K F' ds vs->Q vs H'
structure EndsOk[Jx](K:D6)(B F0:Hp)(ED:EndsD)(E:Ends):Prop where
 nx:∀ z' s' F' H',Kept B F0 F' H'->ED.nx z'->RepS K B F' H' z' s'->E.nx s' H'
 rt:∀ d v F' H',Kept B F0 F' H'->ED.rt d->Rep K F' d v->E.rt v H'
 bk:∀ z' s' F' H',Kept B F0 F' H'->ED.bk z'->RepS K B F' H' z' s'->E.bk s' H'
 ct:∀ z' s' F' H',Kept B F0 F' H'->ED.ct z'->RepS K B F' H' z' s'->E.ct s' H'
def lS(K:D6)[Jx](t:TSD):TS:=λE s H=>∃ B F0 F z,Kept B F0 F H/\RepS K B F H z s/\∃ ED:EndsD,t ED z/\EndsOk K B F0 ED E
abbrev DE(X:Cx)[Jx](e:PJ)(t:TD):Prop:=PE X e (lE X.K t)
abbrev DT(X:Cx)[Jx](e:PJ)(t:TDT):Prop:=PT X e (lT X.K t)
abbrev DW(X:Cx)[Jx](e:PJ)(t:TDT):Prop:=PW X e (lT X.K t)
abbrev DA(X:Cx)[Jx](es:List PJ)(t:TDA):Prop:=PA X es (lA X.K t)
abbrev DS(X:Cx)[Jx](st:PL)(t:TSD):Prop:=PS X st (lS X.K t)
abbrev DSs(X:Cx)[Jx](st:List PL)(t:TSD):Prop:=PSs X st (lS X.K t)
structure WDE(X:Cx)[Jx](e:PJ)(t:TD):Prop where
 out:DE X e t
structure WDT(X:Cx)[Jx](e:PJ)(t:TDT):Prop where
 out:DT X e t
structure WDW(X:Cx)[Jx](e:PJ)(t:TDT):Prop where
 out:DW X e t
structure WDA(X:Cx)[Jx](es:List PJ)(t:TDA):Prop where
 out:DA X es t
structure WDS(X:Cx)[Jx](st:PL)(t:TSD):Prop where
 out:DS X st t
structure WDSs(X:Cx)[Jx](st:List PL)(t:TSD):Prop where
 out:DSs X st t
section
variable {X:Cx}
def okR(R:D->Prop):D->Prop| .own _=>False|d=>R d
def dVar(i:Nat):TD:=λz R=>match z[i]? with|some (be d)=>okR R d|_=>False
def dC(d:D):TD:=λ_ R=>R d
variable{x:y'}
def aa[Jx](i:Nat){pos:P0}(hN:autoParam (X.N[i]?=be x) zA0)(hv:autoParam (Vis X.env.scope x) zA5)(hd:autoParam (zND x) zA1)
  (f8:autoParam (zNC x) zA1):WDE X (.Name x pos) (dVar i):=⟨(cL hN hv hd f8).anti λs H Q h=>by
 obtain⟨B,F,z,kf,r,R,h1,h2⟩:=h;have fh:=kf.fh;unfold dVar at h1;split at h1
 .rename_i d e;have no:gv d=false:=by
   cases d with
   |own ds=>exact False.elim h1
   |_=>rfl
  have N3:R d:=by
   cases d with
   |own ds=>exact False.elim h1
   |_=>exact h1
  obtain⟨v,q1,q2⟩:=r.val i d e no;exact⟨v,q1,h2 d v F H (Grow.refl fh) N3 q2⟩
 .exact h1.elim⟩
variable{e:PJ}
def de_c[Jx]{d:D}{v:V}(h:PE X e (tC v))(r:∀ H,Rep X.K H d v):DE X e (dC d):=h.anti λs H Q q=>by
 obtain⟨B,F,z,kf,_,R,h1,h2⟩:=q;have fh:=kf.fh;exact h2 d v F H (Grow.refl fh) h1 (r F)
def ac[Jx]{i j pos}:WDE X (.Constant (.int i) j pos) (dC (.int i)):=⟨de_c tG λ_=>rep_int.mpr rfl⟩
def fA[Jx]{b j pos}:WDE X (.Constant (.bool b) j pos) (dC (.bl b)):=⟨de_c tH λ_=>rep_bl.mpr rfl⟩
def du[Jx]{j pos}:WDE X (.Constant .none j pos) (dC .non):=⟨de_c tI λ_=>rep_non.mpr rfl⟩
def ay[Jx]{x j pos}:WDE X (.Constant (.str x) j pos) (dC (.str x)):=⟨de_c oi λ_=>rep_str.mpr rfl⟩
abbrev RD2:=D->D->(D->Prop)->Prop
def dOp(r:RD2)(ta tb:TD):TD:=λz R=>ta z λx=>tb z λy=>r x y R
def bb(K:D6)(r:R2)(rd:RD2):Prop:=∀ x y u v F H R Q,Same F H->rd x y R->Rep K F x u->Rep K F y v->(∀ d w F' H',Grow F H F' H'->R d->Rep K F' d w->Q w H')->r u v H Q
variable{r:R2}{rd:RD2}
def jp[Jx]{ta tb:TD}(L:bb X.K r rd)(h:PE X e (tOp r (lE X.K ta) (lE X.K tb))):DE X e (dOp rd ta tb):=h.anti λs H Q q=>by
 obtain⟨B,F,z,kf,rs,R,h1,h2⟩:=q;have fh:=kf.fh;refine⟨B,F,z,kf,rs,_,h1,λx u F1 H1 g1 hx rx=>?_⟩;refine⟨B,F1,z,kf.grow g1,rs.grow g1,_,hx,λy v F2 H2 g2 hy ry=>?_⟩;exact L x y u v F2 H2 R Q g2.fh hy (rx.mono g2.ff) ry λd w F' H' g3=>h2 d w F' H' (g1.trans (g2.trans g3))
variable {a b c:PJ}{ta tb tc:TD}{pos:P0}
def cM[Jx]{op:QX}(ho:OpR X (P8 op) r)(L:bb X.K r rd)(ha:DE X a ta)(hb:DE X b tb):DE X (.BinOp a op b pos) (dOp rd ta tb):=jp L (oF ho ha hb)
def wB[Jx]{op:Rv}(ho:OpR X (P6 op) r)(L:bb X.K r rd)(ha:DE X a ta)(hb:DE X b tb)(hm:P' op b=false):DE X (.Compare a [op] [b] pos) (dOp rd ta tb):=jp L (va ho ha hb hm)
def wC[Jx](hr:IxR X r)(L:bb X.K r rd)(ha:DE X a ta)(hb:DE X b tb)(hs:autoParam (dU b) zA6):DE X (.Subscript a b pos) (dOp rd ta tb):=jp L (pe_ix hr ha hb hs)
def rdAdd:RD2:=λx y R=>match x,y with
 | .int i,.int j=>R (.int (i+j))
 | .str i,.str j=>i.length+j.length<=1000000/\R (.str (i++j))
 | .lst xs,.lst ys=>xs.length+ys.length<=1000000/\R (.lst (xs++ys))
 | .tup xs,.tup ys=>(xs≠[]/\ys≠[]/\xs.length+ys.length<=1000000)/\R (.tup (xs++ys))
 |_,_=>False
def pM(K:D6):R2:=λx y H Q=>rI0 (λi j=> .int (i+j)) x y H Q\/((λx y H Q=>∃ i j,x= .str i/\y= .str j/\i.length+j.length<=sizeLine/\Q (.str (i++j)) H) x y H Q\/(rCat x y H Q\/pq K x y H Q))
def pN:OpR X (P8 .Add) (pM X.K):=OpR.or ul (OpR.or vf (OpR.or wa vN))
def Reps.append{K:D6}{F:Hp}:∀ {xs ys:List D} {us vs:List V},Reps K F xs us->Reps K F ys vs->Reps K F (xs++ys) (us++vs)
 |[],ys,us,vs,r1,r2=>by rw[reps_nil.mp r1];exact r2
 |x::xs,ys,us,vs,r1,r2=>by
  obtain⟨u,ur,rfl,a1,a2⟩:=reps_cons.mp r1;exact reps_cons.mpr ⟨u,ur++vs,rfl,a1,Reps.append a2 r2⟩
variable{K:D6}
def Reps.ne_nil{F:Hp}{xs:List D}{us:List V}(r:Reps K F xs us)(h:xs≠[]):us≠[]:=by
 cases xs with
 |nil=>exact absurd rfl h
 |cons x xs=>obtain⟨u,ur,rfl,_⟩:=reps_cons.mp r;exact λz=>nomatch z
def pO:bb K (pM K) rdAdd:=by
 intro x y u v F H R Q fh h rx ry q;unfold rdAdd at h;split at h
 .exact .inl ⟨_,_,rep_int.mp rx,rep_int.mp ry,q _ _ F H (Grow.refl fh) h (rep_int.mpr rfl)⟩
 .exact .inr (.inl ⟨_,_,rep_str.mp rx,rep_str.mp ry,Ei h.1 (by decide),q _ _ F H (Grow.refl fh) h.2 (rep_str.mpr rfl)⟩)
 .obtain⟨a,us,rfl,hq,rr⟩:=rep_lst.mp rx;obtain⟨b,vs,rfl,p_,td⟩:=rep_lst.mp ry;refine .inr (.inr (.inl ⟨a,b,us,vs,rfl,rfl,fh _ _ hq,fh _ _ p_,by rw[rr.length,td.length];exact Ei h.1 (by decide),λp hp=>?_⟩));exact q _ _ _ _ (Grow.new fh hp _) h.2 (rep_lst.mpr ⟨p,_,rfl,ax,(rr.append td).mono (aQ (fh.free hp) _)⟩)
 .obtain⟨a,us,rfl,hq,rr⟩:=rep_tup_mp rx;obtain⟨b,vs,rfl,p_,td⟩:=rep_tup_mp ry;obtain⟨⟨n1,n2,hz⟩,h⟩:=h;refine .inr (.inr (.inr ⟨a,b,us,vs,rfl,rfl,fh.tup hq,fh.tup p_,rr.ne_nil n1,by rw[rr.length,td.length];exact Ei hz (by decide),λz=>absurd z (td.ne_nil n2),λ_ p hp=>?_⟩));exact q _ _ _ _ (Grow.new fh hp _) h (rep_tupS.mpr ⟨p,_,rfl,ax,(rr.append td).mono (aQ (fh.free hp) _)⟩)
 .exact h.elim
def ao[Jx](ha:WDE X a ta)(hb:WDE X b tb):WDE X (.BinOp a .Add b pos) (dOp rdAdd ta tb):=⟨have ha:=ha.out;have hb:=hb.out;cM pN pO ha hb⟩
def rdSub:RD2:=λx y R=>match x,y with| .int i,.int j=>R (.int (i - j))|_,_=>False
def pP:bb K (rI0 λi j=> .int (i - j)) rdSub:=by
 intro x y u v F H R Q fh h rx ry q;unfold rdSub at h;split at h
 .exact⟨_,_,rep_int.mp rx,rep_int.mp ry,q _ _ F H (Grow.refl fh) h (rep_int.mpr rfl)⟩
 .exact h.elim
def aS[Jx](ha:WDE X a ta)(hb:WDE X b tb):WDE X (.BinOp a .Sub b pos) (dOp rdSub ta tb):=⟨have ha:=ha.out;have hb:=hb.out;cM oG pP ha hb⟩
def rdMul:RD2:=λx y R=>match x,y with| .int i,.int j=>CMul i j/\R (.int (i*j))|_,_=>False
def wE:bb K (rI CMul λi j=> .int (i*j)) rdMul:=by
 intro x y u v F H R Q fh h rx ry q;unfold rdMul at h;split at h
 .exact⟨_,_,rep_int.mp rx,rep_int.mp ry,h.1,q _ _ F H (Grow.refl fh) h.2 (rep_int.mpr rfl)⟩
 .exact h.elim
def au[Jx](ha:WDE X a ta)(hb:WDE X b tb):WDE X (.BinOp a .Mult b pos) (dOp rdMul ta tb):=⟨have ha:=ha.out;have hb:=hb.out;cM um wE ha hb⟩
def rdFdiv:RD2:=λx y R=>match x,y with| .int i,.int j=>(0<j/\j<1073741824)/\R (.int (i / j))|_,_=>False
def wF:bb K (rI CDiv λi j=> .int (i / j)) rdFdiv:=by
 intro x y u v F H R Q fh h rx ry q;unfold rdFdiv at h;split at h
 .exact⟨_,_,rep_int.mp rx,rep_int.mp ry,h.1,q _ _ F H (Grow.refl fh) h.2 (rep_int.mpr rfl)⟩
 .exact h.elim
def aV[Jx](ha:WDE X a ta)(hb:WDE X b tb):WDE X (.BinOp a .FloorDiv b pos) (dOp rdFdiv ta tb):=⟨have ha:=ha.out;have hb:=hb.out;cM uo wF ha hb⟩
def pQ(i j:Int):Prop:=j≠0/\j.natAbs<4611686018427387904
def wG:OpR X (P8 .FloorDiv) (rI pQ λi j=> .int (i.fdiv j)):=opI λ_ j _ _ _ _ _ hc q=>floordiv_int hc.1 q (.inl (PyProof.noPylong_of_log2 (GJ ((GM (λz=>hc.1 (GN.mp z))).mpr (show j.natAbs<2 ^ 62 from hc.2)) (by decide))))
def rdFdivN:RD2:=λx y R=>match x,y with| .int i,.int j=>(j≠0/\j.natAbs<4611686018427387904)/\R (.int (i.fdiv j))|_,_=>False
def wH:bb K (rI pQ λi j=> .int (i.fdiv j)) rdFdivN:=by
 intro x y u v F H R Q fh h rx ry q;unfold rdFdivN at h;split at h
 .exact⟨_,_,rep_int.mp rx,rep_int.mp ry,h.1,q _ _ F H (Grow.refl fh) h.2 (rep_int.mpr rfl)⟩
 .exact h.elim
def wI[Jx](ha:WDE X a ta)(hb:WDE X b tb):WDE X (.BinOp a .FloorDiv b pos) (dOp rdFdivN ta tb):=⟨have ha:=ha.out;have hb:=hb.out;cM wG wH ha hb⟩
def rdMod:RD2:=λx y R=>match x,y with| .int i,.int j=>0<j/\R (.int (i % j))|_,_=>False
def wJ:bb K (rI (λ_ j=>0<j) λi j=> .int (i % j)) rdMod:=by
 intro x y u v F H R Q fh h rx ry q;unfold rdMod at h;split at h
 .exact⟨_,_,rep_int.mp rx,rep_int.mp ry,h.1,q _ _ F H (Grow.refl fh) h.2 (rep_int.mpr rfl)⟩
 .exact h.elim
def aw[Jx](ha:WDE X a ta)(hb:WDE X b tb):WDE X (.BinOp a .Mod b pos) (dOp rdMod ta tb):=⟨have ha:=ha.out;have hb:=hb.out;cM uq wJ ha hb⟩
def rdModN:RD2:=λx y R=>match x,y with| .int i,.int j=>j≠0/\R (.int (i.fmod j))|_,_=>False
def wK:bb K (rI (λ_ j=>j≠0) λi j=> .int (i.fmod j)) rdModN:=by
 intro x y u v F H R Q fh h rx ry q;unfold rdModN at h;split at h
 .exact⟨_,_,rep_int.mp rx,rep_int.mp ry,h.1,q _ _ F H (Grow.refl fh) h.2 (rep_int.mpr rfl)⟩
 .exact h.elim
def pR[Jx](ha:WDE X a ta)(hb:WDE X b tb):WDE X (.BinOp a .Mod b pos) (dOp rdModN ta tb):=⟨have ha:=ha.out;have hb:=hb.out;cM ut wK ha hb⟩
def rdPow:RD2:=λx y R=>match x,y with| .int i,.int j=>(0<=j/\j<=1000000/\i.natAbs<2 ^ 64)/\R (.int (i ^ j.toNat))|_,_=>False
def wL:bb K (rI CPow λi j=> .int (i ^ j.toNat)) rdPow:=by
 intro x y u v F H R Q fh h rx ry q;unfold rdPow at h;split at h
 .exact⟨_,_,rep_int.mp rx,rep_int.mp ry,h.1,q _ _ F H (Grow.refl fh) h.2 (rep_int.mpr rfl)⟩
 .exact h.elim
def cv[Jx](ha:WDE X a ta)(hb:WDE X b tb):WDE X (.BinOp a .Pow b pos) (dOp rdPow ta tb):=⟨have ha:=ha.out;have hb:=hb.out;cM uu wL ha hb⟩
def rdLt:RD2:=λx y R=>match x,y with| .int i,.int j=>R (.bl (decide (i<j)))|_,_=>False
def pS:bb K (rI0 λi j=> .bl (decide (i<j))) rdLt:=by
 intro x y u v F H R Q fh h rx ry q;unfold rdLt at h;split at h
 .exact⟨_,_,rep_int.mp rx,rep_int.mp ry,q _ _ F H (Grow.refl fh) h (rep_bl.mpr rfl)⟩
 .exact h.elim
def rdLe:RD2:=λx y R=>match x,y with| .int i,.int j=>R (.bl (decide (i<=j)))|_,_=>False
def wM:bb K (rI0 λi j=> .bl (decide (i<=j))) rdLe:=by
 intro x y u v F H R Q fh h rx ry q;unfold rdLe at h;split at h
 .exact⟨_,_,rep_int.mp rx,rep_int.mp ry,q _ _ F H (Grow.refl fh) h (rep_bl.mpr rfl)⟩
 .exact h.elim
def rdGt:RD2:=λx y R=>match x,y with| .int i,.int j=>R (.bl (decide (j<i)))|_,_=>False
def wO:bb K (rI0 λi j=> .bl (decide (j<i))) rdGt:=by
 intro x y u v F H R Q fh h rx ry q;unfold rdGt at h;split at h
 .exact⟨_,_,rep_int.mp rx,rep_int.mp ry,q _ _ F H (Grow.refl fh) h (rep_bl.mpr rfl)⟩
 .exact h.elim
def rdGe:RD2:=λx y R=>match x,y with| .int i,.int j=>R (.bl (decide (j<=i)))|_,_=>False
def wP:bb K (rI0 λi j=> .bl (decide (j<=i))) rdGe:=by
 intro x y u v F H R Q fh h rx ry q;unfold rdGe at h;split at h
 .exact⟨_,_,rep_int.mp rx,rep_int.mp ry,q _ _ F H (Grow.refl fh) h (rep_bl.mpr rfl)⟩
 .exact h.elim
def rdEq:RD2:=λx y R=>match x,y with
 | .int i,.int j=>R (.bl (decide (i=j)))
 | .bl i,.bl j=>R (.bl (decide (i=j)))
 | .str i,.str j=>R (.bl (decide (i=j)))
 | .non,.non=>R (.bl true)
 |_,_=>False
def rdNe:RD2:=λx y R=>match x,y with
 | .int i,.int j=>R (.bl (!decide (i=j)))
 | .bl i,.bl j=>R (.bl (!decide (i=j)))
 | .str i,.str j=>R (.bl (!decide (i=j)))
 | .non,.non=>R (.bl false)
 |_,_=>False
def jq:bb K rEq rdEq:=by
 intro x y u v F H R Q fh h rx ry q;unfold rdEq at h;split at h
 .rw[rep_int.mp rx,rep_int.mp ry];refine⟨rfl,q _ _ F H (Grow.refl fh) h (rep_bl.mpr ?_)⟩;simp
 .rw[rep_bl.mp rx,rep_bl.mp ry];refine⟨rfl,q _ _ F H (Grow.refl fh) h (rep_bl.mpr ?_)⟩;simp
 .rw[rep_str.mp rx,rep_str.mp ry];refine⟨rfl,q _ _ F H (Grow.refl fh) h (rep_bl.mpr ?_)⟩;simp
 .rw[rep_non.mp rx,rep_non.mp ry];refine⟨rfl,q _ _ F H (Grow.refl fh) h (rep_bl.mpr ?_)⟩;simp
 .exact h.elim
def wQ:bb K rNe rdNe:=by
 intro x y u v F H R Q fh h rx ry q;unfold rdNe at h;split at h
 .rw[rep_int.mp rx,rep_int.mp ry];refine⟨rfl,q _ _ F H (Grow.refl fh) h (rep_bl.mpr ?_)⟩;simp
 .rw[rep_bl.mp rx,rep_bl.mp ry];refine⟨rfl,q _ _ F H (Grow.refl fh) h (rep_bl.mpr ?_)⟩;simp
 .rw[rep_str.mp rx,rep_str.mp ry];refine⟨rfl,q _ _ F H (Grow.refl fh) h (rep_bl.mpr ?_)⟩;simp
 .rw[rep_non.mp rx,rep_non.mp ry];refine⟨rfl,q _ _ F H (Grow.refl fh) h (rep_bl.mpr ?_)⟩;simp
 .exact h.elim
def dv[Jx](ha:WDE X a ta)(hb:WDE X b tb):WDE X (.Compare a [.Eq] [b] pos) (dOp rdEq ta tb):=⟨have ha:=ha.out;have hb:=hb.out;wB je jq ha hb (nomark _)⟩
def pT:D->Bool| .non=>true|_=>false
def rdIs(f:Bool->Bool):RD2:=λx y R=>match y with| .non=>R (.bl (f (pT x)))|_=>False
def wR{H:Hp}{x:D}{u:V}(r:Rep K H x u):decide (u= .non)=pT x:=by
 cases x with
 |non=>rw[rep_non.mp r];rfl
 |bl b=>rw[rep_bl.mp r];rfl
 |int b=>rw[rep_int.mp r];rfl
 |str b=>rw[rep_str.mp r];rfl
 |tup b=>obtain⟨a,vs,rfl,_⟩:=rep_tup_mp r;rfl
 |lst b=>obtain⟨a,vs,rfl,_⟩:=rep_lst.mp r;rfl
 |rol b=>obtain⟨a,vs,rfl,_⟩:=rep_rol.mp r;rfl
 |obj C b=>obtain⟨a,C,dx,vs,rfl,_⟩:=rep_obj.mp r;rfl
 |exc C b=>obtain⟨a,C,od,vs,rfl,_⟩:=rep_exc.mp r;rfl
 |own b=>exact absurd r rep_own
 |ptr b=>rw[rep_ptr.mp r];rfl
 |dti b=>obtain⟨a,rfl,_⟩:=rep_dti.mp r;rfl
def pU:bb K (λx y H Q=>y= .non/\Q (.bl (decide (x= .non))) H) (rdIs id):=by
 intro x y u v F H R Q fh h rx ry q;unfold rdIs at h;split at h
 .exact⟨rep_non.mp ry,q _ _ F H (Grow.refl fh) h (rep_bl.mpr (by rw[wR rx];rfl))⟩
 .exact h.elim
def rdIx:RD2:=λx y R=>match x,y with
 | .tup ds,.int i=>∃ d,atI ds i=be d/\R d
 | .lst ds,.int i=>∃ d,atI ds i=be d/\R d
 | .rol ds,.int i=>∃ d,atI ds i=be d/\R d
 | .str x,.int i=>∃ c,(x.length<=1000000/\atI x.cps.toList i=be c)/\R (.str ⟨#[c]⟩)
 |_,_=>False
def Reps.at{H:Hp}{ds:List D}{vs:List V}{i:Int}{d:D}(r:Reps K H ds vs)(e:atI ds i=be d):∃ v,atI vs i=be v/\Rep K H d v:=by
 unfold atI at e ⊢;rw[r.length];cases q:ixN ds.length i with
 |none=>rw[q] at e;cases e
 |some j=>
  rw[q] at e;exact r.get e
def pV:bb K (rIx K) rdIx:=by
 intro x y u v F H R Q fh h rx ry q;unfold rdIx at h;split at h
 .obtain⟨d,e,h⟩:=h;obtain⟨a,vs,e1,hq,rs⟩:=rep_tup_mp rx;obtain⟨w,e2,g8⟩:=rs.at e;exact .inr (.inl ⟨a,vs,_,w,e1,rep_int.mp ry,fh.tup hq,e2,q d w F H (Grow.refl fh) h g8⟩)
 .obtain⟨d,e,h⟩:=h;obtain⟨a,vs,e1,hq,rs⟩:=rep_lst.mp rx;obtain⟨w,e2,g8⟩:=rs.at e;exact .inl ⟨a,vs,_,w,e1,rep_int.mp ry,fh.seq (SqL.of hq),e2,q d w F H (Grow.refl fh) h g8⟩
 .obtain⟨d,e,h⟩:=h;obtain⟨a,vs,e1,hq,rs⟩:=rep_rol.mp rx;obtain⟨w,e2,g8⟩:=rs.at e;exact .inl ⟨a,vs,_,w,e1,rep_int.mp ry,fh.seq hq,e2,q d w F H (Grow.refl fh) h g8⟩
 .obtain⟨c,⟨hz,e⟩,h⟩:=h;exact .inr (.inr ⟨_,_,c,rep_str.mp rx,rep_int.mp ry,Ei hz (by decide),e,q _ _ F H (Grow.refl fh) h (rep_str.mpr rfl)⟩)
 .exact h.elim
def af[Jx](ha:WDE X a ta)(hb:WDE X b tb)(hs:autoParam (dU b) zA6):WDE X (.Subscript a b pos) (dOp rdIx ta tb):=⟨have ha:=ha.out;have hb:=hb.out;wC pv pV ha hb hs⟩
def dUn(r:D->(D->Prop)->Prop)(ta:TD):TD:=λz R=>ta z λx=>r x R
def pW:D->(D->Prop)->Prop:=λx R=>match x with| .int i=>R (.int (-i))|_=>False
def bV[Jx](ha:WDE X a ta):WDE X (.UnaryOp .USub a pos) (dUn pW ta):=⟨have ha:=ha.out;(uk uv ha).anti λs H Q h=>by
 obtain⟨B,F,z,kf,rs,R,h1,h2⟩:=h;have fh:=kf.fh;refine⟨B,F,z,kf,rs,_,h1,λx u F1 H1 g1 hx rx=>?_⟩;unfold pW at hx;split at hx
 .exact⟨_,rep_int.mp rx,h2 _ _ F1 H1 g1 hx (rep_int.mpr rfl)⟩
 .exact hx.elim⟩
def dNil:TDA:=λ_ R=>R []
def wS(ta:TD)(tr:TDA):TDA:=λz R=>ta z λx=>tr z λxs=>R (x::xs)
def ae[Jx]:WDA X [] dNil:=⟨pa_nil.anti λs H Q h=>by
 obtain⟨B,F,z,kf,rs,R,h1,h2⟩:=h;have fh:=kf.fh;exact h2 [] [] F H (Grow.refl fh) h1 (reps_nil.mpr rfl)⟩
variable{es:List PJ}{t:TDA}
def ad[Jx]{te:TD}(ha:WDE X e te)(hr:WDA X es t)(hs:autoParam (zSE X e es) zA0):WDA X (e::es) (wS te t):=⟨have ha:=ha.out;have hr:=hr.out;(bw ha hr hs).anti λs H Q h=>by
 obtain⟨B,F,z,kf,rs,R,h1,h2⟩:=h;have fh:=kf.fh;refine⟨B,F,z,kf,rs,_,h1,λx u F1 H1 g1 hx rx=>?_⟩;refine⟨B,F1,z,kf.grow g1,rs.grow g1,_,hx,λxs us F2 H2 g2 hy ry=>?_⟩;exact h2 _ _ F2 H2 (g1.trans g2) hy (reps_cons.mpr ⟨_,_,rfl,rx.mono g2.ff,ry⟩)⟩
def dTup(t:TDA):TD:=λz R=>t z λxs=>xs.length<=1000/\R (.tup xs)
def dLst(t:TDA):TD:=λz R=>t z λxs=>xs.length<=1000/\R (.lst xs)
def aL[Jx]{x1}(h:WDA X es t):WDE X (.Tuple es x1 pos) (dTup t):=⟨have h:=h.out;(oW h).anti λs H Q q=>by
 obtain⟨B,F,z,kf,rs,R,h1,h2⟩:=q;have fh:=kf.fh;refine⟨B,F,z,kf,rs,_,h1,λds vs F1 H1 g1 hx rx=>?_⟩;have hl:=rx.length;refine⟨sz (by rw[hl];exact hx.1),λp hp=>?_⟩;exact h2 _ _ _ _ (g1.trans (Grow.new g1.fh hp _)) hx.2 (rep_tupS.mpr ⟨p,vs,rfl,ax,rx.mono (aQ (g1.fh.free hp) _)⟩)⟩
def bo[Jx](h:WDA X es t):WDE X (.List es pos) (dLst t):=⟨have h:=h.out;(ji h).anti λs H Q q=>by
 obtain⟨B,F,z,kf,rs,R,h1,h2⟩:=q;have fh:=kf.fh;refine⟨B,F,z,kf,rs,_,h1,λds vs F1 H1 g1 hx rx=>?_⟩;have hl:=rx.length;refine⟨sz (by rw[hl];exact hx.1),λp hp=>?_⟩;exact h2 _ _ _ _ (g1.trans (Grow.new g1.fh hp _)) hx.2 (rep_lst.mpr ⟨p,vs,rfl,ax,rx.mono (aQ (g1.fh.free hp) _)⟩)⟩
abbrev SpD:=List D->(D->Prop)->Prop
def lSp(K:D6)(S:SpD):Sp:=λvs H Q _=>∃ F ds,Same F H/\Reps K F ds vs/\∃ R:D->Prop,S ds R/\∀ d v F' H',Grow F H F' H'->R d->Rep K F' d v->Q v H'
def wT(S:SpD)(t:TDA):TD:=λz R=>t z λds=>S ds R
abbrev CalD(P:PH)(w:PP)(K:D6)(mg:y'->Option KB)(base:Heap)(n:Nat)(x:y')(ps:List y')(S:SpD):Prop:=Cal P w K mg base n x ps (lSp K S)
variable{p:P0}
def az[Jx]{n m:Nat}{ps:List y'}{S:SpD}(C:CalD X.prog X.w X.K X.mg X.base n x ps S)(hr:Room m X.A)(ha:WDA X (e::es) t)(hg:autoParam (Gl X x) zA0)(hn:autoParam (n<=m) zA1)(d7:autoParam (zND x) zA1)
  (he:autoParam (zSE X e es) zA0) (c5:autoParam (zPL X pos es) zA0):WDE X (.Call (.Name x p) (e::es) [] pos) (wT S t):=⟨have ha:=ha.out;(pL C hr ha hg hn d7 he c5).anti λs H Q h=>by
 obtain⟨B,F,z,kf,rs,R,h1,h2⟩:=h;have fh:=kf.fh;refine⟨B,F,z,kf,rs,_,h1,λds vs F1 H1 g1 hx rx=>?_⟩;exact⟨F1,ds,g1.fh,by rw[EI];exact rx,R,hx,λd v F' H' g=>h2 d v F' H' (g1.trans g)⟩⟩
abbrev RDn:=List D->(D->Prop)->Prop
def bW(K:D6)(r:List V->Hp->VK->Prop)(rd:RDn):Prop:=∀ ds vs F H R Q,Same F H->rd ds R->Reps K F ds vs->(∀ d w F' H',Grow F H F' H'->R d->Rep K F' d w->Q w H')->r vs H Q
def dCB(r:RDn)(t:TDA):TD:=λz R=>t z λds=>r ds R
def fB[Jx]{id:String}{r:List V->Hp->VK->Prop}{rd:RDn}(hc:bA X (.builtin id) r)(L:bW X.K r rd)(hm:X.mg x=o_)(hv:P5 x=be (.builtin id))(ha:DA X (e::es) t)(hg:autoParam (Gl X x) zA0)(hn:autoParam (x≠"__name__") zA1)(d7:autoParam (zND x) zA1)
  (he:autoParam (zSE X e es) zA0) (c5:autoParam (zPL X pos es) zA0):DE X (.Call (.Name x p) (e::es) [] pos) (dCB rd t):=(gk hc hg hm hv ha hn d7 he c5).anti λs H Q h=>by
 obtain⟨B,F,z,kf,rs,R,h1,h2⟩:=h;have fh:=kf.fh;refine⟨B,F,z,kf,rs,_,h1,λds vs F1 H1 g1 hx rx=>?_⟩;exact L ds vs F1 H1 R Q g1.fh hx rx λd w F' H' g=>h2 d w F' H' (g1.trans g)
def rdLen:RDn:=λds R=>match ds with
 |[.tup xs]=>R (.int xs.length)
 |[.lst xs]=>R (.int xs.length)
 |[.rol xs]=>R (.int xs.length)
 |[.str x]=>x.length<=1000000/\R (.int x.length)
 |_=>False
def pX:bW K (λxs H Q=>∃ x n,xs=[x]/\LenV K x H n/\Q (.int n) H) rdLen:=by
 intro ds vs F H R Q fh h rx q;unfold rdLen at h;split at h
 .obtain⟨v,r,rfl,h1,h2⟩:=reps_cons.mp rx;rw[reps_nil.mp h2];obtain⟨a,us,rfl,hq,rs⟩:=rep_tup_mp h1;exact⟨.ref a,us.length,rfl,.inr ⟨us,fh.tup hq,rfl⟩,q _ _ F H (Grow.refl fh) h (rep_int.mpr (by rw[rs.length]))⟩
 .obtain⟨v,r,rfl,h1,h2⟩:=reps_cons.mp rx;rw[reps_nil.mp h2];obtain⟨a,us,rfl,hq,rs⟩:=rep_lst.mp h1;exact⟨.ref a,us.length,rfl,.inl ⟨us,fh.seq (SqL.of hq),rfl⟩,q _ _ F H (Grow.refl fh) h (rep_int.mpr (by rw[rs.length]))⟩
 .obtain⟨v,r,rfl,h1,h2⟩:=reps_cons.mp rx;rw[reps_nil.mp h2];obtain⟨a,us,rfl,hq,rs⟩:=rep_rol.mp h1;exact⟨.ref a,us.length,rfl,.inl ⟨us,fh.seq hq,rfl⟩,q _ _ F H (Grow.refl fh) h (rep_int.mpr (by rw[rs.length]))⟩
 .obtain⟨v,r,rfl,h1,h2⟩:=reps_cons.mp rx;rw[reps_nil.mp h2,rep_str.mp h1];exact⟨.str _,_,rfl,⟨Ei h.1 (by decide),rfl⟩,q _ _ F H (Grow.refl fh) h.2 (rep_int.mpr rfl)⟩
 .exact h.elim
def cN[Jx](hm:X.mg "len"=o_)(ha:WDA X [e] t)(hg:autoParam (Gl X "len") zA0)(he:autoParam (zSE X e []) zA0):WDE X (.Call (.Name "len" p) [e] [] pos) (dCB rdLen t):=⟨have ha:=ha.out;fB jg pX hm PySem.boot_len ha hg (by decide) (by decide) he⟩
def rdAbs:RDn:=λds R=>match ds with
 |[.int i]=>R (.int (if i<0 then -i else i))
 |_=>False
def wU:bW K (λxs H Q=>∃ i,xs=[.int i]/\Q (.int (if i<0 then -i else i)) H) rdAbs:=by
 intro ds vs F H R Q fh h rx q;unfold rdAbs at h;split at h
 .obtain⟨v,r,rfl,h1,h2⟩:=reps_cons.mp rx;rw[reps_nil.mp h2,rep_int.mp h1];exact⟨_,rfl,q _ _ F H (Grow.refl fh) h (rep_int.mpr rfl)⟩
 .exact h.elim
def dY[Jx](hm:X.mg "abs"=o_)(ha:WDA X [e] t)(hg:autoParam (Gl X "abs") zA0)(he:autoParam (zSE X e []) zA0):WDE X (.Call (.Name "abs" p) [e] [] pos) (dCB rdAbs t):=⟨have ha:=ha.out;fB vg wU hm PyProof.Rows.boot_abs ha hg (by decide) (by decide) he⟩
end
section
variable {X:Cx}{a b c e:PJ}{ta tb tc te:TD}{pos:P0}
def dTst(t:TD):TDT:=λz R=>t z λx=>match x with| .bl k=>R k|_=>False
def dz[Jx]{op:Rv}{r:R2}{rd:RD2}(ho:OpR X (P6 op) r)(L:bb X.K r rd)(ha:DE X a ta)(hb:DE X b tb)(hm:P' op b=false):DT X (.Compare a [op] [b] pos) (dTst (dOp rd ta tb)):=(oO ho ha hb hm).anti λs H Q q=>by
 obtain⟨B,F,z,kf,rs,R,h1,h2⟩:=q;have fh:=kf.fh;refine⟨B,F,z,kf,rs,_,h1,λx u F1 H1 g1 hx rx=>?_⟩;refine⟨B,F1,z,kf.grow g1,rs.grow g1,_,hx,λy v F2 H2 g2 hy ry=>?_⟩;refine L x y u v F2 H2 _ _ g2.fh hy (rx.mono g2.ff) ry λd w F' H' g3 hd rd=>?_;split at hd
 .exact⟨_,rep_bl.mp rd,h2 _ F' H' (g1.trans (g2.trans g3)) hd⟩
 .exact hd.elim
def dZ[Jx](ha:WDE X a ta)(hb:WDE X b tb):WDT X (.Compare a [.Lt] [b] pos) (dTst (dOp rdLt ta tb)):=⟨have ha:=ha.out;have hb:=hb.out;dz oM pS ha hb (nomark _)⟩
def wV[Jx](ha:WDE X a ta)(hb:WDE X b tb):WDT X (.Compare a [.LtE] [b] pos) (dTst (dOp rdLe ta tb)):=⟨have ha:=ha.out;have hb:=hb.out;dz ux wM ha hb (nomark _)⟩
def pY[Jx](ha:WDE X a ta)(hb:WDE X b tb):WDT X (.Compare a [.Gt] [b] pos) (dTst (dOp rdGt ta tb)):=⟨have ha:=ha.out;have hb:=hb.out;dz uy wO ha hb (nomark _)⟩
def pZ[Jx](ha:WDE X a ta)(hb:WDE X b tb):WDT X (.Compare a [.GtE] [b] pos) (dTst (dOp rdGe ta tb)):=⟨have ha:=ha.out;have hb:=hb.out;dz uz wP ha hb (nomark _)⟩
def bx[Jx](ha:WDE X a ta)(hb:WDE X b tb):WDT X (.Compare a [.Eq] [b] pos) (dTst (dOp rdEq ta tb)):=⟨have ha:=ha.out;have hb:=hb.out;dz je jq ha hb (nomark _)⟩
def cO[Jx](ha:WDE X a ta)(hb:WDE X b tb):WDT X (.Compare a [.NotEq] [b] pos) (dTst (dOp rdNe ta tb)):=⟨have ha:=ha.out;have hb:=hb.out;dz uw wQ ha hb (nomark _)⟩
def qa[Jx](ha:WDE X a ta)(hb:WDE X b tb):WDT X (.Compare a [.Is] [b] pos) (dTst (dOp (rdIs id) ta tb)):=⟨have ha:=ha.out;have hb:=hb.out;dz oN pU ha hb (nomark _)⟩
def dTru(t:TD):TDT:=λz R=>t z λx=>match x with
 | .non=>R false
 | .bl k=>R k
 | .int i=>R (i !=0)
 | .str y=>y.length<=1000/\R ((y.length:Int) !=0)
 | .tup xs=>R (!xs.isEmpty)
 | .lst xs=>R (!xs.isEmpty)
 | .rol xs=>R (!xs.isEmpty)
 |_=>False
variable{K:D6}
def Reps.isEmpty{H:Hp}{ds:List D}{vs:List V}(r:Reps K H ds vs):vs.isEmpty=ds.isEmpty:=by
 cases ds with
 |nil=>rw[reps_nil.mp r];rfl
 |cons d ds=>obtain⟨v,r',rfl,_⟩:=reps_cons.mp r;rfl
def dA[Jx](ha:WDE X a ta)(he:autoParam (∀ g7,isTrue a X.env g7=(do let v <- g7;Qz a.pos;Qh [v] (truthy v))) zA3):WDT X a (dTru ta):=⟨have ha:=ha.out;(ve ha he).anti λs H Q q=>by
 obtain⟨B,F,z,kf,rs,R,h1,h2⟩:=q;have fh:=kf.fh;refine⟨B,F,z,kf,rs,_,h1,λx u F1 H1 g1 hx rx=>?_⟩;split at hx
 .rw[rep_non.mp rx];exact⟨false,rfl,h2 _ F1 H1 g1 hx⟩
 .rw[rep_bl.mp rx];exact⟨_,rfl,h2 _ F1 H1 g1 hx⟩
 .rw[rep_int.mp rx];exact⟨_,rfl,h2 _ F1 H1 g1 hx⟩
 .rw[rep_str.mp rx];exact⟨_,⟨sz hx.1,rfl⟩,h2 _ F1 H1 g1 hx.2⟩
 .obtain⟨p,vs,rfl,hq,rr⟩:=rep_tup_mp rx;exact⟨_,.inr (.inl ⟨vs,g1.fh.tup hq,by rw[rr.isEmpty]⟩),h2 _ F1 H1 g1 hx⟩
 .obtain⟨p,vs,rfl,hq,rr⟩:=rep_lst.mp rx;exact⟨_,.inl ⟨vs,g1.fh.seq (SqL.of hq),by rw[rr.isEmpty]⟩,h2 _ F1 H1 g1 hx⟩
 .obtain⟨p,vs,rfl,hq,rr⟩:=rep_rol.mp rx;exact⟨_,.inl ⟨vs,g1.fh.seq hq,by rw[rr.isEmpty]⟩,h2 _ F1 H1 g1 hx⟩
 .exact hx.elim⟩
variable {tA y7:TDT}{rest:List PJ}
def dAnd(t u:TDT):TDT:=λz R=>t z λc=>if c=true then u z R else R false
def dOr(t u:TDT):TDT:=λz R=>t z λc=>if c=true then R true else u z R
def dNot(t:TDT):TDT:=λz R=>t z λc=>R (!c)
def wW[Jx](ha:WDT X a tA):WDW X (.BoolOp .And [a] pos) tA:=⟨have ha:=ha.out;oj ha⟩
def gw[Jx](ha:WDT X a tA):WDW X (.BoolOp .Or [a] pos) tA:=⟨have ha:=ha.out;ol ha⟩
def wX[Jx](ha:WDT X a tA)(hb:WDW X (.BoolOp .And (b::rest) pos) y7):WDW X (.BoolOp .And (a::b::rest) pos) (dAnd tA y7):=⟨have ha:=ha.out;have hb:=hb.out;(om ha hb).anti λs H Q q=>by
 obtain⟨B,F,z,kf,rs,R,h1,h2⟩:=q;have fh:=kf.fh;refine⟨B,F,z,kf,rs,_,h1,λk F1 H1 g1 hx=>?_⟩;cases k with
 |true=>exact⟨B,F1,z,kf.grow g1,rs.grow g1,R,hx,λb F' H' g=>h2 b F' H' (g1.trans g)⟩
 |false=>exact h2 _ F1 H1 g1 hx⟩
def gx[Jx](ha:WDT X a tA)(hb:WDW X (.BoolOp .Or (b::rest) pos) y7):WDW X (.BoolOp .Or (a::b::rest) pos) (dOr tA y7):=⟨have ha:=ha.out;have hb:=hb.out;(oq ha hb).anti λs H Q q=>by
 obtain⟨B,F,z,kf,rs,R,h1,h2⟩:=q;have fh:=kf.fh;refine⟨B,F,z,kf,rs,_,h1,λk F1 H1 g1 hx=>?_⟩;cases k with
 |false=>exact⟨B,F1,z,kf.grow g1,rs.grow g1,R,hx,λb F' H' g=>h2 b F' H' (g1.trans g)⟩
 |true=>exact h2 _ F1 H1 g1 hx⟩
def fC[Jx](h:WDW X a tA):WDT X a tA:=⟨have h:=h.out;PW.pt h⟩
def gy[Jx](ha:WDT X a tA):WDT X (.UnaryOp .Not a pos) (dNot tA):=⟨have ha:=ha.out;(tL ha).anti λs H Q q=>by
 obtain⟨B,F,z,kf,rs,R,h1,h2⟩:=q;have fh:=kf.fh;exact⟨B,F,z,kf,rs,_,h1,λk F1 H1 g1 hx=>h2 _ F1 H1 g1 hx⟩⟩
def wY(ta tb:TD):TD:=λz R=>ta z λx=>match x with| .bl k=>if k=true then tb z R else R (.bl false)|_=>False
def wZ(ta:TD):TD:=λz R=>ta z λx=>match x with| .bl k=>R (.bl (!k))|_=>False
def gz[Jx]{op}(h:WDE X a ta):WDE X (.BoolOp op [a] pos) ta:=⟨have h:=h.out;tO h⟩
def gA[Jx](ha:WDE X a ta)(hb:WDE X (.BoolOp .And (b::rest) pos) tb):WDE X (.BoolOp .And (a::b::rest) pos) (wY ta tb):=⟨have ha:=ha.out;have hb:=hb.out;(tP ha hb).anti λs H Q q=>by
 obtain⟨B,F,z,kf,rs,R,h1,h2⟩:=q;have fh:=kf.fh;refine⟨B,F,z,kf,rs,_,h1,λx u F1 H1 g1 hx rx=>?_⟩;split at hx
 .rename_i k;refine⟨k,rep_bl.mp rx,?_⟩;cases k with
  |true=>exact⟨B,F1,z,kf.grow g1,rs.grow g1,R,hx,λd v F' H' g=>h2 d v F' H' (g1.trans g)⟩
  |false=>exact h2 _ _ F1 H1 g1 hx (rep_bl.mpr rfl)
 .exact hx.elim⟩
def xa[Jx](ha:WDE X a ta):WDE X (.UnaryOp .Not a pos) (wZ ta):=⟨have ha:=ha.out;(tQ ha).anti λs H Q q=>by
 obtain⟨B,F,z,kf,rs,R,h1,h2⟩:=q;have fh:=kf.fh;refine⟨B,F,z,kf,rs,_,h1,λx u F1 H1 g1 hx rx=>?_⟩;split at hx
 .exact⟨_,rep_bl.mp rx,h2 _ _ F1 H1 g1 hx (rep_bl.mpr rfl)⟩
 .exact hx.elim⟩
def tyD:D->String
 | .non=>"NoneType"| .bl _=>"bool"| .int _=>"int"| .str _=>"str"| .tup _=>"tuple"| .lst _=>"list"| .rol _=>"list"| .obj _ _=>"object"| .exc _ _=>"object"| .own _=>"list"| .ptr _=>"object"| .dti _=>"dict"
def eg(t:String)(x:D):Bool:=tyD x==t||(tyD x=="bool" && t=="int")
def TyQ(K:D6)(H:Hp)(x:V)(t:String):Prop:=TyOf K H x (.type t)\/(t="tuple"/\∃ a xs,x= .ref a/\SqT K H a xs)\/(t="list"/\∃ a xs,x= .ref a/\SqL K H a xs)
def xb:bA X (.builtin "isinstance") (λxs H Q=>∃ x t c k,xs=[x,.ty c]/\TyQ X.K H x t/\kitOne X.K (.type t) (.type c)=be k/\Q (.bl k) H):=by
 intro pins s σ H xs us Q I r h;obtain⟨x,t,c,k,rfl,ty,e,q⟩:=h;obtain⟨u,u',rfl,rx,rc⟩:=fv r;cases(show u'=Value.type c from rc);rcases ty with ty|⟨rfl,a,ys,rfl,hq⟩|⟨rfl,a,ys,rfl,hq⟩
 .exact vy I rx ty e λtk=>⟨.bl k,H,I.tok _,rfl,q⟩
 .cases(show u=Value.ref a from rx);obtain⟨its,_,⟨o,h1,h2,_⟩,_⟩:=I.tuple hq;exact kia_one kitx_tuple I.kIn ⟨o,h1,h2⟩ e (λz=>nomatch z) λtk=>⟨.bl k,H,I.tok _,rfl,q⟩
 .cases(show u=Value.ref a from rx);obtain⟨its,_,pl,_⟩:=I.list hq;obtain⟨o,n,h1,h2,_⟩:=pl;exact kia_one kitx_list I.kIn ⟨o,h1,h2⟩ e (λz=>nomatch z) λtk=>⟨.bl k,H,I.tok _,rfl,q⟩
def el:D->Bool| .obj _ _=>false| .exc _ _=>false| .ptr _=>false| .dti _=>false|_=>true
def xc{F H:Hp}{x:D}{u:V}(fh:Same F H)(r:Rep K F x u)(no:el x=true):TyQ K H u (tyD x):=by
 cases x with
 |non=>rw[rep_non.mp r];exact .inl .non
 |bl b=>rw[rep_bl.mp r];exact .inl (.bl b)
 |int b=>rw[rep_int.mp r];exact .inl (.int b)
 |str b=>rw[rep_str.mp r];exact .inl (.str b)
 |tup b=>obtain⟨a,vs,rfl,hq,_⟩:=rep_tup_mp r;exact .inr (.inl ⟨rfl,a,vs,rfl,fh.tup hq⟩)
 |lst b=>obtain⟨a,vs,rfl,hq,_⟩:=rep_lst.mp r;exact .inr (.inr ⟨rfl,a,vs,rfl,fh.seq (SqL.of hq)⟩)
 |rol b=>obtain⟨a,vs,rfl,hq,_⟩:=rep_rol.mp r;exact .inr (.inr ⟨rfl,a,vs,rfl,fh.seq hq⟩)
 |obj C b=>cases no
 |exc C b=>cases no
 |ptr b=>cases no
 |dti b=>cases no
 |own b=>exact absurd r rep_own
def xg(t:String):D->(D->Prop)->Prop:=λx R=>match x with| .obj _ _=>False| .exc _ _=>False| .ptr _=>False| .dti _=>False|x=>R (.bl (eg t x))
def jr[Jx]{p p2:P0}{y:y'}{t:String}(hm:X.mg "isinstance"=o_)(N4:X.mg y=o_)(ha:WDE X a ta)(hv:P5 y=be (.type t))
  (hk:∀ x:D,el x=true->kitOne X.K (.type (tyD x)) (.type t)=be (eg t x)) (hg:autoParam (Gl X "isinstance") zA0) (N5:autoParam (Gl X y) zA0) (hn:autoParam (y≠"__name__") zA1) (d7:autoParam (zND y) zA1)
  (m9:autoParam (PR [a,.Name y p2] X.env=(false,PX a X.env)::PR [.Name y p2] X.env) zA0) (l_:autoParam (PR [.Name y p2] X.env=(false,PX (.Name y p2) X.env)::PR [] X.env) zA0) (c5:autoParam ((Qo pos (PR [.Name y p2] X.env)).any (·.1)=false) zA0):WDE X (.Call (.Name "isinstance" p) [a,.Name y p2] [] pos) (dUn (xg t) ta):=⟨have ha:=ha.out;(gk xb hg hm PyProof.Rows.boot_isinstance (bw ha (bw (tK (v:= .ty t) N5 N4 hv rfl hn d7) pa_nil l_) m9) (by decide) (by decide) m9 c5).anti λs H Q q=>by
 obtain⟨B,F,z,kf,rs,R,h1,h2⟩:=q;have fh:=kf.fh;refine⟨B,F,z,kf,rs,_,h1,λx u F1 H1 g1 hx rx=>?_⟩;have no:el x=true:=by
  cases x with
  |obj C b=>exact False.elim hx
  |exc C b=>exact False.elim hx
  |ptr b=>exact False.elim hx
  |dti b=>exact False.elim hx
  |_=>rfl
 have i6:R (.bl (eg t x)):=by
  cases x with
  |obj C b=>exact False.elim hx
  |exc C b=>exact False.elim hx
  |ptr b=>exact False.elim hx
  |dti b=>exact False.elim hx
  |_=>exact hx
 exact⟨u,tyD x,t,_,rfl,xc g1.fh rx no,hk x no,h2 _ _ F1 H1 g1 i6 (rep_bl.mpr rfl)⟩⟩
def xh:∀ x:D,el x=true->kitOne K (.type (tyD x)) (.type "int")=be (eg "int" x):=by intro x no;cases x<;>first|rfl|cases no
def kit_bool:∀ x:D,el x=true->kitOne K (.type (tyD x)) (.type "bool")=be (eg "bool" x):=by intro x no;cases x<;>first|rfl|cases no
def kit_list:∀ x:D,el x=true->kitOne K (.type (tyD x)) (.type "list")=be (eg "list" x):=by intro x no;cases x<;>first|rfl|cases no
def toV:D->Option V
 | .non=>be .non| .bl b=>be (.bl b)| .int i=>be (.int i)| .str x=>be (.str x)|_=>o_
def bp(d:D):Bool:=(toV d).isSome
def eqF:D->D->Bool
 | .non,.non=>true
 | .bl a,.bl b=>a==b
 | .bl a,.int b=>(if a then 1 else 0)==b
 | .int a,.bl b=>a==(if b then 1 else 0)
 | .int a,.int b=>a==b
 | .str a,.str b=>a==b
 |_,_=>false
def eqFs:List D->List D->Bool
 |[],[]=>true
 |x::xs,y::ys=>eqF x y && eqFs xs ys
 |_,_=>false
end
section
variable {X:Cx}{a b:PJ}{ta tb:TD}{pos:P0}
def eqVs:List V->List V->Bool
 |[],[]=>true
 |x::xs,y::ys=>eqV x y && eqVs xs ys
 |_,_=>false
def Vals.getD{xs:List V}{us:List KB}{j:Nat}(r:Vals xs us)(h:j<us.length):RelV (xs.getD j .non) us[j]:=by
 have hl:=L2.Vals.length r;obtain⟨u,q1,q2⟩:=L2.Vals.get (i:=j) (x:=xs.getD j .non) r (by rw[Es (by lia)];simp[EJ,Es (show j<xs.length by lia)]);rw[Es h] at q1;cases q1;exact q2
def eqV_of{K:D6}{H:Hp}{x y:D}{u v:V}(rx:Rep K H x u)(ry:Rep K H y v)(fx:bp x=true)(fy:bp y=true):eqV u v=eqF x y:=by
 cases x with
 |tup _=>cases fx
 |lst _=>cases fx
 |rol _=>cases fx
 |obj _ _=>cases fx
 |exc _ _=>cases fx
 |ptr _=>cases fx
 |dti _=>cases fx
 |own _=>cases fx
 |non=>rw[rep_non.mp rx];cases y with
  |tup _=>cases fy
  |lst _=>cases fy
  |rol _=>cases fy
  |obj _ _=>cases fy
  |exc _ _=>cases fy
  |ptr _=>cases fy
  |dti _=>cases fy
  |own _=>cases fy
  |non=>rw[rep_non.mp ry];rfl
  |bl _=>rw[rep_bl.mp ry];rfl
  |int _=>rw[rep_int.mp ry];rfl
  |str _=>rw[rep_str.mp ry];rfl
 |bl _=>rw[rep_bl.mp rx];cases y with
  |tup _=>cases fy
  |lst _=>cases fy
  |rol _=>cases fy
  |obj _ _=>cases fy
  |exc _ _=>cases fy
  |ptr _=>cases fy
  |dti _=>cases fy
  |own _=>cases fy
  |non=>rw[rep_non.mp ry];rfl
  |bl _=>rw[rep_bl.mp ry];rfl
  |int _=>rw[rep_int.mp ry];rfl
  |str _=>rw[rep_str.mp ry];rfl
 |int _=>rw[rep_int.mp rx];cases y with
  |tup _=>cases fy
  |lst _=>cases fy
  |rol _=>cases fy
  |obj _ _=>cases fy
  |exc _ _=>cases fy
  |ptr _=>cases fy
  |dti _=>cases fy
  |own _=>cases fy
  |non=>rw[rep_non.mp ry];rfl
  |bl _=>rw[rep_bl.mp ry];rfl
  |int _=>rw[rep_int.mp ry];rfl
  |str _=>rw[rep_str.mp ry];rfl
 |str _=>rw[rep_str.mp rx];cases y with
  |tup _=>cases fy
  |lst _=>cases fy
  |rol _=>cases fy
  |obj _ _=>cases fy
  |exc _ _=>cases fy
  |ptr _=>cases fy
  |dti _=>cases fy
  |own _=>cases fy
  |non=>rw[rep_non.mp ry];rfl
  |bl _=>rw[rep_bl.mp ry];rfl
  |int _=>rw[rep_int.mp ry];rfl
  |str _=>rw[rep_str.mp ry];rfl
def eo{K:D6}{H:Hp}{x:D}{u:V}(rx:Rep K H x u)(fx:bp x=true):bN u=true:=by
 cases x with
 |tup _=>cases fx
 |lst _=>cases fx
 |rol _=>cases fx
 |obj _ _=>cases fx
 |exc _ _=>cases fx
 |ptr _=>cases fx
 |dti _=>cases fx
 |own _=>cases fx
 |non=>rw[rep_non.mp rx];rfl
 |bl _=>rw[rep_bl.mp rx];rfl
 |int _=>rw[rep_int.mp rx];rfl
 |str _=>rw[rep_str.mp rx];rfl
def cP{K:D6}{H:Hp}:∀ {xs:List D} {us:List V},Reps K H xs us->xs.all bp=true->us.all bN=true
 |[],us,r,_=>by rw[reps_nil.mp r];rfl
 |x::xs,us,r,f=>by
  obtain⟨v,vr,rfl,r1,r2⟩:=reps_cons.mp r;rw[Fh,Ew] at f ⊢;exact⟨eo r1 f.1,cP r2 f.2⟩
def js{K:D6}{H:Hp}:∀ {xs ys:List D} {us vs:List V},Reps K H xs us->Reps K H ys vs->xs.all bp=true->ys.all bp=true->eqVs us vs=eqFs xs ys
 |[],[],us,vs,r1,r2,_,_=>by rw[reps_nil.mp r1,reps_nil.mp r2];rfl
 |[],y::ys,us,vs,r1,r2,_,_=>by
  obtain⟨v,vr,rfl,_,_⟩:=reps_cons.mp r2;rw[reps_nil.mp r1];rfl
 |x::xs,[],us,vs,r1,r2,_,_=>by
  obtain⟨v,vr,rfl,_,_⟩:=reps_cons.mp r1;rw[reps_nil.mp r2];rfl
 |x::xs,y::ys,us,vs,r1,r2,f1,f2=>by
  obtain⟨u,ur,rfl,a1,a2⟩:=reps_cons.mp r1;obtain⟨v,vr,rfl,b1,b2⟩:=reps_cons.mp r2;rw[Fh,Ew] at f1 f2;rw[eqVs,eqFs,eqV_of a1 b1 f1.1 f2.1,js a2 b2 f1.2 f2.2]
end
section
variable {X:Cx}{a b c e:PJ}{ta tb tc te:TD}{pos:P0}{st:PL}{rest:List PL}{t u:TSD}
def xi:TSD:=λE z=>E.nx z
def dSeq(t u:TSD):TSD:=λE z=>t {E with nx:=u E} z
def bn[Jx]:WDSs X [] xi:=⟨pss_nil.anti λE s H q=>by
 obtain⟨B,F0,F,z,k,rs,ED,h,e⟩:=q;exact e.nx z s F H k h rs⟩
def ah[Jx](h1:WDS X st t)(h2:WDSs X rest u):WDSs X (st::rest) (dSeq t u):=⟨have h1:=h1.out;have h2:=h2.out;(fo h1 h2).anti λE s H q=>by
 obtain⟨B,F0,F,z,k,rs,ED,h,e⟩:=q;exact⟨B,F0,F,z,k,rs,{ED with nx:=u ED},h,⟨λz' s' F' H' k' hz r'=>⟨B,F0,F',z',k',r',ED,hz,e⟩,e.rt,e.bk,e.ct⟩⟩⟩
def ar[Jx](h1:WDS X st t):WDSs X [st] t:=⟨have h1:=h1.out;ot h1⟩
def dFrz(i:Nat)(t:TSD):TSD:=λE z=>match z[i]? with|some (be (.own ds))=>t E (z.set i (be (.lst ds)))|_=>False
def eA[Jx](i:Nat){Jf:List PL}(h:WDSs X Jf t):WDSs X Jf (dFrz i t):=⟨have h:=h.out;PSs.anti h λE s H q=>by
 obtain⟨B,F0,F,z,k,rs,ED,h,e⟩:=q;unfold dFrz at h;split at h
 .rename_i ds ez;obtain⟨F',k',r'⟩:=rs.freeze k ez;exact⟨B,F0,F',_,k',r',ED,h,e⟩
 .exact h.elim⟩
def dRet(te:TD):TSD:=λE z=>te z E.rt
def aA[Jx](he:WDE X e te):WDS X (.Return (be e) pos) (dRet te):=⟨have he:=he.out;(ou he).anti λE s H q=>by
 obtain⟨B,F0,F,z,k,rs,ED,h,e⟩:=q;exact⟨B,F,z,k.kf,rs,_,h,λd v F' H' g hd rd=>e.rt d v F' H' (k.grow g) hd rd⟩⟩
def xj(te:TD):TSD:=λE z=>te z λ_=>E.nx z
def qc[Jx](he:WDE X e te)(hs:autoParam (P4 e o_ pos.line X.env=pure false) zA0):WDS X (.Expr e pos) (xj te):=⟨have he:=he.out;(iZ he hs).anti λE s H q=>by
 obtain⟨B,F0,F,z,k,rs,ED,h,e⟩:=q;exact⟨B,F,z,k.kf,rs,_,h,λd v F' H' g hd rd=>e.nx z s F' H' (k.grow g) hd (rs.grow g)⟩⟩
def dIfS(c:TDT)(t u:TSD):TSD:=λE z=>c z λb=>if b=true then t E z else u E z
variable{l r:List PL}
def qd[Jx]{c:PJ}{tc:TDT}(hc:DT X c tc)(ha:DSs X l t)(hb:DSs X r u):DS X (.If c l r pos) (dIfS tc t u):=(ow hc ha hb).anti λE s H q=>by
 obtain⟨B,F0,F,z,k,rs,ED,h,e⟩:=q;refine⟨B,F,z,k.kf,rs,_,h,λb F1 H1 g hk=>?_⟩;cases b with
 |true=>exact⟨B,F0,F1,z,k.grow g,rs.grow g,ED,hk,e⟩
 |false=>exact⟨B,F0,F1,z,k.grow g,rs.grow g,ED,hk,e⟩
def dIfJ(c:TDT)(t u:TSD):TSD:=λE z=>∃ J:SD->Prop,(c z λb=>if b=true then t {E with nx:=J} z else u {E with nx:=J} z)/\∀ z',J z'->E.nx z'
def fD[Jx]{c:PJ}{tc:TDT}(hc:WDT X c tc)(ha:WDSs X l t)(hb:WDSs X r u):WDS X (.If c l r pos) (dIfJ tc t u):=⟨have hc:=hc.out;have ha:=ha.out;have hb:=hb.out;(qd hc ha hb).anti λE s H q=>by
 obtain⟨B,F0,F,z,k,rs,ED,⟨J,h,j⟩,e⟩:=q;exact⟨B,F0,F,z,k,rs,{ED with nx:=J},h,⟨λz' s' F' H' k' hz r'=>e.nx z' s' F' H' k' (j z' hz) r',e.rt,e.bk,e.ct⟩⟩⟩
def dSet(i:Nat)(te:TD):TSD:=λE z=>∃ P:D->Prop,te z P/\∀ d,P d->E.nx (z.set i (be d))
variable{x:y'}
def am[Jx](i:Nat){c9:P0}(hN:X.N.Nodup)(he:WDE X e te)(hi:autoParam (X.N[i]?=be x) zA0)(hx:autoParam (Loc X.env.scope x) zA4)(hs:autoParam (P4 e (be (.Name x c9)) pos.line X.env=pure false) zA0)
  (hf:autoParam (zFN X x) zA2):WDS X (.Assign [.Name x c9] e pos) (dSet i te):=⟨have he:=he.out;(gf hN hi hx he hs hf).anti λE s H q=>by
 obtain⟨B,F0,F,z,k,rs,ED,⟨P,h,j⟩,e⟩:=q;exact⟨B,F,z,k.kf,rs,P,h,λd v F' H' g hd rd=>e.nx _ _ F' H' (k.grow g) (j d hd) ((rs.grow g).set rd)⟩⟩
def dNew(i:Nat)(ta:TDA):TSD:=λE z=>ta z λds=>ds.length<=1000/\E.nx (z.set i (be (.own ds)))
variable{es:List PJ}
def fE[Jx](i:Nat){c9 p2:P0}{ta:TDA}(hN:X.N.Nodup)(he:WDA X es ta)(hi:autoParam (X.N[i]?=be x) zA0)(hx:autoParam (Loc X.env.scope x) zA4)(hs:autoParam (P4 (.List es p2) (be (.Name x c9)) pos.line X.env=pure false) zA0)
  (hf:autoParam (zFN X x) zA2):WDS X (.Assign [.Name x c9] (.List es p2) pos) (dNew i ta):=⟨have he:=he.out;(gf hN hi hx (ji he) hs hf).anti λE s H q=>by
 obtain⟨B,F0,F,z,k,rs,ED,h,e⟩:=q;refine⟨B,F,z,k.kf,rs,_,h,λds vs F1 H1 g hd rd=>?_⟩;have hl:=rd.length;refine⟨sz (by rw[hl];exact hd.1),λp hp=>?_⟩;have k1:=k.grow g;have r1:=rs.grow g;have hB:B p=none:=k1.bh.free hp;have hF:F1 p=none:=k1.fh.free hp;refine e.nx _ _ F1 _ ⟨k1.bh.trans (aQ hp _),k1.fh.trans (aQ hp _),k1.f0,k1.out,k1.eb,k1.jf,k1.jo⟩ hd.2 (r1.setOwn hB hF rd λj dj hj e1 e2=>?_);obtain⟨a,us,q1,q2,_⟩:=r1.own j dj e1;rw[e2] at q1;cases q1;rw[hp] at q2;cases q2⟩
def dApp(i:Nat)(te:TD):TSD:=λE z=>match z[i]? with|some (be (.own ds))=>(te z λd=>ds.length<=100000/\E.nx (z.set i (be (.own (ds++[d])))))|_=>False
def eB{K:D6}{F:Hp}{d:D}{v:V}(r:Rep K F d v):Reps K F [d] [v]:=reps_cons.mpr ⟨v,[],rfl,r,reps_nil.mpr rfl⟩
def eE[Jx](i:Nat){p1 apos cpos:P0}(he:WDE X e te)(hN:autoParam (X.N[i]?=be x) zA0)(hv:autoParam (Vis X.env.scope x) zA5)(hd:autoParam (zND x) zA1)
  (f8:autoParam (zNC x) zA1) (m9:autoParam (zSE X e []) zA0)
  (b_:autoParam (PV (.Name x p1) "append" X.env (PX (.Name x p1) X.env)=PX (.Name x p1) X.env) zA0)
  (d_:autoParam (zHF X cpos [e]) zA0)
  (c8:autoParam ((apos.endLine==cpos.line)=true) zA0) (z_:autoParam (P4 (.Call (.Attribute (.Name x p1) "append" apos) [e] [] cpos) o_ pos.line X.env=pure false) zA0):WDS X (.Expr (.Call (.Attribute (.Name x p1) "append" apos) [e] [] cpos) pos) (dApp i te):=⟨have he:=he.out;(iZ (dW PySem.F.plainAttrs_list PySem.F.slot_list_append PySem.F.type_list_append gl (cL hN hv hd f8) (bw he pa_nil m9) b_ d_ c8 m9) z_).anti λE s H q=>by
 obtain⟨B,F0,F,z,k,rs,ED,h,e⟩:=q;unfold dApp at h;split at h
 .rename_i ds ez;obtain⟨a,vs,q1,q2,q3,q4,q5⟩:=rs.own i ds ez;refine⟨.ref a,q1,.inl ⟨rfl,vs,SqL.of q2⟩,?_⟩;refine⟨B,F,z,k.kf,rs,_,h,λd v F1 H1 g hd rd=>?_⟩;have k1:=k.grow g;have r1:=rs.grow g;have a1:H1 a=be (.lst vs):=g.hh a _ q2;have f1:F1 a=none:=g.out a q4 (by rw[q2];exact λz=>nomatch z);have hl:vs.length=ds.length:=q5.length;have hz:vs.length<sizeLine:=by
   have h1:ds.length<=100000:=hd.1;have h2:(100000:Nat)<sizeLine:=by decide
   lia
  refine⟨a,vs,v,rfl,rfl,a1,hz,?_⟩;have Q6:∀ {G:Hp},G a=o_->Same G H1->Same G (upd H1 a (.lst (vs++[v]))):=λ{G} ga gs b o eb=>by
   have ne:b≠a:=λz=>by rw[z,ga] at eb;cases eb
   rw[aq ne];exact gs b o eb
  have r2:=r1.setOwn (i:=i) (a:=a) (vs:=vs++[v]) (ds:=ds++[d]) q3 f1 ((q5.mono g.ff).append (eB rd)) (λj dj hj e1 e2=>hj (rs.apart j i dj ds a e1 ez e2 q1));have es:s.set i (be (.ref a))=s:=by
   apply FC;intro n;by_cases hn:i=n
   .subst hn;rw[EM (Em.mp q1).1,q1]
   .rw[Et hn]
  rw[es] at r2;exact e.nx _ s F1 _ ⟨Q6 q3 k1.bh,Q6 f1 k1.fh,k1.f0,k1.out,k1.eb,k1.jf,k1.jo⟩ hd.2 r2
 .exact h.elim⟩
def aW:List Nat->List D->SD->SD
 |i::is,d::ds,z=>aW is ds (z.set i (be d))
 |_,_,z=>z
def DGs(X:Cx)(ts:List PJ)(is:List Nat):Prop:=∃ u:TGs,PGs X ts u/\∀ (ds:List D) (vs:List V) (z:SD) (s:L2.St) (B F H:Hp) (Q:L2.St->Hp->Prop),ds.length=is.length->Reps X.K F ds vs->RepS X.K B F H z s->(∀ s',RepS X.K B F H (aW is ds z) s'->Q s' H)->u vs s H Q
def dB[Jx]:DGs X [] []:=⟨_,tV,λds vs z s B F H Q hl r rs q=>by
 cases ds with
 |nil=>exact⟨reps_nil.mp r,q s rs⟩
 |cons _ _=>cases hl⟩
variable{p:P0}{is:List Nat}
def dg_cons[Jx](i:Nat)(hN:X.N.Nodup)(h2:DGs X es is)(hi:autoParam (X.N[i]?=be x) zA0)(hx:autoParam (Loc X.env.scope x) zA4)(hf:autoParam (zFN X x) zA2)
  (hs:autoParam ((PU (.Name x p::es) X.env).map (·.2)=Qp (.Name x p) X.env::(PU es X.env).map (·.2)) zA0):DGs X (.Name x p::es) (i::is):=by
 obtain⟨u,hu,k⟩:=h2;refine⟨_,tW (fu hN hi hx hf) hu hs,λds vs z s B F H Q hl r rs q=>?_⟩;cases ds with
 |nil=>cases hl
 |cons d ds=>
  obtain⟨v,vr,rfl,r1,r2⟩:=reps_cons.mp r;exact⟨v,vr,rfl,k ds vr _ _ B F H Q (Nat.succ.inj hl) r2 (rs.set r1) q⟩
def xk(is:List Nat)(te:TD):TSD:=λE z=>te z λx=>match x with| .tup ds=>ds.length=is.length/\E.nx (aW is ds z)|_=>False
def qe[Jx]{k:Nat}(hc:X.calm=true)(he:WDE X e te)(hg:DGs X es is)(hn:autoParam ((PU es X.env).length=is.length) zA0)(m4:autoParam ((PU es X.env).findIdx? (·.1)=none) zA0)
  (hs:autoParam (Qi [.Tuple es k p] e pos.line X.env=pure false) zA0) (hw:autoParam (Qj [.Tuple es k p] e X.env=pure none) zA0) (h1:autoParam ((PU [.Tuple es k p] X.env).map (·.2)=[Qp (.Tuple es k p) X.env]) zA0):WDS X (.Assign [.Tuple es k p] e pos) (xk is te):=⟨by
 have he:=he.out;obtain⟨u,hu,kk⟩:=hg;refine(ja he (gc hc hu hn m4) hs hw h1).anti λE s H q=>?_;obtain⟨B,F0,F,z,k,rs,ED,h,e⟩:=q;refine⟨B,F,z,k.kf,rs,_,h,λd v F' H' g hd rd=>?_⟩;split at hd
 .obtain⟨p,vs,rfl,hq,rr⟩:=rep_tup_mp rd;exact⟨p,vs,rfl,g.fh.tup hq,by rw[rr.length];exact hd.1,kk _ vs z s B F' H' _ hd.1 rr (rs.grow g) λs' r'=>e.nx _ _ F' H' (k.grow g) hd.2 r'⟩
 .exact hd.elim⟩
def dPar(i j:Nat)(ta:TDA):TSD:=λE z=>ta z λds=>match ds with|[x,y]=>E.nx ((z.set i (be x)).set j (be y))|_=>False
def xm[Jx](i j:Nat){y:y'}{t:TDA}{px py pt:P0}{kt k2 HP}(hc:X.calm=true)(hN:X.N.Nodup)(ha:WDA X [a,b] t)(hi:autoParam (X.N[i]?=be x) zA0)(hj:autoParam (X.N[j]?=be y) zA0)(KC:autoParam (i≠j) zA1)
  (hx:autoParam (X.env.scope.names.lookup x=be .local) zA0) (hy:autoParam (X.env.scope.names.lookup y=be .local) zA0)
  (hw:autoParam (Qj [.Tuple [.Name x px,.Name y py] kt pt] (.Tuple [a,b] k2 HP) X.env=pure (be [x,y])) zA0)
  (hs:autoParam (Qi [.Tuple [.Name x px,.Name y py] kt pt] (.Tuple [a,b] k2 HP) pos.line X.env=pure false) zA0):WDS X (.Assign [.Tuple [.Name x px,.Name y py] kt pt] (.Tuple [a,b] k2 HP) pos) (dPar i j t):=⟨have ha:=ha.out;(tY hc hN hi hj KC hx hy ha hw hs).anti λE s H q=>by
 obtain⟨B,F0,F,z,k,rs,ED,h,e⟩:=q;refine⟨B,F,z,k.kf,rs,_,h,λds vs F' H' g hd rd=>?_⟩;split at hd
 .obtain⟨v,r,rfl,r1,r2⟩:=reps_cons.mp rd;obtain⟨w,r,rfl,r3,r4⟩:=reps_cons.mp r2;rw[reps_nil.mp r4];exact⟨v,w,rfl,e.nx _ _ F' H' (k.grow g) hd (((rs.grow g).set r1).set r3)⟩
 .exact hd.elim⟩
def xn(c:TDT)(tb:TSD):TSD:=λE z=>∃ W:Nat->SD->Prop,(∃ m,W m z)/\∀ m z,W m z->
 c z λb=>if b=true then tb {E with nx:=λz'=>∃ m',m'<m/\W m' z',ct:=λz'=>∃ m',m'<m/\W m' z',bk:=E.nx} z else E.nx z
variable{body:List PL}
def fF[Jx]{c:PJ}{tc:TDT}{tb:TSD}(hp:Qc (PM X.prog X.w) X.A X.env X.xe)(hc:WDT X c tc)(hb:WDSs X body tb):WDS X (.While c body [] pos) (xn tc tb):=⟨have hc:=hc.out;have hb:=hb.out;(oy hp hc hb).anti λE s H q=>by
 obtain⟨B,F0,F,z,k,rs,ED,⟨W,⟨m0,w0⟩,c7⟩,e⟩:=q;refine⟨λm s' H'=>∃ F' z',Kept B F0 F' H'/\RepS X.K B F' H' z' s'/\W m z',⟨m0,F,z,k,rs,w0⟩,?_⟩;rintro m s1 H1 ⟨F1,z1,k1,r1,w1⟩;refine⟨B,F1,z1,k1.kf,r1,_,c7 m z1 w1,λb F2 H2 g2 hk=>?_⟩;cases b with
 |true=>
  refine⟨λs3 H3=>∃ F3 z3,Kept B F0 F3 H3/\RepS X.K B F3 H3 z3 s3/\∃ m',m'<m/\W m' z3,λs3 H3 ⟨F3,z3,k3,r3,m',l,w3⟩=>⟨m',l,F3,z3,k3,r3,w3⟩,?_⟩;exact⟨B,F0,F2,z1,k1.grow g2,r1.grow g2,_,hk,⟨λz3 s3 F3 H3 k3 h3 r3=>⟨F3,z3,k3,r3,h3⟩,e.rt,e.nx,λz3 s3 F3 H3 k3 h3 r3=>⟨F3,z3,k3,r3,h3⟩⟩⟩
 |false=>exact e.nx z1 s1 F2 H2 (k1.grow g2) hk (r1.grow g2)⟩
abbrev TDI:=SD->(List D->Prop)->Prop
def dItL(t:TD):TDI:=λz R=>t z λx=>match x with| .lst ds=>R ds| .rol ds=>R ds|_=>False
def dItR(t:TD):TDI:=λz R=>t z λx=>match x with| .int n=>(0<=n/\n<2 ^ 62)/\R ((D9 n.toNat).map λk=>D.int ((k:Nat):Int))|_=>False
def dFor(i:Nat)(ti:TDI)(tb:TSD):TSD:=λE z=>ti z λds=>∃ W:Nat->SD->Prop,W 0 z/\(∀ k x z,ds[k]?=be x->W k z->tb {E with nx:=W (k+1),ct:=W (k+1),bk:=E.nx} (z.set i (be x)))/\∀ z,W ds.length z->E.nx z
def Reps.get'{K:D6}{H:Hp}{ds:List D}{vs:List V}{k:Nat}{v:V}(r:Reps K H ds vs)(e:vs[k]?=be v):∃ d,ds[k]?=be d/\Rep K H d v:=by
 have hk:k<ds.length:=by rw[<- r.length];exact(Em.mp e).1
 obtain⟨u,q1,q2⟩:=r.get (Es hk);rw[e] at q1;cases q1;exact⟨_,Es hk,q2⟩
def gB[Jx](i:Nat){tb:TSD}(hp:Qc (PM X.prog X.w) X.A X.env X.xe)(hc:X.calm=true)(hN:X.N.Nodup)(he:WDE X e te)(hb:WDSs X body tb)(hi:autoParam (X.N[i]?=be x) zA0)(hx:autoParam (Loc X.env.scope x) zA4)
  (hf:autoParam (zFN X x) zA2) (hs:autoParam (∀ y,zFS X e y) zA3):WDS X (.For (.Name x p) e body [] pos) (dFor i (dItL te) tb):=⟨have he:=he.out;have hb:=hb.out;(dm hp hc (oA he) (fu hN hi hx hf) hb hs).anti λE s H q=>by
 obtain⟨B,F0,F,z,kp,rs,ED,h,e⟩:=q;refine⟨B,F,z,kp.kf,rs,_,h,λd v F1 H1 g1 hd rd=>?_⟩;split at hd
 .obtain⟨p,vs,rfl,hq,rr⟩:=rep_lst.mp rd;obtain⟨W,w0,c7,out⟩:=hd;refine⟨p,rfl,⟨vs,g1.fh.seq (SqL.of hq)⟩,oE (K:=X.K) (a:=p) (xs:=vs) (λk s' H'=>∃ F' z',Kept B F0 F' H'/\Same F1 F'/\RepS X.K B F' H' z' s'/\W k z') ⟨F1,z,kp.grow g1,Same.refl F1,rs.grow g1,w0⟩ (λk s' H' _ ⟨F',z',k',g',r',w'⟩=>k'.fh.seq (g'.seq (SqL.of hq))) ?_ ?_⟩
  .rintro k y s' H' hk ⟨F',z',k',g',r',w'⟩;obtain⟨d,hd,ry⟩:=rr.get' hk;refine⟨B,F',F',_,⟨k'.bh,k'.fh,Same.refl F',λb h1 _=>h1,k'.eb,k'.jf.trans k'.f0,λb h1 h2=>k'.out b (k'.jo b h1 h2) h2⟩,r'.set (ry.mono g'),_,c7 k d z' hd w',?_⟩;have up:∀ {F2 H2:Hp},Kept B F' F2 H2->Kept B F0 F2 H2:=λk2=>⟨k2.bh,k2.fh,k'.f0.trans k2.f0,λb h1 h2=>k2.out b (k'.out b h1 h2) h2,k'.eb,k'.jf,k'.jo⟩;exact⟨λz3 s3 F3 H3 k3 h3 r3=>⟨F3,z3,up k3,g'.trans k3.f0,r3,h3⟩,λd v F3 H3 k3=>e.rt d v F3 H3 (up k3),λz3 s3 F3 H3 k3=>e.nx z3 s3 F3 H3 (up k3),λz3 s3 F3 H3 k3 h3 r3=>⟨F3,z3,up k3,g'.trans k3.f0,r3,h3⟩⟩
  .rintro s' H' ⟨F',z',k',g',r',w'⟩;exact e.nx z' s' F' H' k' (out z' (by rw[<- rr.length];exact w')) r'
 .obtain⟨p,vs,rfl,hq,rr⟩:=rep_rol.mp rd;obtain⟨W,w0,c7,out⟩:=hd;refine⟨p,rfl,⟨vs,g1.fh.seq hq⟩,oE (K:=X.K) (a:=p) (xs:=vs) (λk s' H'=>∃ F' z',Kept B F0 F' H'/\Same F1 F'/\RepS X.K B F' H' z' s'/\W k z') ⟨F1,z,kp.grow g1,Same.refl F1,rs.grow g1,w0⟩ (λk s' H' _ ⟨F',z',k',g',r',w'⟩=>k'.fh.seq (g'.seq hq)) ?_ ?_⟩
  .rintro k y s' H' hk ⟨F',z',k',g',r',w'⟩;obtain⟨d,hd,ry⟩:=rr.get' hk;refine⟨B,F',F',_,⟨k'.bh,k'.fh,Same.refl F',λb h1 _=>h1,k'.eb,k'.jf.trans k'.f0,λb h1 h2=>k'.out b (k'.jo b h1 h2) h2⟩,r'.set (ry.mono g'),_,c7 k d z' hd w',?_⟩;have up:∀ {F2 H2:Hp},Kept B F' F2 H2->Kept B F0 F2 H2:=λk2=>⟨k2.bh,k2.fh,k'.f0.trans k2.f0,λb h1 h2=>k2.out b (k'.out b h1 h2) h2,k'.eb,k'.jf,k'.jo⟩;exact⟨λz3 s3 F3 H3 k3 h3 r3=>⟨F3,z3,up k3,g'.trans k3.f0,r3,h3⟩,λd v F3 H3 k3=>e.rt d v F3 H3 (up k3),λz3 s3 F3 H3 k3=>e.nx z3 s3 F3 H3 (up k3),λz3 s3 F3 H3 k3 h3 r3=>⟨F3,z3,up k3,g'.trans k3.f0,r3,h3⟩⟩
  .rintro s' H' ⟨F',z',k',g',r',w'⟩;exact e.nx z' s' F' H' k' (out z' (by rw[<- rr.length];exact w')) r'
 .exact hd.elim⟩
def cC[Jx](i:Nat){p1 p2:P0}{tb:TSD}(hp:Qc (PM X.prog X.w) X.A X.env X.xe)(hc:X.calm=true)(hN:X.N.Nodup)(hm:X.mg "range"=o_)(he:WDE X e te)(hb:WDSs X body tb)(hg:autoParam (Gl X "range") zA0)(hi:autoParam (X.N[i]?=be x) zA0)(hx:autoParam (Loc X.env.scope x) zA4)
  (hf:autoParam (zFN X x) zA2) (hs:autoParam (∀ y,zFS X (.Call (.Name "range" p1) [e] [] p2) y) zA3) (q9:autoParam (zSE X e []) zA0) (f_:autoParam (PR [e] X.env=[(false,PX e X.env)]) zA0):WDS X (.For (.Name x p) (.Call (.Name "range" p1) [e] [] p2) body [] pos) (dFor i (dItR te) tb):=⟨have he:=he.out;have hb:=hb.out;(dm hp hc (jc hg hm (bw he pa_nil q9) f_) (fu hN hi hx hf) hb hs).anti λE s H q=>by
 obtain⟨B,F0,F,z,kp,rs,ED,h,e⟩:=q;refine⟨B,F,z,kp.kf,rs,_,h,λd v F1 H1 g1 hd rd=>?_⟩;split at hd
 .rename_i n;obtain⟨⟨b1,b2⟩,W,w0,c7,out⟩:=hd;have hl:((D9 n.toNat).map λk=>D.int ((k:Nat):Int)).length=n.toNat:=by simp
  refine⟨n,by rw[rep_int.mp rd],by lia,b2,jd (lo:=0) (n:=n.toNat) (λk s' H'=>∃ F' z',Kept B F0 F' H'/\RepS X.K B F' H' z' s'/\W k z') ⟨F1,z,kp.grow g1,rs.grow g1,w0⟩ ?_ ?_⟩
  .rintro k s' H' hk ⟨F',z',k',r',w'⟩;have e1:(0:Int)+(k:Int)=(k:Int):=by lia
   exact⟨B,F0,F',_,k',r'.set (d:= .int (k:Int)) (rep_int.mpr (by rw[e1])),_,c7 k (.int (k:Int)) z' (by simp[hk]) w',⟨λz3 s3 F3 H3 k3 h3 r3=>⟨F3,z3,k3,r3,h3⟩,e.rt,e.nx,λz3 s3 F3 H3 k3 h3 r3=>⟨F3,z3,k3,r3,h3⟩⟩⟩
  .rintro s' H' ⟨F',z',k',r',w'⟩;exact e.nx z' s' F' H' k' (out z' (by rw[hl];exact w')) r'
 .exact hd.elim⟩
end
section
variable {P:PH}{w:PP}{K:D6}{mg:y'->Option KB}{base:Heap}
variable{N ps:List y'}
def _root_.L2.Fun.okD{x:y'}{st:PL}{f:KF}{fd:PY}{k:Nat}{S:SpD}(T:Fun K x x st f fd)(F:FnScope N ps (ag st))(len:∀ ds R,S ds R->ds.length=ps.length)
  (a9:∀ (cdv:KB) (A:PQ) (outer:List Qs) (s:KM) (H:Hp) (E:XK) (J:Jx),Room k (A.deeper (P2 x (ag st) s.heap.objs.size f cdv))->
   ∃ t,DSs (cxOf (Exc.CX1 P w) P w K mg base N x (ag st) f cdv A outer s H E).nox (aI st) t/\∀ ds R,S ds R->t {nx:=λ_=>R .non,rt:=R} (startD N ds)):FnOk P w K mg base (Exc.CX1 P w) (k+1) f fd ps (lSp K S):=by
 refine Fun.okC T F (λvs H Q E h=>?_) (λcdv A outer s H vs Q E hr h=>?_)
 .obtain⟨F,ds,fh,rs,R,h,_⟩:=h;rw[rs.length];exact len ds R h
 .obtain⟨F,ds,fh,rs,R,h,q⟩:=h
  letI:Jx:=⟨H,F,λ_ _ _=>False⟩
  obtain⟨t,ht,hq⟩:=a9 cdv A outer s H E inferInstance hr;refine⟨_,ht.nox,H,F,F,startD N ds,⟨Same.refl H,fh,Same.refl F,λ_ h _=>h,rfl,Same.refl F,λ_ h _=>h⟩,dX rs,_,hq ds R h,⟨λz' s' F' H' k hn _=>q _ _ F' H' ⟨k.f0,k.fh,k.bh,k.out⟩ hn (rep_non.mpr rfl),λd v F' H' k hd rd=>q d v F' H' ⟨k.f0,k.fh,k.bh,k.out⟩ hd rd,λ_ _ _ _ _ h _=>h.elim,λ_ _ _ _ _ h _=>h.elim⟩⟩
def Tx.okD{x:y'}{st:PL}{k:Nat}{S:SpD}(T:Tx K mg x st ps)(F:FnScope N ps (ag st))(len:∀ ds R,S ds R->ds.length=ps.length)
  (a9:∀ (f:KF) (cdv:KB) (A:PQ) (outer:List Qs) (s:KM) (H:Hp) (E:XK) (J:Jx),Room k (A.deeper (P2 x (ag st) s.heap.objs.size f cdv))->
   ∃ t,DSs (cxOf (Exc.CX1 P w) P w K mg base N x (ag st) f cdv A outer s H E).nox (aI st) t/\∀ ds R,S ds R->t {nx:=λ_=>R .non,rt:=R} (startD N ds)):CalD P w K mg base (k+1) x ps S:=by
 obtain⟨f,fd,T,hb,hm⟩:=T;exact⟨f,fd,T.okD F len λcdv A outer s H E J hr=>a9 f cdv A outer s H E J hr,hb,T.kp,hm⟩
end
def eF:SpD:=λds R=>∃ ns:List Int,ds=[.rol (ns.map D.int)]/\ns.length<=63/\R (.bl true)
def xo{a:KF}{ns:List Int}(hl:ns.length<=63)(hS:SqL K H a (ns.map V.int)){E:XK}:lSp K eF [.ref a] H (λv _=>v= .bl true) E:=
 ⟨H,[.rol (ns.map D.int)],Same.refl H,reps_cons.mpr ⟨_,_,rfl,rep_rol.mpr ⟨a,_,rfl,hS,Reps.ints.mpr rfl⟩,reps_nil.mpr rfl⟩,λd=>d= .bl true,⟨ns,rfl,hl,rfl⟩,λd v F' H' _ hd rd=>by subst hd;exact rep_bl.mp rd⟩
section
variable {X:Cx}{a b c e:PJ}{ta tb tc te:TD}{pos:P0}
variable{p:P0}{es:List PJ}{t:TDA}
def jt[Jx]{x:y'}{T:String}{r:List V->Hp->VK->Prop}{rd:RDn}(hc:bA X (.type T) r)(L:bW X.K r rd)(hm:X.mg x=o_)(hv:P5 x=be (.type T))(ha:DA X (e::es) t)(hg:autoParam (Gl X x) zA0)(hn:autoParam (x≠"__name__") zA1)(d7:autoParam (zND x) zA1)
  (he:autoParam (zSE X e es) zA0) (c5:autoParam (zPL X pos es) zA0):DE X (.Call (.Name x p) (e::es) [] pos) (dCB rd t):=(pe hc hg hm hv ha hn d7 he c5).anti λs H Q h=>by
 obtain⟨B,F,z,kf,rs,R,h1,h2⟩:=h;have fh:=kf.fh;refine⟨B,F,z,kf,rs,_,h1,λds vs F1 H1 g1 hx rx=>?_⟩;exact L ds vs F1 H1 R Q g1.fh hx rx λd w F' H' g=>h2 d w F' H' (g1.trans g)
def rdStr:RDn:=λds R=>match ds with|[.int i]=>i.natAbs<18446744073709551616/\R (.str (toString i))|_=>False
variable{K:D6}
def xp:bW K (λxs H Q=>∃ i,xs=[.int i]/\i.natAbs.log2<1920/\Q (.str (toString i)) H) rdStr:=by
 intro ds vs F H R Q fh h rx q;unfold rdStr at h;split at h
 .obtain⟨v,r,rfl,h1,h2⟩:=reps_cons.mp rx;rw[reps_nil.mp h2,rep_int.mp h1];refine⟨_,rfl,?_,q _ _ F H (Grow.refl fh) h.2 (rep_str.mpr rfl)⟩;rename_i i;by_cases h0:i.natAbs=0
  .rw[h0];decide
  .have:=(GM h0).mpr (show i.natAbs<2 ^ 64 from h.1);lia
 .exact h.elim
def cQ[Jx](hm:X.mg "str"=o_)(ha:WDA X [e] t)(hg:autoParam (Gl X "str") zA0)(he:autoParam (zSE X e []) zA0):WDE X (.Call (.Name "str" p) [e] [] pos) (dCB rdStr t):=⟨have ha:=ha.out;jt vk xp hm PyProof.Rows.boot_str ha hg (by decide) (by decide) he⟩
def rdInt:RDn:=λds R=>match ds with
 |[.int i]=>R (.int i)
 |[.bl k]=>R (.int (if k then 1 else 0))
 |[.str x]=>∃ n,(PySem.intText? x=be n/\x.length<=640)/\R (.int n)
 |_=>False
def qf:bA X (.type "int") (λxs H Q=>((∃ i,xs=[.int i]/\Q (.int i) H)\/∃ k,xs=[.bl k]/\Q (.int (if k then 1 else 0)) H)\/∃ x n,xs=[.str x]/\PySem.intText? x=be n/\x.length<=640/\Q (.int n) H):=by
 intro pins s σ H xs us Q I r h;rcases h with h|⟨x,n,rfl,h1,h2,q⟩
 .exact vj pins s σ H xs us Q I r h
 .obtain⟨u,rfl,t,rfl⟩:=bM r;exact PySem.W.KIN.call_text h1 h2 ⟨.int n,H,I.tok _,⟨_,rfl⟩,q⟩
def qg:bW K (λxs H Q=>((∃ i,xs=[.int i]/\Q (.int i) H)\/∃ k,xs=[.bl k]/\Q (.int (if k then 1 else 0)) H)\/∃ x n,xs=[.str x]/\PySem.intText? x=be n/\x.length<=640/\Q (.int n) H) rdInt:=by
 intro ds vs F H R Q fh h rx q;unfold rdInt at h;split at h
 .obtain⟨v,r,rfl,h1,h2⟩:=reps_cons.mp rx;rw[reps_nil.mp h2,rep_int.mp h1];exact .inl (.inl ⟨_,rfl,q _ _ F H (Grow.refl fh) h (rep_int.mpr rfl)⟩)
 .obtain⟨v,r,rfl,h1,h2⟩:=reps_cons.mp rx;rw[reps_nil.mp h2,rep_bl.mp h1];exact .inl (.inr ⟨_,rfl,q _ _ F H (Grow.refl fh) h (rep_int.mpr rfl)⟩)
 .obtain⟨v,r,rfl,h1,h2⟩:=reps_cons.mp rx;rw[reps_nil.mp h2,rep_str.mp h1];obtain⟨n,⟨e1,e2⟩,h⟩:=h;exact .inr ⟨_,n,rfl,e1,e2,q _ _ F H (Grow.refl fh) h (rep_int.mpr rfl)⟩
 .exact h.elim
def gC[Jx](hm:X.mg "int"=o_)(ha:WDA X [e] t)(hg:autoParam (Gl X "int") zA0)(he:autoParam (zSE X e []) zA0):WDE X (.Call (.Name "int" p) [e] [] pos) (dCB rdInt t):=⟨have ha:=ha.out;jt qf qg hm PyProof.Rows.boot_int ha hg (by decide) (by decide) he⟩
def rdList:RDn:=λds R=>match ds with|[.lst xs]=>R (.lst xs)|[.tup xs]=>R (.lst xs)|[.rol xs]=>R (.lst xs)|_=>False
def xq:bW K (λxs H Q=>∃ p ys,xs=[.ref p]/\(SqL K H p ys\/SqT K H p ys)/\∀ l,H l=o_->Q (.ref l) (upd H l (.lst ys))) rdList:=by
 intro ds vs F H R Q fh h rx q;unfold rdList at h;split at h
 .obtain⟨v,r,rfl,h1,h2⟩:=reps_cons.mp rx;rw[reps_nil.mp h2];obtain⟨a,us,rfl,hq,rs⟩:=rep_lst.mp h1;exact⟨a,us,rfl,.inl (fh.seq (SqL.of hq)),λl hl=>q _ _ _ _ (Grow.new fh hl _) h (rep_lst.mpr ⟨l,us,rfl,ax,rs.mono (aQ (fh.free hl) _)⟩)⟩
 .obtain⟨v,r,rfl,h1,h2⟩:=reps_cons.mp rx;rw[reps_nil.mp h2];obtain⟨a,us,rfl,hq,rs⟩:=rep_tup_mp h1;exact⟨a,us,rfl,.inr (fh.tup hq),λl hl=>q _ _ _ _ (Grow.new fh hl _) h (rep_lst.mpr ⟨l,us,rfl,ax,rs.mono (aQ (fh.free hl) _)⟩)⟩
 .obtain⟨v,r,rfl,h1,h2⟩:=reps_cons.mp rx;rw[reps_nil.mp h2];obtain⟨a,us,rfl,hq,rs⟩:=rep_rol.mp h1;exact⟨a,us,rfl,.inl (fh.seq hq),λl hl=>q _ _ _ _ (Grow.new fh hl _) h (rep_lst.mpr ⟨l,us,rfl,ax,rs.mono (aQ (fh.free hl) _)⟩)⟩
 .exact h.elim
def xr[Jx](hm:X.mg "list"=o_)(ha:WDA X [e] t)(hg:autoParam (Gl X "list") zA0)(he:autoParam (zSE X e []) zA0):WDE X (.Call (.Name "list" p) [e] [] pos) (dCB rdList t):=⟨have ha:=ha.out;jt vV xq hm PyProof.Rows.boot_list ha hg (by decide) (by decide) he⟩
def rdMax:RDn:=λds R=>match ds with|[.int i,.int j]=>R (.int (if j>i then j else i))|_=>False
def rdMin:RDn:=λds R=>match ds with|[.int i,.int j]=>R (.int (if j<i then j else i))|_=>False
def xt:bW K (λxs H Q=>∃ i j,xs=[.int i,.int j]/\Q (.int (if j>i then j else i)) H) rdMax:=by
 intro ds vs F H R Q fh h rx q;unfold rdMax at h;split at h
 .obtain⟨v,r,rfl,h1,h2⟩:=reps_cons.mp rx;obtain⟨v',r',rfl,h3,h4⟩:=reps_cons.mp h2;rw[reps_nil.mp h4,rep_int.mp h1,rep_int.mp h3];exact⟨_,_,rfl,q _ _ F H (Grow.refl fh) h (rep_int.mpr rfl)⟩
 .exact h.elim
def xu:bW K (λxs H Q=>∃ i j,xs=[.int i,.int j]/\Q (.int (if j<i then j else i)) H) rdMin:=by
 intro ds vs F H R Q fh h rx q;unfold rdMin at h;split at h
 .obtain⟨v,r,rfl,h1,h2⟩:=reps_cons.mp rx;obtain⟨v',r',rfl,h3,h4⟩:=reps_cons.mp h2;rw[reps_nil.mp h4,rep_int.mp h1,rep_int.mp h3];exact⟨_,_,rfl,q _ _ F H (Grow.refl fh) h (rep_int.mpr rfl)⟩
 .exact h.elim
def eI[Jx](hc:X.calm=true)(hm:X.mg "max"=o_)(ha:WDA X [e,a] t)(hg:autoParam (Gl X "max") zA0)(he:autoParam (zSE X e [a]) zA0)(c5:autoParam (zPL X pos [a]) zA0):WDE X (.Call (.Name "max" p) [e,a] [] pos) (dCB rdMax t):=⟨have ha:=ha.out;fB (vh hc) xt hm PyProof.Rows.boot_max ha hg (by decide) (by decide) he c5⟩
def ju[Jx](hc:X.calm=true)(hm:X.mg "min"=o_)(ha:WDA X [e,a] t)(hg:autoParam (Gl X "min") zA0)(he:autoParam (zSE X e [a]) zA0)(c5:autoParam (zPL X pos [a]) zA0):WDE X (.Call (.Name "min" p) [e,a] [] pos) (dCB rdMin t):=⟨have ha:=ha.out;fB (vi hc) xu hm PyProof.Rows.boot_min ha hg (by decide) (by decide) he c5⟩
def cR:List D->Option (List y')
 |[]=>be []
 | .str x::r=>(cR r).map (x::·)
 |_=>o_
def qh{K:D6}{F:Hp}:∀ {ds:List D} {xs:List y'} {vs:List V} {us:List KB},cR ds=be xs->Reps K F ds vs->Vals vs us->StrsAre us xs
 |[],xs,vs,us,e,r,q=>by
  cases e;rw[reps_nil.mp r] at q;cases q;exact .nil
 | .str x::ds,xs,vs,us,e,r,q=>by
  obtain⟨v,r',rfl,h1,h2⟩:=reps_cons.mp r;rw[rep_str.mp h1] at q;cases q with
  |cons q1 q2=>
   obtain⟨t,rfl⟩:=q1;cases e2:cR ds with
   |none=>simp[cR,e2] at e
   |some ys=>
    simp[cR,e2] at e;subst e;exact .cons x t (qh e2 h2 q2)
def xx:V->List V->Hp->VK->Prop:=λx vs H Q=>∃ p7 l xs ys,x= .str p7/\vs=[.ref l]/\H l=be (.lst xs)/\(∀ us,Vals xs us->StrsAre us ys)/\(ys.map (·.length)).sum+ys.length*p7.length<=16777216/\Q (.str (Txt.join p7 ys)) H
def xy:MtR X "str.join" xx:=by
 intro pins s σ H x vs v us Q I rx rv h;obtain⟨p7,l,xs,ys,rfl,rfl,hl,hs,hz,q⟩:=h;obtain⟨t,rfl⟩:=rx;obtain⟨u,rfl,ru⟩:=bM rv;cases ru;obtain⟨its,r,pl,_⟩:=I.list (SqL.of hl);exact PyProof.Rows.join_list pl.isList (by simpa using hs its r) hz λt' k=>⟨.str _,H,I.tok _,⟨_,rfl⟩,q⟩
def xz(p7:y')(te:TD):TD:=λz R=>te z λx=>match x with
 | .lst ds=>∃ ys,cR ds=be ys/\(ys.map (·.length)).sum+ys.length*p7.length<=1000000/\R (.str (Txt.join p7 ys))
 |_=>False
variable{k:Nat}
def qi[Jx]{p7:y'}{p1 apos cpos:P0}(he:WDE X e te)(m9:autoParam (zSE X e []) zA0)
  (b_:autoParam (PV (.Constant (.str p7) k p1) "join" X.env (PX (.Constant (.str p7) k p1) X.env)=PX (.Constant (.str p7) k p1) X.env) zA0)
  (d_:autoParam (zHF X cpos [e]) zA0)
  (c8:autoParam ((apos.endLine==cpos.line)=true) zA0):WDE X (.Call (.Attribute (.Constant (.str p7) k p1) "join" apos) [e] [] cpos) (xz p7 te):=⟨have he:=he.out;(dW PySem.F.plainAttrs_str PySem.F.slot_str_join PySem.F.type_str_join xy oi (bw he pa_nil m9) b_ d_ c8 m9).anti λs H Q q=>by
 obtain⟨B,F,z,kf,rs,R,h1,h2⟩:=q;have fh:=kf.fh;refine⟨rfl,?_⟩;refine⟨B,F,z,kf,rs,_,h1,λx u F1 H1 g1 hx rx=>?_⟩;split at hx
 .obtain⟨ys,e1,e2,hx⟩:=hx;obtain⟨l,vs,rfl,hq,rr⟩:=rep_lst.mp rx;exact⟨p7,l,vs,ys,rfl,rfl,g1.fh _ _ hq,λus q=>qh e1 rr q,Ei e2 (by decide),h2 _ _ F1 H1 g1 hx (rep_str.mpr rfl)⟩
 .exact hx.elim⟩
def dOix(i:Nat)(tb:TD):TD:=λz R=>match z[i]? with
 |some (be (.own ds))=>tb z λy=>match y with| .int k=>∃ d,atI ds k=be d/\R d|_=>False
 |_=>False
def jv[Jx](i:Nat){x:y'}(hb:WDE X b tb)(hN:autoParam (X.N[i]?=be x) zA0)(hv:autoParam (Vis X.env.scope x) zA5)(hd:autoParam (zND x) zA1)
  (f8:autoParam (zNC x) zA1) (hs:autoParam (dU b) zA6):WDE X (.Subscript (.Name x p) b pos) (dOix i tb):=⟨have hb:=hb.out;(pe_ix ix_list (cL hN hv hd f8) hb hs).anti λs H Q q=>by
 obtain⟨B,F,z,kf,rs,R,h1,h2⟩:=q;have fh:=kf.fh;unfold dOix at h1;split at h1
 .rename_i ds ez;obtain⟨a,vs,q1,q2,q3,q4,q5⟩:=rs.own i ds ez;refine⟨.ref a,q1,B,F,z,kf,rs,_,h1,λy v F1 H1 g1 hy ry=>?_⟩;split at hy
  .obtain⟨d,e1,hR⟩:=hy;obtain⟨w,e2,g8⟩:=(q5.mono g1.ff).at e1;exact⟨a,vs,_,w,rfl,rep_int.mp ry,SqL.of (g1.hh _ _ q2),e2,h2 d w F1 H1 g1 hR g8⟩
  .exact hy.elim
 .exact h1.elim⟩
def cutD(xs:List D)(lo hi:Option Int):List D:=(xs.drop (HT.sIx xs.length 0 lo)).take (HT.sIx xs.length xs.length hi - HT.sIx xs.length 0 lo)
def Reps.drop{K:D6}{F:Hp}:∀ (n:Nat) {xs:List D} {us:List V},Reps K F xs us->Reps K F (xs.drop n) (us.drop n)
 |0,_,_,r=>r
 |n+1,[],us,r=>by rw[reps_nil.mp r];exact reps_nil.mpr rfl
 |n+1,x::xs,us,r=>by
  obtain⟨u,ur,rfl,_,a2⟩:=reps_cons.mp r;exact Reps.drop n a2
def Reps.take{K:D6}{F:Hp}:∀ (n:Nat) {xs:List D} {us:List V},Reps K F xs us->Reps K F (xs.take n) (us.take n)
 |0,_,_,_=>reps_nil.mpr rfl
 |n+1,[],us,r=>by rw[reps_nil.mp r];exact reps_nil.mpr rfl
 |n+1,x::xs,us,r=>by
  obtain⟨u,ur,rfl,a1,a2⟩:=reps_cons.mp r;exact reps_cons.mpr ⟨u,_,rfl,a1,Reps.take n a2⟩
def Reps.cut{F:Hp}{xs:List D}{us:List V}(r:Reps K F xs us)(lo hi:Option Int):Reps K F (cutD xs lo hi) (cutV us lo hi):=by
 unfold cutD cutV;rw[r.length];exact(r.drop _).take _
def xA(ta tb:TD):TD:=λz R=>ta z λx=>tb z λy=>match x,y with| .lst xs,.int i=>R (.lst (cutD xs (be i) o_))|_,_=>False
def xB[Jx]{p2:P0}(ha:WDE X a ta)(hb:WDE X b tb):WDE X (.Subscript a (.Slice (be b) o_ o_ p2) pos) (xA ta tb):=⟨have ha:=ha.out;have hb:=hb.out;(pk pz ha (pj hb) pi).anti λs H Q q=>by
 obtain⟨B,F,z,kf,rs,R,h1,h2⟩:=q;have fh:=kf.fh;refine⟨B,F,z,kf,rs,_,h1,λx u F1 H1 g1 hx rx=>?_⟩;refine⟨B,F1,z,kf.grow g1,rs.grow g1,_,hx,λy v F2 H2 g2 hy ry=>?_⟩;split at hy
 .refine⟨_,rep_int.mp ry,?_⟩;obtain⟨l,vs,rfl,hq,rr⟩:=rep_lst.mp (rx.mono g2.ff);refine⟨l,vs,rfl,SqL.of (g2.fh _ _ hq),λp hp=>?_⟩;exact h2 _ _ _ _ (g1.trans (g2.trans (Grow.new g2.fh hp _))) hy (rep_lst.mpr ⟨p,_,rfl,ax,(rr.cut _ _).mono (aQ (g2.fh.free hp) _)⟩)
 .exact hy.elim⟩
def xC{t:TGs}{n:Nat}(hc:X.calm=true)(h:PGs X es t)(hn:autoParam ((PU es X.env).length=n) zA0)(m4:autoParam ((PU es X.env).findIdx? (·.1)=none) zA0):
  PG X (.Tuple es k pos) (λv σ H Q=>∃ a xs,v= .ref a/\SqL X.K H a xs/\xs.length=n/\t xs σ H Q):=by
 intro pins s σ H v u Q I r hw;obtain⟨a,xs,e1,hq,hl,hw⟩:=hw;subst e1;cases r;obtain⟨its,rv,pl,hz⟩:=I.list hq;have e2:(PU es X.env).length=its.toArray.size:=by simp[hn,<- hl,rv.length]
 rw[PyProof.Rows.assign_Tuple];refine Os (Qd ?_);unfold unpack;rw[e2,m4];refine Os (Qe (kun_itemsOf (I.ok.hd hc) pl.isList λh' hx=>?_));have I1:Inv X pins σ H {s with heap:=h'}:=I.kept (t':=s.toks) λb o e=>hx b o (Eh (Heap.lt_size e)) e;exact h pins _ σ H xs _ Q I1 (by simpa using rv) hw
def xD(is:List Nat)(te:TD):TSD:=λE z=>te z λx=>match x with| .lst ds=>ds.length=is.length/\E.nx (aW is ds z)|_=>False
def qj[Jx]{is:List Nat}(hc:X.calm=true)(he:WDE X e te)(hg:DGs X es is)(hn:autoParam ((PU es X.env).length=is.length) zA0)(m4:autoParam ((PU es X.env).findIdx? (·.1)=none) zA0)
  (hs:autoParam (Qi [.Tuple es k p] e pos.line X.env=pure false) zA0) (hw:autoParam (Qj [.Tuple es k p] e X.env=pure none) zA0) (h1:autoParam ((PU [.Tuple es k p] X.env).map (·.2)=[Qp (.Tuple es k p) X.env]) zA0):WDS X (.Assign [.Tuple es k p] e pos) (xD is te):=⟨by
 have he:=he.out;obtain⟨u,hu,kk⟩:=hg;refine(ja he (xC hc hu hn m4) hs hw h1).anti λE s H q=>?_;obtain⟨B,F0,F,z,k,rs,ED,h,e⟩:=q;refine⟨B,F,z,k.kf,rs,_,h,λd v F' H' g hd rd=>?_⟩;split at hd
 .obtain⟨p,vs,rfl,hq,rr⟩:=rep_lst.mp rd;exact⟨p,vs,rfl,SqL.of (g.fh _ _ hq),by rw[rr.length];exact hd.1,kk _ vs z s B F' H' _ hd.1 rr (rs.grow g) λs' r'=>e.nx _ _ F' H' (k.grow g) hd.2 r'⟩
 .exact hd.elim⟩
end
end My
namespace L2
def jw{env:Qs}:∀ (names:List (y' × Qn)) (t5:List (y' × KF)),(∀ n,(n,NameKind.free)∈names->∃ c,env.cells.lookup n=be c)->
  ∃ cl,(forIn (m:=Q_) names t5 λx r=>match x with
     |(name,kind)=>if(kind==NameKind.free)=true then(do let a <- cellOf env name;pure (ForInStep.yield ((name,a)::r))) else pure (ForInStep.yield r))=(pure cl:Q_ (List (y' × KF)))/\
   (∀ n c,cl.lookup n=be c->env.cells.lookup n=be c\/t5.lookup n=be c)/\(∀ n,(n,NameKind.free)∈names->∃ c,cl.lookup n=be c)/\∀ n c,t5.lookup n=be c->∃ c',cl.lookup n=be c'
 |[],t5,_=>⟨t5,rfl,(λ_ _ h=> .inr h),(λ_ h=>by cases h),(λ_ c h=>⟨c,h⟩)⟩
 |(name,kind)::r,t5,h=>by
  by_cases hk:(kind==NameKind.free)=true
  .have ek:kind= .free:=by simpa using hk
   subst ek;obtain⟨c,hc⟩:=h name Ed;obtain⟨cl,e,p1,p2,p3⟩:=jw r ((name,c)::t5) λn q=>h n (Ec _ q);refine⟨cl,?_,λn c' q=>?_,λn q=>?_,λn c' q=>?_⟩
   .rw[Gb];have ec:cellOf env name=pure c:=by unfold cellOf;rw[hc]
    simp only[hk,if_true,ec];exact e
   .rcases p1 n c' q with z|z
    .exact .inl z
    .rw[Er] at z;split at z
     .rename_i q2;have en:n=name:=by simpa using q2
      cases z;exact .inl (en ▸ hc)
     .exact .inr z
   .rcases Ea.mp q with z|z
    .cases z;exact p3 _ c (by rw[Er];simp)
    .exact p2 n z
   .by_cases hn:n=name
    .subst hn;exact p3 n c (by rw[Er];simp)
    .exact p3 n c' (by rw[Er,beq_eq_false_iff_ne.mpr hn];exact q)
  .obtain⟨cl,e,p1,p2,p3⟩:=jw r t5 λn q=>h n (Ec _ q);refine⟨cl,?_,p1,λn q=>?_,p3⟩
   .rw[Gb];simp only[hk];exact e
   .rcases Ea.mp q with z|z
    .cases z;exact absurd rfl hk
    .exact p2 n z
def closure_is{env:Qs}{scope:Qf}(h:∀ n,(n,NameKind.free)∈scope.names->∃ c,env.cells.lookup n=be c):
  ∃ cl,closureFor scope env=pure cl/\(∀ n c,cl.lookup n=be c->env.cells.lookup n=be c)/\∀ n,(n,NameKind.free)∈scope.names->∃ c,cl.lookup n=be c:=by
 obtain⟨cl,e,p1,p2,_⟩:=jw scope.names [] h;refine⟨cl,?_,λn c q=>(p1 n c q).elim id (λz=>nomatch z),p2⟩;unfold closureFor;show(forIn (m:=Q_) scope.names [] _>>=λs=>pure s)=pure cl;rw[e];rfl
def gD{env:Qs}:∀ {names:List (y' × Qn)} {n:y'} {k:Qn},(∀ y∈names,y.2≠.cell)->k= .cell\/k= .free->
  (names.map λ(n,k)=>if(k==NameKind.free && env.scope.kind== .function && env.kindOf n==be .cell) then(n,NameKind.cell) else(n,k)).lookup n=be k->(n,NameKind.free)∈names
 |[],_,_,_,_,h=>by simp at h
 |(a,b)::r,n,k,hc,hk,h=>by
  rw[En] at h;by_cases hb:(b==NameKind.free && env.scope.kind== .function && env.kindOf a==be .cell)=true
  .have eb:b= .free:=by
    have:=(Ew _ _ ▸ ((Ew _ _ ▸ hb).1)).1;simpa using this
   simp only[hb,if_true] at h;rw[Er] at h;split at h
   .rename_i q;have en:n=a:=by simpa using q
    subst en eb;exact Ed
   .exact Ec _ (gD (λy q=>hc y (Ec _ q)) hk h)
  .simp only[hb] at h;rw[if_neg (by simp),Er] at h;split at h
   .rename_i q;have en:n=a:=by simpa using q
    cases h;subst en;rcases hk with z|z
    .exact absurd z (hc _ Ed)
    .rw[z];exact Ed
   .exact Ec _ (gD (λy q=>hc y (Ec _ q)) hk h)
section
variable {prog:PH}{w:PP}{A:PQ}{R:Result->KM->Prop}{s:KM}
abbrev qk(i8:List PJ)(env:Qs):Q_ Bool:=forIn i8 true λc r=>if r=true then do let ok <- isTrue c env (PX c env);pure (ForInStep.yield ok) else pure (ForInStep.yield r)
def ql{ge f9 iter:PJ}{i8:List PJ}{scope:Qf}{pos:P0}{it t5:KB}{env:Qs}(I:Nat->KM->Prop)
  (c7:∀ n s,I n s->PN (PM prog w) A (pyNext it) (λr s₁=>match r with
   |none=>R (.ok .next) s₁
   |some v=>PN (PM prog w) A (QD f9 it v) (λ_ s₁'=>PN (PM prog w) A (Qp f9 env v) (λ_ s₂=>PN (PM prog w) A (qk i8 env) (λok s₂'=>if ok=true then PN (PM prog w) A (PX ge env) (λx s₃=>
     PN (PM prog w) A (call (.builtin "list.append") [t5,x]) (λ_ s₄=>∃ m,m<n/\I m s₄) (λ_ _=>False) s₃)
     (λ_ _=>False) s₂' else ∃ m,m<n/\I m s₂') (λ_ _=>False) s₂) (λ_ _=>False) s₁') (λ_ _=>False) s₁) (λ_ _=>False) s)
  (n:Nat) (h:I n s):
  QA (PM prog w) A (.compLoop (.ListComp ge [⟨f9,iter,i8,0⟩] scope pos) 0 it t5 env) R s:=by
 refine codeAny_loop rfl I (λn s hI=>?_) n h;show PN _ _ ((compTurn (.ListComp ge [⟨f9,iter,i8,0⟩] scope pos) 0 it t5 env).onRaise (λx=>do QO x env;theTreesLotGoes x)) _ _ s;refine wpAny_noted ?_;rw[compTurn_list];refine Os (Qd (Os (P3 (c7 n s hI) (λr s₁ h₁=>?_) λ_ _ h'=>h'.elim)));cases r with
 |none=>exact PK h₁
 |some v=>
  refine Os (P3 h₁ (λ_ s₁' h₁'=>Os (P3 h₁' (λ_ s₂ h₂=>Os (P3 h₂ (λok s₃ h₃=>?_) λ_ _ h'=>h'.elim)) λ_ _ h'=>h'.elim)) λ_ _ h'=>h'.elim);cases ok with
  |false=>exact PK ⟨rfl,h₃⟩
  |true=>
   exact Os (Os (P3 h₃ (λx s₄ h₄=>Os (P3 h₄ (λ_ s₅ h₅=>PK (PK ⟨rfl,h₅⟩)) λ_ _ h'=>h'.elim)) λ_ _ h'=>h'.elim))
end
def cf(X:Cx)(scope:Qf)(cl:List (y' × KF))(x:y')(s₀:KM)(H₀:Hp)(fp:List KF):Cx where
 prog:=X.prog
 w:=X.w
 K:=X.K
 mg:=X.mg
 base:=X.base
 A:=X.A
 N:=X.N.map (λn=>if n=x then("":y') else n)++[x]
 s₀:=s₀
 H₀:=H₀
 env:=QW scope cl s₀.heap.objs.size X.env
 outer:=X.stack
 stack:=X.stack
 ex:=fp
 fn:=λ_=>false
 calm:=X.calm
 pn:=[]
 xe:=λ_ _=>False
structure CompScope(X:Cx)(scope:Qf)(x:Str):Prop where
 kind:scope.kind= .function
 nocell:∀ y∈scope.names,y.2≠.cell
 names:∀ y∈scope.names,y.2= .local->scope.names.lookup y.1=be .local
 own:scope.names.lookup x=be .local
 free:∀ n,(n,NameKind.free)∈scope.names->X.env.kindOf n=be .cell
 vis:∀ n∈X.N,n≠x->Vis (Rr scope X.env) n->(n,NameKind.free)∈scope.names
 empty:¬ Vis (Rr scope X.env) ("":y')
 cells:∀ n,(n,NameKind.free)∈scope.names->(Rr scope X.env).names.lookup n=be .cell
 nd:(X.N.map (λn=>if n=x then("":y') else n)++[x]).Nodup
section
variable {X:Cx}{pins:List (KF × P7)}{σ:St}{H:Hp}{s:KM}{scope:Qf}{cl:List (y' × KF)}{x:y'}{fp:List KF}
def jx(I:Inv X pins σ H s)(S:CompScope X scope x)(c1:∀ n c,cl.lookup n=be c->X.env.cells.lookup n=be c)(c2:∀ n,(n,NameKind.free)∈scope.names->∃ c,cl.lookup n=be c)
  (hf:∀ b∈fp,FpOk X pins H b) (hl:∀ b∈fp,b<s.heap.objs.size):(cf X scope cl x s H fp).Ok where
 mod:=I.ok.mod
 kind:=S.kind
 glob:=I.ok.glob
 blt:=I.ok.blt
 above:=D7 _
 inj:=λy z c h1 h2=>I.ok.inj y z c (c1 y c h1) (c1 z c h2)
 has:=λn hn=>by
  rcases hn with hn|hn
  .exact c2 n (gD S.nocell (.inl rfl) hn)
  .exact c2 n (gD S.nocell (.inr rfl) hn)
 cab:=λ_ _ h=>nomatch h
 hd:=I.ok.hd
 frames:=I.ok.frames
 stk:= .inl rfl
 exf:=λb hb=>⟨Eh (hl b hb),λy c h=>(hf b hb).2.2.2.2.1 y c (c1 y c h)⟩
 bs:=I.bs
 bsz:=Ei I.ok.bsz I.sz
 noex:=λb o e hb=>by
  have h1:=I.ok.noex b o e;rcases(hf b hb).2.2.2.1 with z|z
  .exact h1 z
  .exact absurd (Ez (Heap.lt_size e) (Ei I.ok.bsz z)) (E7 _)
 exfs:=λb hb hs=>by
  rcases Ea.mp (I.stkSub b hs) with z|z
  .exact(hf b hb).2.1 z
  .exact(hf b hb).2.2.1 z
 funs:=I.stack
 frf:=I.stkFree
def qm{h':Heap}{t':Nat}(I:Inv X pins σ H s)(S:CompScope X scope x)(c1:∀ n c,cl.lookup n=be c->X.env.cells.lookup n=be c)(c2:∀ n,(n,NameKind.free)∈scope.names->∃ c,cl.lookup n=be c)
  (hf:∀ b∈fp,FpOk X pins H b) (hl:∀ b∈fp,b<s.heap.objs.size) {m:y'->Option KB} (hn:h'.Ns s.heap.objs.size m) (k:∀ b o,s.heap.get? b=be o->h'.get? b=be o):
  Inv (cf X scope cl x s H fp) [] (σ++[o_]) H {s with heap:=h',toks:=t'}:=by
 refine⟨jx I S c1 c2 hf hl,rfl,I.bare,Un.kept k,⟨m,hn,λi n v e1 e2 e3=>?_⟩,λn c e=>?_,I.hok.fresh (D7 _),λn c e=>I.freeC n c (c1 n c e),λp hp=>absurd (show p∈([]:List (KF × P7)) from hp) (by simp),I.hok.kept k,?_⟩
 .have hi:i<σ.length:=by
   rcases Fl i σ.length with q|q
   .exact q
   .rw[EY q] at e2;cases hz:i - σ.length with
    |zero=>rw[hz] at e2;simp at e2
    |succ z=>rw[hz] at e2;simp at e2
  rw[EO hi] at e2;have J':i<X.N.length:=by rw[<- I.len];exact hi
  have Ip:(X.N.map (λn=>if n=x then("":y') else n)++[x])[i]?=be n:=e1;rw[EO (by simpa using J'),Eo,Es J'] at Ip;simp only[Option.map_some,Option.some.injEq] at Ip;by_cases hx:X.N[i]=x
  .rw[if_pos hx] at Ip;subst Ip;exact absurd e3 S.empty
  .rw[if_neg hx] at Ip;subst Ip;have j5:=S.vis _ (EK J') hx e3;have k9:=S.free _ j5;obtain⟨c,hc⟩:=c2 _ j5;obtain⟨mX,Pc,N6⟩:=I.loc;obtain⟨u,ru,lk⟩:=N6 i X.N[i] v (Es J') e2 (.inr (.inl k9));refine⟨u,ru,.inr ⟨?_,c,hc,?_⟩⟩
   .exact .inl (S.cells _ j5)
   .rcases lk with⟨kl,_⟩|⟨_,c',Hx,j7⟩
    .rw[k9] at kl;cases kl
    .have:c=c':=by
      have:=c1 _ c hc;rw[Hx] at this;exact(Option.some.inj this).symm
     subst this;obtain⟨o,ho,hd⟩:=j7;exact⟨o,k _ _ ho,hd⟩
 .obtain⟨v,o,ho,hd⟩:=I.cell n c (c1 n c e);exact⟨v,o,k _ _ ho,hd⟩
 .show(σ++[o_]).length=(X.N.map _++[x]).length;rw[Eg,Eg,Ef,I.len];rfl
end
def fG(wi:TI)(tt:TT)(i_:TE):TE:=λσ H Q=>wi σ H λJ H1=>∀ D,H1 D=o_->∃ W:Nat->Nat->Hp->Prop,(∃ m,W 0 m (upd H1 D (.lst [])))/\∀ i m H,W i m H->
 (J.stop i H/\Q (.ref D) H)\/(J.go i H/\∀ x H',J.yld i H x H'->tt (σ++[be x]) H' λb H1=>if b=true then i_ (σ++[be x]) H1 λy H''=>∃ vs,H'' D=be (.lst vs)/\vs.length<sizeLine/\∃ m',m'<m/\W (i+1) m' (upd H'' D (.lst (vs++[y]))) else ∃ m',m'<m/\W (i+1) m' H1)
def PIf(X:Cx)(i8:List PJ)(t:TT):Prop:=
 ∀ (pins:List (KF × P7)) (s:KM) (σ:St) (H:Hp) (Q:Bool->Hp->Prop),Inv X pins σ H s->t σ H Q->PN (PM X.prog X.w) X.A (qk i8 X.env) (TP X pins σ Q) X.xe s
def pif_nil{X:Cx}:PIf X [] (λ_ H Q=>Q true H):=λpins s σ H Q I q=>wpAny_tests_nil ⟨H,I,q⟩
def PIf.anti{X:Cx}{e:List PJ}{t t':TT}(h:PIf X e t)(a:∀ s H Q,t' s H Q->t s H Q):PIf X e t':=λpins s σ H Q I q=>h pins s σ H Q I (a _ _ _ q)
section
variable {X:Cx}
def xE{P:PH}{w:PP}{H:Hp}{h h':Heap}{a:KF}(x:HOk P w H h)(hn:H a=o_)(hs:Heap.SameBut a h h'):HOk P w H h':=λb ob e=>by
 refine(x b ob e).stay (λc w' hc q=>(hs.2 c ?_).trans q) (λ_ q=>q) λ_ _ q=>q;rintro rfl;rcases hc with rfl|hc
 .rw[hn] at e;cases e
 .rw[hn] at hc;cases hc
variable{i8:List PJ}{scope:Qf}
def pe_comp{ge iter:PJ}{x:y'}{px:P0}{pos:P0}{wi:TI}{tt:TT}{i_:TE}(hc:X.calm=true)(S:CompScope X scope x)(hi:PI X (.Name x px) iter wi)
  (hq:∀ cl s₀ H₀ fp,PIf (cf X scope cl x s₀ H₀ fp) i8 tt) (he:∀ cl s₀ H₀ fp,PE (cf X scope cl x s₀ H₀ fp) ge i_) (hs:autoParam (∀ y,zFS X iter y) zA3):
  PE X (.ListComp ge [⟨.Name x px,iter,i8,0⟩] scope pos) (fG wi tt i_):=by
 intro pins s σ H Q I h;obtain⟨cl,j7,c1,c2⟩:=closure_is (env:=X.env) (scope:=scope) (λn q=>I.ok.has n (.inl (S.free n q)));rw[eval_ListComp];refine QY (use:=o_) rfl hs j7 S.kind S.names (thn (hi pins s σ H _ I h) λv s1 h1=>thn h1 λJ3 s2 h2=>?_);obtain⟨it,fp,tn,J,H1,e,I1,T,st,f1,hr⟩:=h2;subst e;have g5:∀ b∈fp,b<s2.heap.objs.size:=λb hb=>by
  obtain⟨o,ho,_⟩:=T.obj _ _ st b hb;exact Heap.lt_size ho
 have hD:H1 s2.heap.objs.size=none:=I1.hok.fresh (D7 _);obtain⟨W,⟨m0,w0⟩,step⟩:=hr _ hD;refine P1 (Ra S.nocell (by intro y hy;simp at hy) (λh₁ hns₁ hsb₁=>?_) S.kind);have I3:Inv X pins σ (upd H1 s2.heap.objs.size (.lst [])) {s2 with heap:=s2.heap.push {cls:= .type "list",data:= .seq ([]:List KB).toArray},toks:=s2.toks}:=I1.lnew (its:=[]) (ys:=[]) .nil (EA _);have g6:∀ b∈fp,b<(s2.heap.push {cls:= .type "list",data:= .seq ([]:List KB).toArray}).objs.size:=λb hb=>by
  rw[Heap.size_push];exact GO (g5 b hb)
 have m_:∀ b∈fp,FpOk X pins (upd H1 s2.heap.objs.size (.lst [])) b:=λb hb=>⟨by rw[aq (Eh (g5 b hb))];exact(f1 b hb).1,(f1 b hb).2⟩;have kp:∀ b o,(s2.heap.push {cls:= .type "list",data:= .seq ([]:List KB).toArray}).get? b=be o->h₁.get? b=be o:=λb o e=>
  (hsb₁.2 b (Eh (Heap.lt_size e))).trans (Heap.get?_push_of_some _ e)
 have I4:=qm (x:=x) (fp:=fp) (t':=s2.toks+([]:List (y' × KB)).length) I3 S c1 c2 m_ g6 hns₁ kp;have A':=jx (x:=x) (fp:=fp) I3 S c1 c2 m_ g6;generalize hY:cf X scope cl x {s2 with heap:=s2.heap.push {cls:= .type "list",data:= .seq ([]:List KB).toArray},toks:=s2.toks} (upd H1 s2.heap.objs.size (.lst [])) fp=Y at I4 A';have yP:Y.prog=X.prog:=by rw[<- hY];rfl
 have yW:Y.w=X.w:=by rw[<- hY];rfl
 have yK:Y.K=X.K:=by rw[<- hY];rfl
 have yA:Y.A=X.A:=by rw[<- hY];rfl
 have yN:Y.N=X.N.map (λn=>if n=x then("":y') else n)++[x]:=by rw[<- hY];rfl
 have yE:Y.env=QW scope cl (s2.heap.push {cls:= .type "list",data:= .seq ([]:List KB).toArray}).objs.size X.env:=by rw[<- hY];rfl
 have yX:Y.xe=λ_ _=>False:=by rw[<- hY];rfl
 have yC:Y.calm=true:=by rw[<- hY];exact hc
 have Jh:Y.ex=fp:=by rw[<- hY];rfl
 have KZ:Y.pn=[]:=by rw[<- hY];rfl
 have K0:Y.fs=frs X.stack:=by rw[<- hY];rfl
 have K1:Y.H₀=upd H1 s2.heap.objs.size (.lst []):=by rw[<- hY];rfl
 have Ji:Y.s₀={s2 with heap:=s2.heap.push {cls:= .type "list",data:= .seq ([]:List KB).toArray},toks:=s2.toks}:=by rw[<- hY];rfl
 have K2:PE Y ge i_:=by rw[<- hY];exact he _ _ _ _
 have K3:PIf Y i8 tt:=by rw[<- hY];exact hq _ _ _ _
 have g9:∀ {H':Hp},(∀ b∈fp,H' b=o_)->∀ b∈fp,FpOk Y [] H' b:=λ{H'} hn b hb=>by
  have gt:b∈Y.ex:=by rw[Jh];exact hb
  exact⟨hn b hb,(A'.exf b gt).1,A'.exfs b gt,.inl gt,λn c e=>(A'.exf b gt).2 n c e,by rw[KZ];simp⟩
 have u9:Y.env.scope.names.lookup x=be .local:=by rw[yE];exact Rc S.own
 have Jj:Y.N[X.N.length]?=be x:=by rw[yN];simp
 have K4:Y.N.Nodup:=by rw[yN];exact S.nd
 have d6:∀ (o:Option V) (H':Hp) (s':KM),Inv Y [] (σ++[o]) H' s'->Q (.ref s2.heap.objs.size) H'->∀ h',Heap.SameBut Y.env.locals s'.heap h'->EP X pins σ Q (.ref s2.heap.objs.size) {s' with heap:=h'}:=λo H' s' I' q h' hsb=>by
  have q_:Y.env.locals=(s2.heap.push {cls:= .type "list",data:= .seq ([]:List KB).toArray}).objs.size:=by rw[yE];rfl
  have ne:∀ b ob,(s2.heap.push {cls:= .type "list",data:= .seq ([]:List KB).toArray}).get? b=be ob->b≠Y.env.locals:=λb ob e=>by rw[q_];exact Eh (Heap.lt_size e)
  have bs:=I'.base;rw[K0,Jh,K1,Ji] at bs;refine⟨.ref s2.heap.objs.size,H',I3.call' (ch:=fp) ?_ ⟨λb ob e n h1 h2=>?_,λb ob e n h1 h2=>?_,bs.free,λb ob e h2=>?_,bs.tups,bs.frzs,bs.tbls⟩ ?_ I'.bare ?_,rfl,q⟩
  .have:=I'.os;rw[Ji] at this;exact this
  .exact(hsb.2 b (ne b ob e)).trans (bs.keep b ob e n h1 h2)
  .obtain⟨sl,q⟩:=bs.slot b ob e n h1 h2;exact⟨sl,(hsb.2 b (ne b ob e)).trans q⟩
  .obtain⟨o',q⟩:=bs.there b ob e h2;exact⟨o',(hsb.2 b (ne b ob e)).trans q⟩
  .have:=xE I'.hok I'.free hsb;rw[yP,yW] at this;exact this
  .exact λb hb=>⟨(m_ b hb).2.2.2.1,(m_ b hb).2.1,(m_ b hb).2.2.2.2.1,(m_ b hb).2.2.2.2.2⟩
 have p9:QA (PM X.prog X.w) X.A (.compLoop (.ListComp ge [⟨.Name x px,iter,i8,0⟩] scope pos) 0 (.ref it) (.ref s2.heap.objs.size) (QW scope cl (s2.heap.push {cls:= .type "list",data:= .seq ([]:List KB).toArray}).objs.size X.env))
   (compPost (PM X.prog X.w) X.A X.xe o_ (EP X pins σ Q) (.ref s2.heap.objs.size) (s2.heap.push {cls:= .type "list",data:= .seq ([]:List KB).toArray}).objs.size)
   {s2 with heap:=h₁,toks:=s2.toks+([]:List (y' × KB)).length}:=by
  refine ql (λn s'=>∃ i o H',Inv Y [] (σ++[o]) H' s'/\tn i s'.heap/\(∀ b∈fp,H' b=o_)/\W i n H') ?_ m0 ⟨0,o_,_,I4,T.keep _ _ _ st (λb hb ob e=>kp b ob (Heap.get?_push_of_some _ e)),λb hb=>(m_ b hb).1,w0⟩;rintro n s3 ⟨i,o,H3,I5,t3,f3,w3⟩;rcases step i n H3 w3 with⟨stop,q⟩|⟨go,q⟩
  .have dn:=T.done Y yP yW yK yC i [] s3 _ H3 (λ_ _=>False) I5 (g9 f3) t3 stop;rw[yA] at dn;refine thn dn λr s4 b8=>?_;obtain⟨hr,I6⟩:=b8;subst hr;obtain⟨m,hn,_⟩:=I6.loc;have q_:Y.env.locals=(s2.heap.push {cls:= .type "list",data:= .seq ([]:List KB).toArray}).objs.size:=by rw[yE];rfl
   rw[q_] at hn;exact⟨m,hn,λh' hsb=>d6 o H3 s4 I6 q h' (by rw[q_];exact hsb)⟩
  .have Jl:=T.item Y yP yW yK yC i [] s3 _ H3 (λ_ _=>False) I5 (g9 f3) t3 go;rw[yA] at Jl;refine thn Jl λr s4 b8=>?_;obtain⟨u,hr,h4⟩:=b8;subst hr;refine thn h4 λ_ s5 b8=>?_;obtain⟨xv,H5,I6,r5,y5,m5,IQ⟩:=b8;have K5:=I6.pinned (g9 IQ) (T.obj _ _ m5);rw[<- yE];refine Qv (dS K5 K4 Jj (.inl u9) r5 (λs6 I7=>?_) (.inr u9));have H9:(σ++[o]).set X.N.length (be xv)=σ++[be xv]:=by
    rw[<- I.len];simp
   rw[H9] at I7;have tv:=K3 _ s6 _ H5 _ I7 (q xv H5 y5);rw[yP,yW,yA,yX] at tv;refine thn tv λb K6 b8=>?_;obtain⟨K7,A_,qb⟩:=b8;cases b with
   |false=>
    obtain⟨m',hm,w7⟩:=qb;refine⟨m',hm,i+1,be xv,_,A_.unpinned,T.keep _ _ _ m5 λb hb ob e=>(A_.pin (b,ob) (Ek _ (Ek _ (cu hb e)))).1,λb hb=>?_,w7⟩;obtain⟨ob,e,d⟩:=T.obj _ _ m5 b hb;exact(A_.pin (b,ob) (Ek _ (Ek _ (cu hb e)))).2.1
   |true=>
   have ev:=K2 _ K6 _ K7 _ A_ qb;rw[yP,yW,yA,yX] at ev;refine thn ev λyv s7 b8=>?_;obtain⟨y,H6,I8,ry,vs,K8,b7,m',hm,w7⟩:=b8;have ap:=gl (X:=Y) _ s7 _ H6 (.ref s2.heap.objs.size) [y] (.ref s2.heap.objs.size) [yv] (λ_ H7=>H7=upd H6 s2.heap.objs.size (.lst (vs++[y]))) I8 rfl (.cons ry .nil) ⟨_,vs,y,rfl,rfl,K8,b7,rfl⟩;rw[yP,yW,yA,yX] at ap;refine thn ap λ_ s8 b8=>?_;obtain⟨_,H7,I9,_,e7⟩:=b8;subst e7;refine⟨m',hm,i+1,be xv,_,I9.unpinned,T.keep _ _ _ m5 λb hb ob e=>(I9.pin (b,ob) (Ek _ (Ek _ (cu hb e)))).1,λb hb=>?_,w7⟩;obtain⟨ob,e,d⟩:=T.obj _ _ m5 b hb;exact(I9.pin (b,ob) (Ek _ (Ek _ (cu hb e)))).2.1
 exact Q8 p9 (T.self _ _ _ _ _ (T.keep _ _ _ st (λb hb ob e=>kp b ob (Heap.get?_push_of_some _ e))) p9)
def qo{ge iter:PJ}{x y:y'}{px py h_:P0}{pos:P0}{wi:TI}{tt:TT}{i_:TE}{ix:Nat}(hc:X.calm=true)(S:CompScope X scope x)(hi:PI X (.Name x px) iter wi)
  (hq:∀ cl s₀ H₀ fp,PIf (cf X scope cl x s₀ H₀ fp) i8 tt) (he:∀ cl s₀ H₀ fp,PE (cf X scope cl x s₀ H₀ fp) ge i_) (hN:X.N.Nodup) (Jn:X.N[ix]?=be y) (hy:Loc X.env.scope y) (hf:zFN X y)
  (z_:P4 (.ListComp ge [⟨.Name x px,iter,i8,0⟩] scope pos) (be (.Name y py)) h_.line X.env=pure true) (hs:autoParam (∀ y,zFS X iter y) zA3):
  PS X (.Assign [.Name y py] (.ListComp ge [⟨.Name x px,iter,i8,0⟩] scope pos) h_) (tAsg (fG wi tt i_) (fq ix)):=by
 intro pins s σ H DE I h;have h:wi σ H λJ H1=>∀ D,H1 D=o_->∃ W:Nat->Nat->Hp->Prop,(∃ m,W 0 m (upd H1 D (.lst [])))/\∀ i m H,W i m H->
  (J.stop i H/\DE.nx (σ.set ix (be (.ref D))) H)\/(J.go i H/\∀ x H',J.yld i H x H'->tt (σ++[be x]) H' λb H1=>if b=true then i_ (σ++[be x]) H1 λy H''=>∃ vs,H'' D=be (.lst vs)/\vs.length<sizeLine/\∃ m',m'<m/\W (i+1) m' (upd H'' D (.lst (vs++[y]))) else ∃ m',m'<m/\W (i+1) m' H1):=h
 obtain⟨cl,j7,c1,c2⟩:=closure_is (env:=X.env) (scope:=scope) (λn q=>I.ok.has n (.inl (S.free n q)));rw[exec_Assign_Name_used _ _ _ _ z_];refine Os (Qd (Os ?_));show PN _ X.A (do let _ <- comprehension (.ListComp ge [⟨.Name x px,iter,i8,0⟩] scope pos) scope X.env _ (newList []) false (PX iter X.env) (be (Qp (.Name y py) X.env))) _ _ s;refine Os (P3 (QY (use:=be (Qp (.Name y py) X.env)) (Q:=λ_ s'=>SP X pins DE .next s') rfl hs j7 S.kind S.names
  (thn (hi pins s σ H _ I h) λv s1 h1=>thn h1 λJ3 s2 h2=>?_)) (λ_ s' hq=>PK (PK hq)) λ_ _ e=>e)
 obtain⟨it,fp,tn,J,H1,e,I1,T,st,f1,hr⟩:=h2;subst e;have g5:∀ b∈fp,b<s2.heap.objs.size:=λb hb=>by
  obtain⟨o,ho,_⟩:=T.obj _ _ st b hb;exact Heap.lt_size ho
 have hD:H1 s2.heap.objs.size=none:=I1.hok.fresh (D7 _);obtain⟨W,⟨m0,w0⟩,step⟩:=hr _ hD;refine P1 (Ra S.nocell (by intro y hy;simp at hy) (λh₁ hns₁ hsb₁=>?_) S.kind);have I3:Inv X pins σ (upd H1 s2.heap.objs.size (.lst [])) {s2 with heap:=s2.heap.push {cls:= .type "list",data:= .seq ([]:List KB).toArray},toks:=s2.toks}:=I1.lnew (its:=[]) (ys:=[]) .nil (EA _);have g6:∀ b∈fp,b<(s2.heap.push {cls:= .type "list",data:= .seq ([]:List KB).toArray}).objs.size:=λb hb=>by
  rw[Heap.size_push];exact GO (g5 b hb)
 have m_:∀ b∈fp,FpOk X pins (upd H1 s2.heap.objs.size (.lst [])) b:=λb hb=>⟨by rw[aq (Eh (g5 b hb))];exact(f1 b hb).1,(f1 b hb).2⟩;have kp:∀ b o,(s2.heap.push {cls:= .type "list",data:= .seq ([]:List KB).toArray}).get? b=be o->h₁.get? b=be o:=λb o e=>
  (hsb₁.2 b (Eh (Heap.lt_size e))).trans (Heap.get?_push_of_some _ e)
 have I4:=qm (x:=x) (fp:=fp) (t':=s2.toks+([]:List (y' × KB)).length) I3 S c1 c2 m_ g6 hns₁ kp;have A':=jx (x:=x) (fp:=fp) I3 S c1 c2 m_ g6;generalize hY:cf X scope cl x {s2 with heap:=s2.heap.push {cls:= .type "list",data:= .seq ([]:List KB).toArray},toks:=s2.toks} (upd H1 s2.heap.objs.size (.lst [])) fp=Y at I4 A';have yP:Y.prog=X.prog:=by rw[<- hY];rfl
 have yW:Y.w=X.w:=by rw[<- hY];rfl
 have yK:Y.K=X.K:=by rw[<- hY];rfl
 have yA:Y.A=X.A:=by rw[<- hY];rfl
 have yN:Y.N=X.N.map (λn=>if n=x then("":y') else n)++[x]:=by rw[<- hY];rfl
 have yE:Y.env=QW scope cl (s2.heap.push {cls:= .type "list",data:= .seq ([]:List KB).toArray}).objs.size X.env:=by rw[<- hY];rfl
 have yX:Y.xe=λ_ _=>False:=by rw[<- hY];rfl
 have yC:Y.calm=true:=by rw[<- hY];exact hc
 have Jh:Y.ex=fp:=by rw[<- hY];rfl
 have KZ:Y.pn=[]:=by rw[<- hY];rfl
 have K0:Y.fs=frs X.stack:=by rw[<- hY];rfl
 have K1:Y.H₀=upd H1 s2.heap.objs.size (.lst []):=by rw[<- hY];rfl
 have Ji:Y.s₀={s2 with heap:=s2.heap.push {cls:= .type "list",data:= .seq ([]:List KB).toArray},toks:=s2.toks}:=by rw[<- hY];rfl
 have K2:PE Y ge i_:=by rw[<- hY];exact he _ _ _ _
 have K3:PIf Y i8 tt:=by rw[<- hY];exact hq _ _ _ _
 have g9:∀ {H':Hp},(∀ b∈fp,H' b=o_)->∀ b∈fp,FpOk Y [] H' b:=λ{H'} hn b hb=>by
  have gt:b∈Y.ex:=by rw[Jh];exact hb
  exact⟨hn b hb,(A'.exf b gt).1,A'.exfs b gt,.inl gt,λn c e=>(A'.exf b gt).2 n c e,by rw[KZ];simp⟩
 have u9:Y.env.scope.names.lookup x=be .local:=by rw[yE];exact Rc S.own
 have Jj:Y.N[X.N.length]?=be x:=by rw[yN];simp
 have K4:Y.N.Nodup:=by rw[yN];exact S.nd
 have q_:Y.env.locals=(s2.heap.push {cls:= .type "list",data:= .seq ([]:List KB).toArray}).objs.size:=by rw[yE];rfl
 have d6:∀ (o:Option V) (H':Hp) (s':KM),Inv Y [] (σ++[o]) H' s'->Inv X pins σ H' s':=λo H' s' I'=>by
  have bs:=I'.base;rw[K0,Jh,K1,Ji] at bs;refine I3.call' (ch:=fp) ?_ bs ?_ I'.bare ?_
  .have:=I'.os;rw[Ji] at this;exact this
  .have:=I'.hok;rw[yP,yW] at this;exact this
  .exact λb hb=>⟨(m_ b hb).2.2.2.1,(m_ b hb).2.1,(m_ b hb).2.2.2.2.1,(m_ b hb).2.2.2.2.2⟩
 have p9:QA (PM X.prog X.w) X.A (.compLoop (.ListComp ge [⟨.Name x px,iter,i8,0⟩] scope pos) 0 (.ref it) (.ref s2.heap.objs.size) (QW scope cl (s2.heap.push {cls:= .type "list",data:= .seq ([]:List KB).toArray}).objs.size X.env))
   (compPost (PM X.prog X.w) X.A X.xe (be (Qp (.Name y py) X.env)) (λ_ s'=>SP X pins DE .next s') (.ref s2.heap.objs.size) (s2.heap.push {cls:= .type "list",data:= .seq ([]:List KB).toArray}).objs.size)
   {s2 with heap:=h₁,toks:=s2.toks+([]:List (y' × KB)).length}:=by
  refine ql (λn s'=>∃ i o H',Inv Y [] (σ++[o]) H' s'/\tn i s'.heap/\(∀ b∈fp,H' b=o_)/\W i n H') ?_ m0 ⟨0,o_,_,I4,T.keep _ _ _ st (λb hb ob e=>kp b ob (Heap.get?_push_of_some _ e)),λb hb=>(m_ b hb).1,w0⟩;rintro n s3 ⟨i,o,H3,I5,t3,f3,w3⟩;rcases step i n H3 w3 with⟨stop,q⟩|⟨go,q⟩
  .have dn:=T.done Y yP yW yK yC i [] s3 _ H3 (λ_ _=>False) I5 (g9 f3) t3 stop;rw[yA] at dn;refine thn dn λr s4 b8=>?_;obtain⟨hr,I6⟩:=b8;subst hr;obtain⟨m,hn,_⟩:=I6.loc;have z8:=I6.free;rw[q_] at hn z8;have IX:=d6 o H3 s4 I6;show PN _ X.A (Qp (.Name y py) X.env (.ref s2.heap.objs.size)) _ _ s4;refine Qv (oh IX hN Jn hy (v:= .ref s2.heap.objs.size) rfl (λs5 I7 ⟨a,hsb,ha⟩=>?_) hf);have Jo:(s2.heap.push {cls:= .type "list",data:= .seq ([]:List KB).toArray}).objs.size≠X.env.locals:=E8 I3.lt;have Jp:∀ z c,X.env.cells.lookup z=be c->c≠(s2.heap.push {cls:= .type "list",data:= .seq ([]:List KB).toArray}).objs.size:=λz c e=>by
    obtain⟨vv,oo,ho,_⟩:=I3.cell z c e;exact Eh (Heap.lt_size ho)
   have K9:(s2.heap.push {cls:= .type "list",data:= .seq ([]:List KB).toArray}).objs.size≠a:=by
    rcases ha with e|e
    .rw[e];exact Jo
    .exact λz=>Jp y a e z.symm
   refine⟨m,hn.sameBut hsb K9,λh' Iq=>⟨_,H3,I7.turned (t':=s5.toks) (it:=(s2.heap.push {cls:= .type "list",data:= .seq ([]:List KB).toArray}).objs.size) (λb ob hb e=>(Iq.2 b hb).trans e) z8 Jo (.inr I3.sz) Jp (λp hp=>?_),q⟩⟩;exact Eh (Heap.lt_size (I3.pin p hp).1)
  .have Jl:=T.item Y yP yW yK yC i [] s3 _ H3 (λ_ _=>False) I5 (g9 f3) t3 go;rw[yA] at Jl;refine thn Jl λr s4 b8=>?_;obtain⟨u,hr,h4⟩:=b8;subst hr;refine thn h4 λ_ s5 b8=>?_;obtain⟨xv,H5,I6,r5,y5,m5,IQ⟩:=b8;have K5:=I6.pinned (g9 IQ) (T.obj _ _ m5);rw[<- yE];refine Qv (dS K5 K4 Jj (.inl u9) r5 (λs6 I7=>?_) (.inr u9));have H9:(σ++[o]).set X.N.length (be xv)=σ++[be xv]:=by
    rw[<- I.len];simp
   rw[H9] at I7;have tv:=K3 _ s6 _ H5 _ I7 (q xv H5 y5);rw[yP,yW,yA,yX] at tv;refine thn tv λb K6 b8=>?_;obtain⟨K7,A_,qb⟩:=b8;cases b with
   |false=>
    obtain⟨m',hm,w7⟩:=qb;refine⟨m',hm,i+1,be xv,_,A_.unpinned,T.keep _ _ _ m5 λb hb ob e=>(A_.pin (b,ob) (Ek _ (Ek _ (cu hb e)))).1,λb hb=>?_,w7⟩;obtain⟨ob,e,d⟩:=T.obj _ _ m5 b hb;exact(A_.pin (b,ob) (Ek _ (Ek _ (cu hb e)))).2.1
   |true=>
   have ev:=K2 _ K6 _ K7 _ A_ qb;rw[yP,yW,yA,yX] at ev;refine thn ev λyv s7 b8=>?_;obtain⟨y,H6,I8,ry,vs,K8,b7,m',hm,w7⟩:=b8;have ap:=gl (X:=Y) _ s7 _ H6 (.ref s2.heap.objs.size) [y] (.ref s2.heap.objs.size) [yv] (λ_ H7=>H7=upd H6 s2.heap.objs.size (.lst (vs++[y]))) I8 rfl (.cons ry .nil) ⟨_,vs,y,rfl,rfl,K8,b7,rfl⟩;rw[yP,yW,yA,yX] at ap;refine thn ap λ_ s8 b8=>?_;obtain⟨_,H7,I9,_,e7⟩:=b8;subst e7;refine⟨m',hm,i+1,be xv,_,I9.unpinned,T.keep _ _ _ m5 λb hb ob e=>(I9.pin (b,ob) (Ek _ (Ek _ (cu hb e)))).1,λb hb=>?_,w7⟩;obtain⟨ob,e,d⟩:=T.obj _ _ m5 b hb;exact(I9.pin (b,ob) (Ek _ (Ek _ (cu hb e)))).2.1
 exact Q8 p9 (T.self _ _ _ _ _ (T.keep _ _ _ st (λb hb ob e=>kp b ob (Heap.get?_push_of_some _ e))) p9)
end
end L2
namespace My
def RepS.snoc{K:D6}{B F H:Hp}{z:SD}{s:L2.St}{d:D}{v:V}(h:RepS K B F H z s)(r:Rep K F d v):RepS K B F H (z++[be d]) (s++[be v]):=by
 have no:=r.noown;have get:∀ {j:Nat} {x:D},(z++[be d])[j]?=be (be x)->(j<z.length/\z[j]?=be (be x))\/(j=z.length/\x=d):=λ{j x} e=>by
  rcases Fl j z.length with q|q
  .rw[EO q] at e;exact .inl ⟨q,e⟩
  .rw[EY q] at e;cases hz:j - z.length with
   |zero=>rw[hz] at e;simp at e;exact .inr ⟨by lia,e.symm⟩
   |succ n=>rw[hz] at e;simp at e
 have lt:∀ {j:Nat},j<z.length->(s++[be v])[j]?=s[j]?:=λ{j} q=>EO (by rw[h.len];exact q);refine⟨by rw[Eg,Eg,h.len];rfl,λj x e nx=>?_,λj ds e=>?_,λj k dj dk a e1 e2 e3 e4=>?_⟩
 .rcases get e with⟨q,e⟩|⟨q,rfl⟩
  .rw[lt q];exact h.val j x e nx
  .exact⟨v,by rw[q,EY (by rw[h.len];exact D7 _),h.len];simp,r⟩
 .rcases get e with⟨q,e⟩|⟨q,e⟩
  .rw[lt q];exact h.own j ds e
  .rw[<- e] at no;cases no
 .rcases get e1 with⟨q,e1⟩|⟨q,e1⟩
  .rcases get e2 with⟨q2,e2⟩|⟨q2,e2⟩
   .rw[lt q] at e3;rw[lt q2] at e4;exact h.apart j k dj dk a e1 e2 e3 e4
   .rw[<- e2] at no;cases no
  .rw[<- e1] at no;cases no
def okB:Bool->Bool->Prop->Prop->Prop
 |_,true,A,_=>A
 |false,false,_,B=>B
 |true,false,_,_=>False
def cmpG(nf:Bool)(tt:TDT)(te:TD)(z:SD)(R:D->Prop)(items:List D):Prop:=items.length<=100000/\∃ W:Nat->List D->Prop,W 0 []/\(∀ k x ys,items[k]?=be x->(nf=true->ys.length=k)->W k ys->tt (z++[be x]) λb=>okB nf b (te (z++[be x]) λy=>W (k+1) (ys++[y])) (W (k+1) ys))/\∀ ys,(nf=true->ys.length=items.length)->W items.length ys->R (.lst ys)
def cmpF(tt:TDT)(te:TD)(z:SD)(R:D->Prop)(items:List D):Prop:=items.length<=100000/\∃ W:Nat->List D->Prop,W 0 []/\(∀ k x ys,items[k]?=be x->W k ys->tt (z++[be x]) λb=>okB false b (te (z++[be x]) λy=>W (k+1) (ys++[y])) (W (k+1) ys))/\∀ ys,W items.length ys->R (.lst ys)
def cmpP(te:TD)(z:SD)(R:D->Prop)(items:List D):Prop:=items.length<=100000/\∃ W:Nat->List D->Prop,W 0 []/\(∀ k x ys,items[k]?=be x->ys.length=k->W k ys->te (z++[be x]) λy=>W (k+1) (ys++[y]))/\∀ ys,ys.length=items.length->W items.length ys->R (.lst ys)
def jy(ti:TDI)(te:TD):TD:=λz R=>ti z (cmpP te z R)
def dT1:TDT:=λ_ R=>R true
abbrev DIf(X:Cx)[Jx](i8:List PJ)(t:TDT):Prop:=PIf X i8 (lT X.K t)
variable{X:Cx}
def jz[Jx]:DIf X [] dT1:=pif_nil.anti λs H Q q=>by
 obtain⟨B,F,z,kf,rs,R,h1,h2⟩:=q;exact h2 true F H (Grow.refl kf.fh) h1
structure ItIs(K:D6)(J:It)(F1 H1:Hp)(items:List D):Prop where
 go:∀ k F' H',Grow F1 H1 F' H'->k<items.length->J.go k H'
 yld:∀ k F' H' x H'',Grow F1 H1 F' H'->k<items.length->J.yld k H' x H''->H''=H'/\∃ d,items[k]?=be d/\Rep K F' d x
 stop:∀ F' H',Grow F1 H1 F' H'->J.stop items.length H'
def ItOk[Jx](K:D6)(wi:TI)(ti:TDI):Prop:=∀ {s:L2.St} {H B F:Hp} {z:SD} {P:List D->Prop} {Q:It->Hp->Prop},Kept B Jx.F0 F H->RepS K B F H z s->ti z P->(∀ items J F1 H1,Grow F H F1 H1->P items->ItIs K J F1 H1 items->Q J H1)->wi s H Q
section
variable {X:Cx}
variable{K:D6}{H:Hp}{z:SD}{s:L2.St}{R:D->Prop}{items:List D}
def qp[Jx]{B F F1 H1:Hp}{Q:VK}{nf:Bool}{tt:TDT}{te:TD}{J:It}(kf:Kept B Jx.F0 F H)(g1:Grow F H F1 H1)(rs:RepS K B F H z s)(h2:∀ D ys us F' H',H D=o_->F' D=o_->Grow F H F' H'->H' D=be (.lst us)->Reps K F' ys us->R (.lst ys)->Q (.ref D) H')
    (it:ItIs K J F1 H1 items) (hd:cmpG nf tt te z R items):
    ∀ D,H1 D=o_->∃ W:Nat->Nat->Hp->Prop,(∃ m,W 0 m (upd H1 D (.lst [])))/\∀ i m H,W i m H->
      (J.stop i H/\Q (.ref D) H)\/(J.go i H/\∀ x H',J.yld i H x H'->lT K tt (s++[be x]) H' λb H1=>if b=true then lE K te (s++[be x]) H1 λy H''=>∃ vs,H'' D=be (.lst vs)/\vs.length<sizeLine/\∃ m',m'<m/\W (i+1) m' (upd H'' D (.lst (vs++[y]))) else ∃ m',m'<m/\W (i+1) m' H1):=by
  intro D hD;obtain⟨hz,W,w0,c7,out⟩:=hd;have N7:F1 D=none:=g1.fh.free hD;have hH:H D=none:=g1.hh.free hD;refine⟨λk m H'=>m=items.length - k/\k<=items.length/\∃ F' ys us,Grow F1 H1 F' H'/\H' D=be (.lst us)/\F' D=o_/\Reps K F' ys us/\(ys.length<=k/\(nf=true->ys.length=k))/\W k ys,
    ⟨items.length,by simp,EA _,F1,[],[],⟨Same.refl F1,g1.fh.trans (aQ hD _),aQ hD _,λb h _=>h⟩,ax,N7,reps_nil.mpr rfl,⟨D7 _,λ_=>rfl⟩,w0⟩,?_⟩
  rintro k m H' ⟨rfl,hk,F',ys,us,G,hu,hF,ry,hl,w⟩;by_cases g5:k<items.length
  . refine .inr ⟨it.go k F' H' G g5,λx H'' hy=>?_⟩;obtain⟨e,d,hd,rd⟩:=it.yld k F' H' x H'' G g5 hy;subst e;refine⟨B,F',z++[be d],kf.grow (g1.trans G),(rs.grow (g1.trans G)).snoc rd,_,c7 k d ys hd hl.2 w,λb F3 H3 g3 hb=>?_⟩;have K':H3 D=be (.lst us):=g3.hh D _ hu;have J_:F3 D=none:=g3.out D hF (by rw[hu];exact λq=>nomatch q);cases b with
    |false=>
      cases nf with
      |true=>exact hb.elim
      |false=>exact⟨items.length - (k+1),by lia,rfl,by lia,F3,ys,us,G.trans g3,K',J_,ry.mono g3.ff,⟨by lia,λz=>nomatch z⟩,hb⟩
    |true=>
    refine⟨B,F3,z++[be d],(kf.grow (g1.trans G)).grow g3,((rs.grow (g1.trans G)).snoc rd).grow g3,_,(show te _ _ from by cases nf<;>exact hb),λy yv F2 H2 g2 hw rv=>?_⟩;have N8:H2 D=be (.lst us):=g2.hh D _ K';have B_:F2 D=none:=g2.out D J_ (by rw[K'];exact λq=>nomatch q);have Pd:us.length<=k:=by rw[ry.length];exact hl.1
    refine⟨us, N8, by   have:(100000:Nat)<sizeLine:=by decide
                        lia,items.length - (k+1),by lia,rfl,by lia,F2,ys++[y],us++[yv],?_,ax,B_,((ry.mono g3.ff).mono g2.ff).append (eB rv),⟨by simp;lia,λz=>by simp[hl.2 z]⟩,hw⟩
    have GG:=(G.trans g3).trans g2;refine⟨GG.ff,λb o e=>?_,λb o e=>?_,GG.out⟩
    . have ne:b≠D:=λq=>by rw[q,B_] at e;cases e
      rw[aq ne];exact GG.fh b o e
    . have ne:b≠D:=λq=>by rw[q,hD] at e;cases e
      rw[aq ne];exact GG.hh b o e
  . have ek:k=items.length:=by lia
    subst ek;exact .inl ⟨it.stop F' H' G,h2 D ys us F' H' hH hF (g1.trans G) hu ry (out ys hl.2 w)⟩
def xF{F F' H':Hp}{D:KF}{us:List V}(GG:Grow F H F' H')(hu:H' D=be (.lst us))(hF:F' D=o_)(hH:H D=o_):Grow F H (upd F' D (.lst us)) H':=by
 refine⟨GG.ff.trans (aQ hF _),λb o e=>?_,GG.hh,λb h1 h3=>?_⟩
 .by_cases hb:b=D
  .subst hb;rw[ax] at e;cases e;exact hu
  .rw[aq hb] at e;exact GG.fh b o e
 .have ne:b≠D:=λq=>h3 (q ▸ hH);rw[aq ne];exact GG.out b h1 h3
variable {ge iter:PJ}{i8:List PJ}{x:y'}{px pos:P0}{scope:Qf}{ti te:TD}{tt:TDT}{wi:TI}{C_:TDI}
def qq[Jx]{nf:Bool}{G:SD->(D->Prop)->List D->Prop}(hG:∀ z R items,G z R items->cmpG nf tt te z R items)(hI:ItOk K wi C_){Q:VK}(q:lE K (λz R=>C_ z (G z R)) s H Q):fG wi (lT K tt) (lE K te) s H Q:=by
 obtain⟨B,F,z,kf,rs,R,h1,h2⟩:=q;exact hI kf rs h1 λitems J F1 H1 g1 hg it=>qp kf g1 rs (λD ys us F' H' hH hF GG hu ry hR=>h2 (.lst ys) (.ref D) _ H' (xF GG hu hF hH) hR (rep_lst.mpr ⟨D,us,rfl,ax,ry.mono (aQ hF _)⟩)) it (hG _ _ _ hg)
def cmpP.g(h:cmpP te z R items):cmpG true dT1 te z R items:=
 let ⟨hz,W,w0,c7,out⟩:=h
 ⟨hz,W,w0,λk x ys e l w=>c7 k x ys e (l rfl) w,λys l w=>out ys (l rfl) w⟩
def cmpF.g(h:cmpF tt te z R items):cmpG false tt te z R items:=
 let ⟨hz,W,w0,c7,out⟩:=h
 ⟨hz,W,w0,λk x ys e _ w=>c7 k x ys e w,λys _ w=>out ys w⟩
def itL[Jx]:ItOk K (oz K (lE K ti)) (dItL ti):=λ{s H B F z P Q} kf rs h1 h2=>by
 refine⟨B,F,z,kf,rs,_,h1,λd v F1 H1 g1 hd rd=>?_⟩;have key:∀ (items:List D) (p:KF) (vs:List V),SqL K F1 p vs->Reps K F1 items vs->P items->∃ a,V.ref p= .ref a/\(∃ xs,SqL K H1 a xs)/\Q (Itl K a) H1:=λitems p vs hq rr hd=>by
  refine⟨p,rfl,⟨vs,g1.fh.seq hq⟩,h2 items _ F1 H1 g1 hd ⟨λk F' H' G hk=>?_,λk F' H' x H'' G hk hy=>?_,λF' H' G=>?_⟩⟩
  .have n4:k<vs.length:=by rw[rr.length];exact hk
   exact⟨vs,vs[k],G.hh.seq (g1.fh.seq hq),by simp[n4]⟩
  .obtain⟨e,hy⟩:=hy;obtain⟨d,e2,r2⟩:=rr.get' (hy vs (G.hh.seq (g1.fh.seq hq)));exact⟨e,d,e2,r2.mono G.ff⟩
  .exact⟨vs,G.hh.seq (g1.fh.seq hq),by rw[rr.length];exact D7 _⟩
 split at hd
 .obtain⟨p,vs,rfl,hq,rr⟩:=rep_lst.mp rd;exact key _ p vs (SqL.of hq) rr hd
 .obtain⟨p,vs,rfl,hq,rr⟩:=rep_rol.mp rd;exact key _ p vs hq rr hd
 .exact hd.elim
def itR[Jx]:ItOk K (oC (oV (lE K ti) tNil)) (dItR ti):=λ{s H B F z P Q} kf rs h1 h2=>by
 refine⟨B,F,z,kf,rs,_,h1,λd v F1 H1 g1 hd rd=>?_⟩;split at hd
 .rename_i n;obtain⟨⟨b1,b2⟩,hd⟩:=hd;have hl:((D9 n.toNat).map λk=>D.int ((k:Nat):Int)).length=n.toNat:=by simp
  refine⟨n,by rw[rep_int.mp rd],by lia,b2,h2 _ _ F1 H1 g1 hd ⟨λk F' H' G hk=>by rw[hl] at hk;exact hk,λk F' H' x H'' G hk hy=>?_,λF' H' G=>by show n.toNat<=_;rw[hl];exact D7 _⟩⟩;rw[hl] at hk;obtain⟨e,rfl⟩:=hy;exact⟨e,.int (k:Int),by simp[hk],rep_int.mpr (by congr 1;lia)⟩
 .exact hd.elim
def qr[Jx]{p1 p2:P0}(hc:X.calm=true)(S:CompScope X scope x)(hm:X.mg "range"=o_)(hi:WDE X iter ti)(he:∀ cl s₀ H₀ fp,WDE (cf X scope cl x s₀ H₀ fp) ge te)(hg:autoParam (Gl X "range") zA0)
  (hs:autoParam (∀ y,zFS X (.Call (.Name "range" p1) [iter] [] p2) y) zA3) (q9:autoParam (zSE X iter []) zA0) (f_:autoParam (PR [iter] X.env=[(false,PX iter X.env)]) zA0):WDE X (.ListComp ge [⟨.Name x px,.Call (.Name "range" p1) [iter] [] p2,[],0⟩] scope pos) (jy (dItR ti) te):=⟨have hi:=hi.out;have he:=λcl s₀ H₀ fp=>(he cl s₀ H₀ fp).out;(pe_comp hc S (jc hg hm (bw hi pa_nil q9) f_) (λ_ _ _ _=>jz) he hs).anti λs H Q q=>qq (λ_ _ _=>cmpP.g) itR q⟩
def xG[Jx]{E:Ends}{ix:Nat}(hI:ItOk K wi C_)(q:lS K (dSet ix (jy C_ te)) E s H):tAsg (fG wi (lT K dT1) (lE K te)) (fq ix) E s H:=by
 obtain⟨B,F0,F,z,k,rs,ED,⟨P,h,j⟩,e⟩:=q;exact qq (λ_ _ _=>cmpP.g) hI ⟨B,F,z,k.kf,rs,P,h,λd v F' H' g hd rd=>e.nx _ _ F' H' (k.grow g) (j d hd) ((rs.grow g).set rd)⟩
def qt[Jx](ix:Nat){y:y'}{py h_:P0}(hc:X.calm=true)(S:CompScope X scope x)(hN:X.N.Nodup)(hi:WDE X iter ti)(he:∀ cl s₀ H₀ fp,WDE (cf X scope cl x s₀ H₀ fp) ge te)(Jn:autoParam (X.N[ix]?=be y) zA0)(hy:autoParam (Loc X.env.scope y) zA4)
  (hf:autoParam (zFN X y) zA2) (z_:autoParam (P4 (.ListComp ge [⟨.Name x px,iter,[],0⟩] scope pos) (be (.Name y py)) h_.line X.env=pure true) zA0) (hs:autoParam (∀ y,zFS X iter y) zA3):WDS X (.Assign [.Name y py] (.ListComp ge [⟨.Name x px,iter,[],0⟩] scope pos) h_) (dSet ix (jy (dItL ti) te)):=⟨have hi:=hi.out;have he:=λcl s₀ H₀ fp=>(he cl s₀ H₀ fp).out;(qo hc S (oA hi) (λ_ _ _ _=>jz) he hN Jn hy hf z_ hs).anti λE s H q=>xG itL q⟩
end
def eJ(scope fsc:Qf):List (y' × Qn):=scope.names.map λ(n,k)=>if(k==NameKind.free && fsc.kind== .function && fsc.names.lookup n==be .cell) then(n,NameKind.cell) else(n,k)
def visB(l:List (y' × Qn))(n:y'):Bool:=l.lookup n==be .local||l.lookup n==be .cell||l.lookup n==be .free
def dD(scope fsc:Qf)(N:List y')(x:y'):Bool:=
 scope.kind== .function && scope.names.all (λy=>!(y.2== .cell)) && scope.names.all (λy=>!(y.2== .local)||scope.names.lookup y.1==be .local) && scope.names.lookup x==be .local &&
 scope.names.all (λy=>!(y.2== .free)||fsc.names.lookup y.1==be .cell) && N.all (λn=>decide (n=x)||!visB (eJ scope fsc) n||scope.names.any (λy=>decide (y=(n,NameKind.free)))) && !visB (eJ scope fsc) "" &&
 scope.names.all (λy=>!(y.2== .free)||(eJ scope fsc).lookup y.1==be .cell) && decide (N.map (λn=>if n=x then("":y') else n)++[x]).Nodup
def qu{l:List (y' × Qn)}{n:y'}(h:l.lookup n=be .local\/l.lookup n=be .cell\/l.lookup n=be .free):visB l n=true:=by
 unfold visB;rcases h with h|h|h<;>rw[h]<;>rfl
def compScope{scope:Qf}{x:y'}(h:dD scope X.env.scope X.N x=true):CompScope X scope x:=by
 unfold dD at h;simp only[Ew] at h;obtain⟨⟨⟨⟨⟨⟨⟨⟨h1,h2⟩,h3⟩,h4⟩,h5⟩,h6⟩,h7⟩,h8⟩,h9⟩:=h;have er:(Rr scope X.env).names=eJ scope X.env.scope:=rfl;refine⟨by simpa using h1,λy hy=>?_,λy hy e=>?_,by simpa using h4,λn hn=>?_,λn hn ne v=>?_,λv=>?_,λn hn=>?_,of_decide_eq_true h9⟩
 .have:=Fo.mp h2 y hy;simpa using this
 .have:=Fo.mp h3 y hy;rw[e] at this;simpa using this
 .have:=Fo.mp h5 _ hn;show X.env.scope.names.lookup n=be .cell;simpa using this
 .have:=Fo.mp h6 n hn;have v':visB (eJ scope X.env.scope) n=true:=qu v;rw[v'] at this;simp[ne] at this;exact this
 .have v':visB (eJ scope X.env.scope) ""=true:=qu v;rw[v'] at h7;cases h7
 .have:=Fo.mp h8 _ hn;rw[er];simpa using this
def putD(f:y')(v:D):List (y' × D)->List (y' × D)
 |[]=>[(f,v)]
 |(g,x)::r=>if g=f then(g,v)::r else(g,x)::putD f v r
def RepF.put{K:D6}{F:Hp}{f:y'}{d:D}{v:V}(r:Rep K F d v):∀ {fs:List (y' × D)} {ws:List (y' × V)},RepF K F fs ws->RepF K F (putD f d fs) (putF f v ws)
 |[],ws,h=>by
  rw[repf_nil.mp h];exact repf_cons.mpr ⟨v,[],rfl,r,repf_nil.mpr rfl⟩
 |(g,x)::fs,ws,h=>by
  obtain⟨w,H_,rfl,h1,h2⟩:=repf_cons.mp h;unfold putD putF;by_cases e:g=f
  .rw[if_pos e,if_pos e];exact repf_cons.mpr ⟨v,H_,rfl,r,h2⟩
  .rw[if_neg e,if_neg e];exact repf_cons.mpr ⟨w,_,rfl,h1,RepF.put r h2⟩
def RepF.length{K:D6}{F:Hp}:∀ {fs:List (y' × D)} {ws:List (y' × V)},RepF K F fs ws->ws.length=fs.length
 |[],ws,h=>by rw[repf_nil.mp h];rfl
 |(g,x)::fs,ws,h=>by
  obtain⟨w,H_,rfl,h1,h2⟩:=repf_cons.mp h;rw[Eb,Eb,RepF.length h2]
def ClsA(K:D6)(x f:y'):Prop:=∃ C,nsIn K Pi x=be (be (.ref C))/\Cls K C/\NoAttr K C f
section
variable {X:Cx}{a b c e:PJ}{ta tb tc te:TD}{pos:P0}
def dFld(x f:y')(te:TD):TD:=λz R=>te z λd=>match d with| .obj y fs=>y=x/\∃ d,fs.lookup f=be d/\R d|_=>False
variable{x:y'}
def jA[Jx]{f:y'}(h:ClsA X.K x f)(he:WDE X e te)(hb:autoParam (PV e f X.env (PX e X.env)=PX e X.env) zA0):WDE X (.Attribute e f pos) (dFld x f te):=⟨have he:=he.out;(oS he hb).anti λs H Q q=>by
 obtain⟨C,hn,hc,hf⟩:=h;obtain⟨B,F,z,kf,rs,R,h1,h2⟩:=q;have fh:=kf.fh;refine⟨B,F,z,kf,rs,_,h1,λd u F1 H1 g1 hx rx=>?_⟩;split at hx
 .obtain⟨rfl,d,hl,hR⟩:=hx;obtain⟨a,C',dx,vs,rfl,k8,q,r⟩:=rep_obj.mp rx;rw[hn] at k8;cases k8;obtain⟨v,l,rv⟩:=r.look hl;exact⟨a,C,dx,vs,v,rfl,g1.fh _ _ q,hc,hf,l,h2 d v F1 H1 g1 hR rv⟩
 .exact hx.elim⟩
def qv[Jx]{d:D}{v:V}{u:KB}(hm:X.mg x=be u)(r:RelV v u)(rd:∀ H,Rep X.K H d v)(hg:autoParam (Gl X x) zA0)(hd:autoParam (zND x) zA1):DE X (.Name x pos) (dC d):=de_c (tJ hg hm r hd) rd
def fH[Jx]{i:Int}(h:∃ t,X.mg x=be (.int i t))(hg:autoParam (Gl X x) zA0)(hd:autoParam (zND x) zA1):WDE X (.Name x pos) (dC (.int i)):=⟨by
 obtain⟨t,h⟩:=h;exact qv (v:= .int i) h ⟨t,rfl⟩ (λ_=>rep_int.mpr rfl) hg hd⟩
def eK[Jx]{y:y'}(h:∃ t,X.mg x=be (.str y t))(hg:autoParam (Gl X x) zA0)(hd:autoParam (zND x) zA1):WDE X (.Name x pos) (dC (.str y)):=⟨by
 obtain⟨t,h⟩:=h;exact qv (v:= .str y) h ⟨t,rfl⟩ (λ_=>rep_str.mpr rfl) hg hd⟩
structure ClsI(K:D6)(mg:Str->Option KB)(x:Str)(C:KF):Prop where
 ns:nsIn K Pi x=be (be (.ref C))
 mg:mg x=be (.ref C)
 cl:Cls K C
 ha:Ee K (.ref C) "__class__"=be (be (.builtin "object.__class__"))
 hn:specialIn K (.builtin "object.__class__") "__get__"=be (be (.builtin "getset_descriptor.__get__"))
 htk:takesIn K (.builtin "object.__class__")=be true
 hm:Fg K C (.type "object")=be true
 self:kitOne K (.ref C) (.ref C)=be true
end
abbrev SiD:=List D->(List (y' × D)->Prop)->Prop
def lSi(K:D6)(C:KF)(S:SiD):Sp:=λvs H Q _=>∃ a dx us H1 F ds,vs= .ref a::us/\H=upd (upd H1 dx (.own a)) a (.ins C dx [])/\H1 a=o_/\H1 dx=o_/\dx≠a/\Same F H1/\Reps K F ds us/\
 ∃ R:List (y' × D)->Prop,S ds R/\∀ fs ws D' F' H',Grow F H1 F' H'->R fs->H' a=be (.ins C D' ws)->F' a=o_->RepF K F' fs ws->Q .non H'
def CalM(P:PH)(w:PP)(K:D6)(mg:y'->Option KB)(base:Heap)(n:Nat)(x:y')(ps:List y')(S:SiD):Prop:=
 ∃ C f fd,nsIn K Pi x=be (be (.ref C))/\mg x=be (.ref C)/\Mk K C f/\FnOk P w K mg base (Exc.CX1 P w) n f fd ps (lSi K C S)/\Binds K fd ps []
def xH(x:y')(S:SiD)(t:TDA):TD:=λz R=>t z λds=>S ds λfs=>R (.obj x fs)
def jB[Jx]{pos:P0}{n m:Nat}{ps:List y'}{S:SiD}{x:y'}{p:P0}{e:PJ}{es:List PJ}{t:TDA}(M:CalM X.prog X.w X.K X.mg X.base n x ps S)(hr:Room m X.A)(ha:WDA X (e::es) t)(hg:autoParam (Gl X x) zA0)(hn:autoParam (n+1<=m) zA1)(d7:autoParam (zND x) zA1)
  (he:autoParam (zSE X e es) zA0) (c5:autoParam (zPL X pos es) zA0):WDE X (.Call (.Name x p) (e::es) [] pos) (xH x S t):=⟨by
 have ha:=ha.out;obtain⟨C,f,fd,hns,l8,mk,F,hb⟩:=M;refine(jj mk F (hr.mono hn) hg l8 hb .nil fz ha d7 he c5).anti λs H Q q=>?_;obtain⟨B,F,z,kf,rs,R,h1,h2⟩:=q;have fh:=kf.fh;refine⟨B,F,z,kf,rs,_,h1,λds vs F1 H1 g1 hx rx=>?_⟩;intro a dx ha u_ j8;refine⟨a,dx,vs,H1,F1,ds,by rw[EI],rfl,ha,u_,j8,g1.fh,rx,_,hx,λfs ws D' F' H' g hR f7 i9 rf=>⟨rfl,?_⟩⟩;have s1:Same F' (upd F' a (.ins C D' ws)):=aQ i9 _;refine h2 (.obj x fs) (.ref a) (upd F' a (.ins C D' ws)) H' ⟨(g1.ff.trans g.ff).trans s1,λb o q=>?_,g1.hh.trans g.hh,λb q1 q2=>?_⟩ hR (rep_obj.mpr ⟨a,C,D',ws,rfl,hns,ax,RepF.mono s1 fs ws rf⟩)
 .by_cases hb:b=a
  .subst hb;rw[ax] at q;cases q;exact f7
  .rw[aq hb] at q;exact g.fh b o q
 .by_cases hb:b=a
  .subst hb;exact absurd (g1.hh.free ha) q2
  .rw[aq hb];exact(g1.trans g).out b q1 q2⟩
abbrev TID:=SD->List (y' × D)->(List (y' × D)->Prop)->Prop
def lI(K:D6)[J:Jx](x:y')(t:TID):TS:=λE σ H=>∃ C a dx ws F z fs,nsIn K Pi x=be (be (.ref C))/\σ[0]?=be (be (.ref a))/\H a=be (.ins C dx ws)/\J.B a=o_/\F a=o_/\Kept J.B J.F0 F H/\RepS K J.B F H z σ/\RepF K F fs ws/\
 ∃ R:List (y' × D)->Prop,t z fs R/\∀ n_ H_ F' H',Kept J.B J.F0 F' H'->R n_->H' a=be (.ins C dx H_)->F' a=o_->RepF K F' n_ H_->E.nx σ H'
abbrev DI(X:Cx)[Jx](x:y')(st:List PL)(t:TID):Prop:=PSs X st (lI X.K x t)
structure WDI(X:Cx)[Jx](x:Str)(st:List PL)(t:TID):Prop where
 out:DI X x st t
section
variable {X:Cx}{x f:y'}{e:PJ}{te:TD}{pos c9 p:P0}{rest:List PL}{tr:TID}
def qw:TID:=λ_ fs R=>R fs
def xI(f:y')(te:TD)(tr:TID):TID:=λz fs R=>te z λd=>fs.length<1000/\tr z (putD f d fs) R
def dE[Jx]:WDI X x [] qw:=⟨pss_nil.anti λE s H q=>by
 obtain⟨C,a,dx,ws,F,z,fs,hn,h0,f7,D_,i9,g,rs,rf,R,hR,k⟩:=q;exact k fs ws F H g hR f7 i9 rf⟩
def RepS.other{K:D6}{B F H:Hp}{z:SD}{σ:L2.St}{a:KF}{o o':HO}(rs:RepS K B F H z σ)(h:H a=be o)(hl:∀ vs,o≠.lst vs):RepS K B F (upd H a o') z σ:=
 ⟨rs.len,rs.val,λi ds e=>by
  obtain⟨b,vs,q1,q2,q⟩:=rs.own i ds e;have ne:b≠a:=by
   rintro rfl;rw[h] at q2;cases q2;exact hl vs rfl
  exact⟨b,vs,q1,by rw[aq ne];exact q2,q⟩,rs.apart⟩
def bE[J:Jx]{ps:P0}{sx:y'}(hA:ClsA X.K x f)(he:WDE X e te)(hr:WDI X x rest tr)(hN:autoParam (X.N[0]?=be sx) zA0)(hv:autoParam (Vis X.env.scope sx) zA5)(hd:autoParam (zND sx) zA1)
  (f8:autoParam (zNC sx) zA1) (hs:autoParam (P4 e (be (.Attribute (.Name sx ps) f c9)) pos.line X.env=pure false) zA0):WDI X x (.Assign [.Attribute (.Name sx ps) f c9] e pos::rest) (xI f te tr):=⟨have he:=he.out;have hr:=hr.out;(fo (oU (cL (i:=0) hN hv hd f8) he hs) hr).anti λE s H q=>by
 obtain⟨C,a,dx,ws,F,z,fs,hn,h0,f7,D_,i9,g,rs,rf,R,hR,k⟩:=q;obtain⟨C',k8,hc,hf⟩:=hA;rw[hn] at k8;cases k8;refine⟨_,F,z,g,rs,_,hR,λd v F2 H2 g2 hx rv=>?_⟩;have k2:=g.grow g2;have MV:=g2.hh a _ f7;have B_:F2 a=none:=g2.out a i9 (by rw[f7];exact λz=>nomatch z);refine⟨.ref a,h0,a,C,dx,ws,rfl,MV,hc,hf,by rw[rf.length];exact hx.1,?_⟩;have N9:Same F2 (upd H2 a (.ins C dx (putF f v ws))):=λb o q=>by
  have ne:b≠a:=by rintro rfl;rw[B_] at q;cases q
  rw[aq ne];exact g2.fh b o q
 have x_:Same J.B (upd H2 a (.ins C dx (putF f v ws))):=λb o q=>by
  have ne:b≠a:=by rintro rfl;rw[D_] at q;cases q
  rw[aq ne];exact k2.bh b o q
 exact⟨C,a,dx,putF f v ws,F2,z,putD f d fs,hn,h0,ax,D_,B_,⟨x_,N9,k2.f0,k2.out,k2.eb,k2.jf,k2.jo⟩,(rs.grow g2).other MV (λ_ z=>nomatch z),RepF.put rv (RepF.mono g2.ff fs ws rf),R,hx.2,k⟩⟩
end
section
variable {P:PH}{w:PP}{K:D6}{mg:y'->Option KB}{base:Heap}
def qy{K:D6}{B F H:Hp}{z:SD}{σ:L2.St}{v:V}(rs:RepS K B F H z σ):RepS K B F H (o_::z) (be v::σ):=
  ⟨by rw[Eb,Eb,rs.len],λi d e no=>by
    cases i with
    |zero=>cases e
    |succ i=>exact rs.val i d e no,λi ds e=>by
    cases i with
    |zero=>cases e
    |succ i=>exact rs.own i ds e,λi j di dj a e1 e2 e3 e4=>by
    cases i with
    |zero=>cases e1
    |succ i=>
      cases j with
      |zero=>cases e2
      |succ j=>rw[rs.apart i j di dj a e1 e2 e3 e4]⟩
def Cls.okI{x qual:y'}{st:PL}{f C:KF}{fd:PY}{N:List y'}{p0:y'}{ps:List y'}{k:Nat}{S:SiD}(T:Fun K "__init__" qual st f fd)(hb:Binds K fd (p0::ps) [])(F:FnScope (p0::N) (p0::ps) (ag st))(len:∀ ds R,S ds R->ds.length=ps.length)
  (hns:nsIn K Pi x=be (be (.ref C))) (l8:mg x=be (.ref C)) (mk:Mk K C f)
  (a9:∀ (cdv:KB) (A:PQ) (outer:List Qs) (s:KM) (H:Hp) (E:XK) (J:Jx),Room k (A.deeper (P2 qual (ag st) s.heap.objs.size f cdv))->
   ∃ t,DI (cxOf (Exc.CX1 P w) P w K mg base (p0::N) qual (ag st) f cdv A outer s H E).nox x (aI st) t/\∀ ds R,S ds R->t (o_::startD N ds) [] R):CalM P w K mg base (k+1) x (p0::ps) S:=by
 refine⟨C,f,fd,hns,l8,mk,Fun.okC T F (λvs H Q E h=>?_) (λcdv A outer s H vs Q E hr h=>?_),hb⟩
 .obtain⟨a,dx,us,H1,F,ds,rfl,_,_,_,_,_,rs,R,h,_⟩:=h;rw[Eb,Eb,rs.length,len ds R h]
 .obtain⟨a,dx,us,H1,F1,ds,rfl,rfl,ha,u_,j8,fh,rs,R,h,q⟩:=h
  letI:Jx:=⟨H1,F1,λ_ _ _=>False⟩
  obtain⟨t,ht,hq⟩:=a9 cdv A outer s _ E inferInstance hr;have Fa:F1 a=none:=fh.free ha;have hl:L2.start (p0::N) (.ref a::us)=be (.ref a)::L2.start N us:=by
   unfold L2.start;rw[En,Eb,Eb,GP];rfl
  have s1:Same H1 (upd (upd H1 dx (.own a)) a (.ins C dx [])):=(aQ u_ _).trans (aQ (by rw[aq (Ne.symm j8)];exact ha) _);refine⟨_,ht.nox,C,a,dx,[],F1,o_::startD N ds,[],hns,by rw[hl];rfl,ax,ha,Fa,⟨s1,fh.trans s1,Same.refl F1,λ_ h _=>h,rfl,Same.refl F1,λ_ h _=>h⟩,?_,repf_nil.mpr rfl,R,hq ds R h,λn_ H_ F' H' g hR f7 i9 rf=>q n_ H_ dx F' H' ⟨g.f0,g.fh,g.bh,g.out⟩ hR f7 i9 rf⟩;rw[hl];exact qy (dX rs)
end
section
variable {X:Cx}{a b c e:PJ}{ta tb tc te:TD}{pos:P0}
def xJ(t u:TD):TDI:=λz R=>t z λx=>u z λy=>match x,y with| .int i,.int j=>(-(2 ^ 62)<=i/\i<2 ^ 62/\-(2 ^ 62)<=j/\j<2 ^ 62)/\R ((D9 (j - i).toNat).map λk=>D.int (i+((k:Nat):Int)))|_,_=>False
def jC[Jx](i:Nat){x:y'}{p p1 p2:P0}{body:List PL}{MX:TSD}(hp:Qc (PM X.prog X.w) X.A X.env X.xe)(hc:X.calm=true)(hN:X.N.Nodup)(hm:X.mg "range"=o_)(ha:WDE X a ta)(gt:WDE X b tb)(hb:WDSs X body MX)(hg:autoParam (Gl X "range") zA0)(hi:autoParam (X.N[i]?=be x) zA0)(hx:autoParam (Loc X.env.scope x) zA4)
  (hf:autoParam (zFN X x) zA2) (hs:autoParam (∀ y,zFS X (.Call (.Name "range" p1) [a,b] [] p2) y) zA3) (q9:autoParam (zSE X a [b]) zA0) (K_:autoParam (zSE X b []) zA0) (f_:autoParam (PR [a,b] X.env=[(false,PX a X.env),(false,PX b X.env)]) zA0) (La:autoParam (PR [b] X.env=[(false,PX b X.env)]) zA0):WDS X (.For (.Name x p) (.Call (.Name "range" p1) [a,b] [] p2) body [] pos) (dFor i (xJ ta tb) MX):=⟨have ha:=ha.out;have gt:=gt.out;have hb:=hb.out;(dm hp hc (ui hg hm (bw ha (bw gt pa_nil K_) q9) f_ La) (fu hN hi hx hf) hb hs).anti λE s H q=>by
 obtain⟨B,F0,F,z,kp,rs,ED,h,e⟩:=q;refine⟨B,F,z,kp.kf,rs,_,h,λd1 v1 F1 H1 g1 h1 r1=>?_⟩;refine⟨B,F1,z,kp.kf.grow g1,rs.grow g1,_,h1,λd2 v2 F2 H2 g2 h2 r2=>?_⟩;split at h2
 .rename_i lo v3;obtain⟨bd,W,w0,c7,out⟩:=h2;have hl:((D9 (v3 - lo).toNat).map λk=>D.int (lo+((k:Nat):Int))).length=(v3 - lo).toNat:=by simp
  refine⟨lo,v3,by rw[rep_int.mp r1,rep_int.mp r2],bd,jd (lo:=lo) (n:=(v3 - lo).toNat) (λk s' H'=>∃ F' z',Kept B F0 F' H'/\RepS X.K B F' H' z' s'/\W k z') ⟨F2,z,(kp.grow g1).grow g2,(rs.grow g1).grow g2,w0⟩ ?_ ?_⟩
  .rintro k s' H' hk ⟨F',z',k',r',w'⟩;exact⟨B,F0,F',_,k',r'.set (d:= .int (lo+(k:Int))) (rep_int.mpr rfl),_,c7 k (.int (lo+(k:Int))) z' (by simp[hk]) w',⟨λz3 s3 F3 H3 k3 h3 r3=>⟨F3,z3,k3,r3,h3⟩,e.rt,e.nx,λz3 s3 F3 H3 k3 h3 r3=>⟨F3,z3,k3,r3,h3⟩⟩⟩
  .rintro s' H' ⟨F',z',k',r',w'⟩;exact e.nx z' s' F' H' k' (out z' (by rw[hl];exact w')) r'
 .exact h2.elim⟩
def RepS.change[Jx]{K:D6}{B F0 F H:Hp}{z:SD}{s:L2.St}{i:Nat}{ds Lb:List D}{a:KF}{p8:List V}(rs:RepS K B F H z s)(k:Kept B F0 F H)(ez:z[i]?=be (be (.own ds)))(q1:s[i]?=be (be (.ref a)))(hB:B a=o_)(hF:F a=o_)(r:Reps K F Lb p8):
  Kept B F0 F (upd H a (.lst p8))/\RepS K B F (upd H a (.lst p8)) (z.set i (be (.own Lb))) s:=by
 have Q6:∀ {G:Hp},G a=o_->Same G H->Same G (upd H a (.lst p8)):=λ{G} ga gs b o eb=>by
  have ne:b≠a:=λz=>by rw[z,ga] at eb;cases eb
  rw[aq ne];exact gs b o eb
 have r2:=rs.setOwn (i:=i) (a:=a) (vs:=p8) (ds:=Lb) hB hF r (λj dj hj e1 e2=>hj (rs.apart j i dj ds a e1 ez e2 q1));have es:s.set i (be (.ref a))=s:=by
  apply FC;intro n;by_cases hn:i=n
  .subst hn;rw[EM (Em.mp q1).1,q1]
  .rw[Et hn]
 rw[es] at r2;exact⟨⟨Q6 hB k.bh,Q6 hF k.fh,k.f0,k.out,k.eb,k.jf,k.jo⟩,r2⟩
def Reps.put{K:D6}{F:Hp}{d:D}{v:V}(r:Rep K F d v):∀ {ds:List D} {vs:List V} (j:Nat),Reps K F ds vs->Reps K F (ds.set j d) (vs.set j v)
 |[],vs,j,h=>by rw[reps_nil.mp h];exact reps_nil.mpr rfl
 |x::ds,vs,0,h=>by
  obtain⟨u,us,rfl,h1,h2⟩:=reps_cons.mp h;exact reps_cons.mpr ⟨v,us,rfl,r,h2⟩
 |x::ds,vs,j+1,h=>by
  obtain⟨u,us,rfl,h1,h2⟩:=reps_cons.mp h;exact reps_cons.mpr ⟨u,_,rfl,h1,Reps.put r j h2⟩
def qz(i:Nat)(te ti:TD):TSD:=λE z=>match z[i]? with
 |some (be (.own ds))=>te z λd=>ti z λy=>match y with| .int k=>∃ j,ixN ds.length k=be j/\E.nx (z.set i (be (.own (ds.set j d))))|_=>False
 |_=>False
def qA[Jx](i:Nat){x:y'}{p1 p2:P0}(he:WDE X e te)(hb:WDE X b tb)(hN:autoParam (X.N[i]?=be x) zA0)(hv:autoParam (Vis X.env.scope x) zA5)(hd:autoParam (zND x) zA1)
  (f8:autoParam (zNC x) zA1)
  (ha:∀ v,Qp (.Subscript (.Name x p1) b p2) X.env v=(do
   let ov <- Qh [v] (PX (.Name x p1) X.env)
   let iv <- Qh [v,ov] (PX b X.env)
   Qz p2
   Qh [v,ov,iv] (Q4 ov iv v)
   Rq [v,ov,iv] []):=by intro _;rfl)
  (hs:autoParam (Qi [.Subscript (.Name x p1) b p2] e pos.line X.env=pure false) zA0) (hw:autoParam (Qj [.Subscript (.Name x p1) b p2] e X.env=pure none) zA0)
  (h1:autoParam ((PU [.Subscript (.Name x p1) b p2] X.env).map (·.2)=[Qp (.Subscript (.Name x p1) b p2) X.env]) zA0):WDS X (.Assign [.Subscript (.Name x p1) b p2] e pos) (qz i te tb):=⟨have he:=he.out;have hb:=hb.out;(ja he (tX (cL hN hv hd f8) hb pw ha) hs hw h1).anti λE s H q=>by
 obtain⟨B,F0,F,z,k,rs,ED,h,e⟩:=q;unfold qz at h;split at h
 .rename_i ds ez;refine⟨B,F,z,k.kf,rs,_,h,λd v F1 H1 g1 hx rv=>?_⟩;obtain⟨a,vs,q1,q2,q3,q4,q5⟩:=(rs.grow g1).own i ds ez;refine⟨.ref a,q1,B,F1,z,k.kf.grow g1,rs.grow g1,_,hx,λy w F2 H2 g2 hy ry=>?_⟩;split at hy
  .obtain⟨j,ej,hn⟩:=hy;have r2:=(rs.grow g1).grow g2;have k2:=(k.grow g1).grow g2;have B_:F2 a=none:=g2.out a q4 (by rw[q2];exact λz=>nomatch z);refine⟨a,vs,_,j,rfl,rep_int.mp ry,g2.hh _ _ q2,by rw[q5.length];exact ej,?_⟩;obtain⟨k3,r3⟩:=r2.change k2 ez q1 q3 B_ (Reps.put (rv.mono g2.ff) j (q5.mono g2.ff));exact e.nx _ s F2 _ k3 hn r3
  .exact hy.elim
 .exact h.elim⟩
end
end My
namespace My
open Exc
abbrev XD:=y'->List (y' × D)->Prop
def ErrD(K:D6)(F:Hp)(x:y')(fs:List (y' × D))(C:KF)(od:Option KF):Prop:=
 nsIn K Pi x=be (be (.ref C))/\∃ vs,RepF K F fs vs/\((od=o_/\vs=[])\/∃ b,od=be b/\F b=be (.xd vs))
abbrev SpX:=List D->(D->Prop)->XD->Prop
def lSpX(K:D6)(S:SpX):Sp:=λvs H Q E=>∃ F ds,Same F H/\Reps K F ds vs/\∃ (R:D->Prop) (RX:XD),S ds R RX/\(∀ d v F' H',Grow F H F' H'->R d->Rep K F' d v->Q v H')/\
 ∀ x fs C od F' H',Grow F H F' H'->RX x fs->ErrD K F' x fs C od->E (.ref C) od H'
def Exd(X:Cx)(H:Hp)(s:KM)(e C:KF)(od:Option KF):Prop:=
  H e=o_/\X.s₀.heap.get? e=o_/\(∀ p∈X.pn,p.1≠e)/\
  ((∃ sl vs,s.heap.get? e=be ⟨.ref C,od,.fields vs,sl⟩/\vs[1]?=be .none)\/
    ∃ T,ExAt s.heap e C od T .none/\X.s₀.heap.get? T=o_/\H T=o_/\∀ p∈X.pn,p.1≠T)
def XOk(X:Cx)[J:Jx]:Prop:=∀ (σ:L2.St) (z:SD) (F H:Hp) (s:KM) (e C:KF) (od:Option KF) (x:y') (fs:List (y' × D)),Inv X [] σ H s->Kept J.B J.F0 F H->RepS X.K J.B F H z σ->J.RX z x fs->ErrD X.K F x fs C od->Exd X H s e C od->X.xe (.ref e) s
variable{X:Cx}{pins:List (KF × P7)}{σ:L2.St}{H:Hp}{s:KM}
def Inv.nopins(I:Inv X pins σ H s):Inv X [] σ H s:=I.pins_of λp hp=>by cases hp
section
variable {X:Cx}{k:Nat}{f:KF}{fd:PY}{ps:List y'}{sp:Sp}{E:XK}
def gE{pins:List (KF × P7)}{σ:L2.St}{H:Hp}{s:KM}{Q:VK}{us:List KB}{vs:List V}(F:FnOk X.prog X.w X.K X.mg X.base (CX1 X.prog X.w) k f fd ps sp)(hr:Room k X.A)(hb:Binds X.K fd ps [])
  (hx:∀ e s',CX1 X.prog X.w X.stack H s E e s'->X.xe e s') (I:Inv X pins σ H s) (r:Vals vs us) (h:sp vs H Q E):PN (PM X.prog X.w) X.A (call (.ref f) us) (EP X pins σ Q) X.xe s:=by
 have hl:us.length=ps.length:=by rw[<- L2.Vals.length r];exact F.len _ _ _ _ h
 have gt:=hb s us I.kIn (by rw[EI];exact hl);rw[EI] at gt;refine Qy (Qq (F.run X.A X.stack s H ⟨us,[]⟩ us vs Q E hr I.env0 gt r h) λr s' hq=>?_);cases r with
 |error e=>exact hx e s' hq
 |ok fl=>
  cases fl with
  |ret u=>exact I.after hq
  |next=>exact False.elim hq
  |brk=>exact False.elim hq
  |cont=>exact False.elim hq
end
variable{b:KF}
def cD(I:Inv X pins σ H s)(f6:X.ex=[])(q:s.heap.get? b=o_):X.s₀.heap.get? b=none:=by
 cases z:X.s₀.heap.get? b with
 |none=>rfl
 |some o=>
  obtain⟨o',z'⟩:=I.base.there b o z (by rw[f6];simp);rw[q] at z';cases z'
def pn_free(I:Inv X pins σ H s)(q:s.heap.get? b=o_):∀ p∈X.pn,p.1≠b:=λp hp z=>by
 have:=(I.pin p (EV _ hp)).1;rw[z,q] at this;cases this
def XOk.out[J:Jx](hx:XOk X)(f6:X.ex=[]){z:SD}{s':KM}{ev:KB}(I:Inv X pins σ H s)
  (h:CX1 X.prog X.w X.stack H s (λCv od H'=>∃ x fs C F',Cv= .ref C/\Kept J.B J.F0 F' H'/\RepS X.K J.B F' H' z σ/\J.RX z x fs/\ErrD X.K F' x fs C od) ev s'):X.xe ev s':=by
 obtain⟨e,C,od,T,H',rfl,y_,hb,un,hok,Ld,ne,nT,He,HT,x,fs,C',F',hC,kk,rr,hR,er⟩:=h;cases hC;have I':Inv X pins σ H' s':=I.call' y_ un hok hb (λb z=>absurd z (by simp));exact hx σ z F' H' s' e C od x fs (Inv.nopins I') kk rr hR er ⟨He,cD I f6 ne,pn_free I ne,.inr ⟨T,Ld,cD I f6 nT,HT,pn_free I nT⟩⟩
abbrev CalX(P:PH)(w:PP)(K:D6)(mg:y'->Option KB)(base:Heap)(n:Nat)(x:y')(ps:List y')(S:SpX):Prop:=Cal P w K mg base n x ps (lSpX K S)
def xK[J:Jx](S:SpX)(t:TDA):TD:=λz R=>t z λds=>S ds R (J.RX z)
variable{ps:List y'}{x:y'}
def qB[J:Jx]{pos:P0}{n m:Nat}{S:SpX}{p:P0}{e:PJ}{es:List PJ}{t:TDA}(C:CalX X.prog X.w X.K X.mg X.base n x ps S)(hx:XOk X)(hr:Room m X.A)(ha:WDA X (e::es) t)(f6:autoParam (X.ex=[]) zA0)(hg:autoParam (Gl X x) zA0)(hn:autoParam (n<=m) zA1)(d7:autoParam (zND x) zA1)
  (he:autoParam (zSE X e es) zA0) (c5:autoParam (zPL X pos es) zA0):WDE X (.Call (.Name x p) (e::es) [] pos) (xK S t):=⟨by
 have ha:=ha.out;obtain⟨f,fd,F,hb,hk,hm⟩:=C;intro pins s σ H Q I h;obtain⟨B,Fr,z,kf,rs,R,h1,h2⟩:=h;obtain rfl:B=J.B:=kf.eb;refine PZ (cB I hg hm ?_ d7);refine callWith_K (h₀:=X.base) I.ok.mod.kin hk (thn (ha pos pins s σ H (λvs H1=>lSpX X.K S vs H1 Q (λCv od H'=>∃ x fs C F',Cv= .ref C/\Kept J.B J.F0 F' H'/\RepS X.K J.B F' H' z σ/\J.RX z x fs/\ErrD X.K F' x fs C od)) I ⟨_,Fr,z,kf,rs,_,h1,λds vs F1 H1 g1 hx rx=>?_⟩) λus s1 ⟨vs,H1,I1,r,q⟩=>⟨I1.kIn,?_⟩) he c5
 .exact⟨F1,ds,g1.fh,rx,R,J.RX z,hx,λd v F' H' g=>h2 d v F' H' (g1.trans g),λx fs C od F' H' g hR er=>⟨x,fs,C,F',rfl,(kf.grow g1).grow g,(rs.grow g1).grow g,hR,er⟩⟩
 .exact gE F (hr.mono hn) hb (λe s' hq=>hx.out f6 I1 hq) I1 r q⟩
section
variable {P:PH}{w:PP}{K:D6}{mg:y'->Option KB}{base:Heap}
variable{N:List y'}
def qC{qual:y'}{scope:Qf}{f:KF}{cd:KB}{A:PQ}{outer:List Qs}{s:KM}{H:Hp}{E':XK}{pins:List (KF × P7)}{σ:L2.St}{H':Hp}{s':KM}{e C T:KF}{od:Option KF}
  (I':Inv (cxOf (CX1 P w) P w K mg base N qual scope f cd A outer s H E') pins σ H' s') (hx:ExAt s'.heap e C od T .none) (ne:s.heap.get? e=o_) (nT:s.heap.get? T=o_) (He:H' e=o_) (HT:H' T=o_) (hE:E' (.ref C) od H'):
  (cxOf (CX1 P w) P w K mg base N qual scope f cd A outer s H E').xe (.ref e) s':=by
 show PN _ _ (Q7 _ _) _ _ _;unfold Q7;refine Os (wA I'.ok.frames I'.stack rfl hx λh2 T2 Jb Jc HQ=>pI (s:={s' with heap:=h2}) Jb λh3 KW Hy=>?_);have Jd:s'.heap.get? T2=none:=Heap.get?_none_of_le Jc;have f1:∀ b,s'.heap.get? b=o_->s.heap.get? b=none:=λb q=>cD I' rfl q;have hok:HOk P w H' s'.heap:=I'.hok;have Je:H' T2=none:=hok.fresh Jc;have N_:∀ b∈[T,e],s.heap.get? b=none:=λb hb=>by
  rcases Ea.mp hb with z|z
  .rw[z];exact nT
  .rw[D8.mp z];exact ne
 have u2:Un (frs outer) [] H H' s.heap h2:=gu (show Un (frs outer) [] H H' s.heap s'.heap from I'.base) HQ N_ λb hb=>pJ hb;have u3:Un (frs outer) [] H H' s.heap h3:=gu u2 Hy (λb hb=>by rw[D8.mp hb];exact f1 T2 Jd) λb hb=>by cases hb
 have k2:=gq hok HQ (λb hb=>I'.stkFree b hb) (λb hb=>by
  rcases Ea.mp hb with z|z
  .rw[z];exact HT
  .rw[D8.mp z];exact He)
 have k3:=gq k2 Hy (λb hb=>by cases hb) (λb hb=>by rw[D8.mp hb];exact Je);exact⟨e,C,od,T2,H',rfl,I'.os,I'.bare,u3,k3,KW,ne,f1 T2 Jd,He,Je,hE⟩
variable{ps:List y'}
def _root_.L2.Fun.okX{x:y'}{st:PL}{f:KF}{fd:PY}{k:Nat}{S:SpX}(T:Fun K x x st f fd)(F:FnScope N ps (ag st))(len:∀ ds R RX,S ds R RX->ds.length=ps.length)
  (a9:∀ (cdv:KB) (A:PQ) (outer:List Qs) (s:KM) (H:Hp) (E:XK) (J:Jx),Room k (A.deeper (P2 x (ag st) s.heap.objs.size f cdv))->XOk (cxOf (CX1 P w) P w K mg base N x (ag st) f cdv A outer s H E)->
   ∃ t,DSs (cxOf (CX1 P w) P w K mg base N x (ag st) f cdv A outer s H E) (aI st) t/\∀ ds R RX,(∀ z,J.RX z=RX)->S ds R RX->t {nx:=λ_=>R .non,rt:=R} (startD N ds)):FnOk P w K mg base (CX1 P w) (k+1) f fd ps (lSpX K S):=by
 refine Fun.okC T F (λvs H Q E h=>?_) (λcdv A outer s H vs Q E hr h=>?_)
 .obtain⟨F,ds,fh,rs,R,RX,h,_⟩:=h;rw[rs.length];exact len ds R RX h
 .obtain⟨F,ds,fh,rs,R,RX,h,q,qx⟩:=h
  letI:Jx:=⟨H,F,λ_=>RX⟩
  have hx:XOk (cxOf (CX1 P w) P w K mg base N x (ag st) f cdv A outer s H E):=by
   intro σ z F' H' s' e C od y fs I kk rr hR er ⟨He,ne,_,hx⟩;have hE:E (.ref C) od H':=qx y fs C od F' H' ⟨kk.f0,kk.fh,kk.bh,kk.out⟩ hR er;rcases hx with⟨sl,vs,h1,h2⟩|⟨T,h1,h2,h3,_⟩
   .exact pK I h1 h2 He ne hE
   .exact qC I h1 ne h2 He h3 hE
  obtain⟨t,ht,hq⟩:=a9 cdv A outer s H E inferInstance hr hx;refine⟨_,ht,H,F,F,startD N ds,⟨Same.refl H,fh,Same.refl F,λ_ h _=>h,rfl,Same.refl F,λ_ h _=>h⟩,dX rs,_,hq ds R RX (λ_=>rfl) h,⟨λz' s' F' H' k hn _=>q _ _ F' H' ⟨k.f0,k.fh,k.bh,k.out⟩ hn (rep_non.mpr rfl),λd v F' H' k hd rd=>q d v F' H' ⟨k.f0,k.fh,k.bh,k.out⟩ hd rd,λ_ _ _ _ _ h _=>h.elim,λ_ _ _ _ _ h _=>h.elim⟩⟩
def Tx.okX{x:y'}{st:PL}{k:Nat}{S:SpX}(T:Tx K mg x st ps)(F:FnScope N ps (ag st))(len:∀ ds R RX,S ds R RX->ds.length=ps.length)
  (a9:∀ (f:KF) (cdv:KB) (A:PQ) (outer:List Qs) (s:KM) (H:Hp) (E:XK) (J:Jx),Room k (A.deeper (P2 x (ag st) s.heap.objs.size f cdv))->XOk (cxOf (CX1 P w) P w K mg base N x (ag st) f cdv A outer s H E)->
   ∃ t,DSs (cxOf (CX1 P w) P w K mg base N x (ag st) f cdv A outer s H E) (aI st) t/\∀ ds R RX,(∀ z,J.RX z=RX)->S ds R RX->t {nx:=λ_=>R .non,rt:=R} (startD N ds)):CalX P w K mg base (k+1) x ps S:=by
 obtain⟨f,fd,T,hb,hm⟩:=T;exact⟨f,fd,T.okX F len λcdv A outer s H E J hr hx=>a9 f cdv A outer s H E J hr hx,hb,T.kp,hm⟩
end
variable{P:PH}{w:PP}{h:Heap}
def ObjOk.there{a:KF}{o:HO}(x:ObjOk P w H h a o):∃ u,h.get? a=be u:=by
 cases o with
 |lst xs=>obtain⟨_,_,_,_,e⟩:=x;exact⟨_,e⟩
 |tup xs=>obtain⟨_,_,_,o,e,_⟩:=x;exact⟨_,e⟩
 |dK a8=>obtain⟨_,_,_,_,o,_,_,e,_⟩:=x;exact⟨_,e⟩
 |dT a8=>obtain⟨_,_,_,_,o,_,_,e,_⟩:=x;exact⟨_,e⟩
 |set S n=>obtain⟨o,_,_,_,e,_⟩:=x;exact⟨_,e⟩
 |ins C dx fs=>obtain⟨_,_,_,e,_⟩:=x;exact⟨_,e⟩
 |own y=>exact x
 |xd fs=>obtain⟨_,⟨_,_,_,e,_⟩,_⟩:=x;exact⟨_,e⟩
 |rng lo hi=>obtain⟨_,_,_,e⟩:=x;exact⟨_,e⟩
 |frz ob u=>obtain⟨e,_⟩:=x;exact⟨_,e⟩
 |tbl ps=>exact⟨_,(show h.get? a=be _ from x)⟩
 |met f y=>exact⟨_,(show h.get? a=be _ from x)⟩
 |ext φ=>obtain⟨_,e,_⟩:=x;exact e
def gG{a:KF}(x:HOk P w H h)(e:h.get? a=o_):H a=none:=by
 cases q:H a with
 |none=>rfl
 |some o=>
  obtain⟨u,hu⟩:=ObjOk.there (x a o q);rw[e] at hu;cases hu
def del(H:Hp)(a:KF):Hp:=λb=>if b=a then o_ else H b
def fJ{a:KF}:del H a a=none:=by unfold del;rw[if_pos rfl]
def bX{a:KF}(h:b≠a):del H a b=H b:=by unfold del;rw[if_neg h]
section
variable {X:Cx}{pins:List (KF × P7)}{σ:L2.St}{H:Hp}{s:KM}{e:KF}
variable{φ:Heap->Prop}
def Inv.drop(I:Inv X pins σ H s)(h:H e=be (.ext φ))(ne:X.s₀.heap.get? e=o_):Inv X pins σ (del H e) s:=by
 have nx:∀ b o,H b=be o->(∀ φ,o≠.ext φ)->b≠e:=λb o q n z=>by rw[z,h] at q;cases q;exact n φ rfl
 refine⟨I.ok,I.os,I.bare,⟨I.base.keep,I.base.slot,λb o q n hx=>?_,I.base.there,λb xs q=>?_,λb o u q=>?_,λb ps q=>?_⟩,I.loc,I.cell,?_,λx c q=>?_,λp hp=>?_,λa o q=>?_,I.len⟩
 .have:b≠e:=λz=>by rw[z,ne] at q;cases q
  rw[bX this];exact I.base.free b o q n hx
 .have:=I.base.tups b xs q;rw[bX (nx b _ this λφ z=>nomatch z)];exact this
 .have:=I.base.frzs b o u q;rw[bX (nx b _ this λφ z=>nomatch z)];exact this
 .obtain⟨m,this⟩:=I.base.tbls b ps q;exact⟨m,by rw[bX (nx b _ this λφ z=>nomatch z)];exact this⟩
 .by_cases z:X.env.locals=e
  .rw[z];exact fJ
  .rw[bX z];exact I.free
 .by_cases z:c=e
  .rw[z];exact fJ
  .rw[bX z];exact I.freeC x c q
 .obtain⟨h1,h2,h3⟩:=I.pin p hp;refine⟨h1,?_,h3⟩;by_cases z:p.1=e
  .rw[z];exact fJ
  .rw[bX z];exact h2
 .by_cases z:a=e
  .rw[z,fJ] at q;cases q
  .rw[bX z] at q;exact(I.hok a o q).stay (λb u _ r=>r) (λb r=>by rw[bX (nx b _ r λφ z=>nomatch z)];exact r) λb xs r=>by rw[bX (nx b _ r λφ z=>nomatch z)];exact r
def Inv.adopt(I:Inv X pins σ H s)(He:H e=o_)(ok:ObjOk X.prog X.w H s.heap e (.ext φ))(ne:X.s₀.heap.get? e=o_)(hl:e≠X.env.locals)(hc:∀ x c,X.env.cells.lookup x=be c->c≠e)(hp:∀ p∈X.pn++pins,p.1≠e):Inv X pins σ (upd H e (.ext φ)) s:=by
 refine⟨I.ok,I.os,I.bare,⟨I.base.keep,I.base.slot,λb o q n hx=>?_,I.base.there,λb xs q=>?_,λb o u q=>?_,λb ps q=>?_⟩,I.loc,I.cell,?_,λx c q=>?_,λp Le=>?_,λa o q=>?_,I.len⟩
 .have:b≠e:=λz=>by rw[z,ne] at q;cases q
  rw[aq this];exact I.base.free b o q n hx
 .have:=I.base.tups b xs q;rw[aq (bL this He)];exact this
 .have:=I.base.frzs b o u q;rw[aq (bL this He)];exact this
 .obtain⟨m,this⟩:=I.base.tbls b ps q;exact⟨m,by rw[aq (bL this He)];exact this⟩
 .rw[aq (Ne.symm hl)];exact I.free
 .rw[aq (hc x c q)];exact I.freeC x c q
 .obtain⟨h1,h2,h3⟩:=I.pin p Le;refine⟨h1,?_,h3⟩;rw[aq (hp p Le)];exact h2
 .by_cases z:a=e
  .rw[z,ax] at q;cases q;rw[z];exact ok
  .rw[aq z] at q;exact(I.hok a o q).stay (λb u _ r=>r) (λb r=>by rw[aq (bL r He)];exact r) λb xs r=>by rw[aq (bL r He)];exact r
end
structure ErrK(K:D6)(mg:Str->Option KB)(x:Str)(C N:KF)(bm:List KB):Prop where
 ns:nsIn K Pi x=be (be (.ref C))
 mg:mg x=be (.ref C)
 kp:keepIn K (.ref C)=true
 obj:∃ nm q bs sn sub ab col dd k0 k1 k2 k3 k5,K.lookup C=be (Qb nm q C N bs bm true sn sub ab col dd k0 k1 k2 k3 k5 "ValueError.__new__")
 tail:tailIn K veLine bm=true
structure ErrN(K:D6)(N:KF):Prop where
 ok:nsOkIn K N=true
 no:nsIn K N "__init__"=be o_
def jD{K:D6}:∀ {l:List KB},tailIn K veLine l=true->aO l=true
 |[],e=>by simp[tailIn,veLine] at e
 |v::r,e=>by
  unfold tailIn at e;rcases Bool.or_eq_true_iff.mp e with q|q
  .rw[beq_iff_eq.mp q];decide+kernel
  .split at q
   .split at q
    .simp only[Ew,beq_iff_eq] at q;unfold aO;exact jD q.2
    .cases q
   .cases q
variable{K:D6}{mg:y'->Option KB}{C N:KF}{bm:List KB}
def ErrK.base(k:ErrK K mg x C N bm):bm.contains (.type "BaseException")=true:=gp (by decide+kernel) (jD k.tail)
section
variable {X:Cx}[J:Jx]{x:y'}{C N:KF}{bm:List KB}{e:PJ}{es:List PJ}{t:TDA}{p cpos pos:P0}
def xL(x:y')(t:TDA):TSD:=λ_ z=>t z λds=>ds.length<=1000/\J.RX z x []
def xM(h:∃ C N bm,ErrK X.K X.mg x C N bm/\ErrN X.K N)(hx:XOk X)(hc:X.calm=true)(ha:WDA X (e::es) t)(f6:autoParam (X.ex=[]) zA0)(hg:autoParam (Gl X x) zA0)(d7:autoParam (zND x) zA1)
  (he:autoParam (zSE X e es) zA0) (c5:autoParam (zPL X cpos es) zA0):WDS X (.Raise (be (.Call (.Name x p) (e::es) [] cpos)) o_ pos) (xL x t):=⟨by
 have ha:=ha.out;obtain⟨C,N,bm,k,kn⟩:=h;intro pins s σ H D I h;obtain⟨B,F0,F,z,kf,rs,ED,h,ee⟩:=h;obtain rfl:B=J.B:=kf.eb;obtain⟨nm,q,bs,sn,sub,ab,col,dd,k0,k1,k2,k3,k5,lk⟩:=k.obj;refine jn (nm:=nm) (q:=q) (C:=C) (N:=N) (bs:=bs) (bm:=bm) (hdct:=true) (sn:=sn) (sub:=sub) (ab:=ab) (col:=col) (dd:=dd) (k0:=k0) (k1:=k1) (k2:=k2) (k3:=k3) (k5:=k5) (newId:="ValueError.__new__") k.base (I.ok.hd hc) ?_;refine PZ (cB I hg k.mg ?_ d7);refine callWith_K (h₀:=X.base) I.ok.mod.kin k.kp (thn (ha cpos pins s σ H (λvs H1=>∃ F1,vs.length<=1000/\Grow F H F1 H1/\J.RX z x []) I ⟨_,F,z,kf.kf,rs,_,h,λds vs F1 H1 g1 hx rx=>⟨F1,by rw[rx.length];exact hx.1,g1,hx.2⟩⟩) λus s1 hh=>⟨hh.elim λ_ h=>h.elim λ_ h=>h.1.kIn,?_⟩) he c5;obtain⟨vs,H1,I1,r,F1,hl,g1,hR⟩:=hh;have hC:=I1.kIn _ _ lk;obtain⟨hp,gg,dr,tk,os⟩:=s1;refine Rh PySem.F.excBase_ValueError (tail_of_in I1.kIn k.tail) hC (.of_isNs (isNs_of_in I1.kIn kn.ok)) (nsMap_none_of_in I1.kIn kn.ok kn.no) (λh' ea hm=>?_) (by show us.length<=_;rw[<- L2.Vals.length r];exact sz hl);obtain⟨ta,h1,h2,h3⟩:=hm.there;have I2:Inv X pins σ H1 ⟨h',gg,dr,tk,os⟩:=I1.kept (t':=tk) hm.keeps;refine⟨ea,ta,o_,#[],rfl,hm.keeps _ _ hC,h1,?_⟩;exact hx σ z F1 H1 _ ea C o_ x [] (Inv.nopins I2) (kf.kf.grow g1) (rs.grow g1) hR ⟨k.ns,[],repf_nil.mpr rfl,.inl ⟨rfl,rfl⟩⟩ ⟨gG I1.hok hm.new,cD I1 f6 hm.new,pn_free I1 hm.new,.inl ⟨#[],_,h1,rfl⟩⟩⟩
end
def XN(e C:KF)(od:Option KF):HO:= .ext λh=>∃ t sl,h.get? e=be ⟨.ref C,od,.fields #[.ref t,.none,.none,.none,.bool false,.none],sl⟩
variable{od:Option KF}{sl:Array (Option KB)}
def XN.ok{e t:KF}(q:h.get? e=be ⟨.ref C,od,.fields #[.ref t,.none,.none,.none,.bool false,.none],sl⟩):ObjOk P w H h e (XN e C od):=
 ⟨⟨t,sl,q⟩,⟨_,q⟩,λh1 h2 ⟨t,sl,q⟩ k=>⟨t,sl,k _ q⟩⟩
def XN.get{e:KF}(x:HOk P w H h)(q:H e=be (XN e C od)):∃ t sl,h.get? e=be ⟨.ref C,od,.fields #[.ref t,.none,.none,.none,.bool false,.none],sl⟩:=(x e _ q).1
def ErrF(K:D6)(F:Hp)(fs:List (y' × D))(od:Option KF):Prop:=∃ vs,RepF K F fs vs/\((od=o_/\vs=[])\/∃ b,od=be b/\F b=be (.xd vs))
def lEi(K:D6)(C:KF)(S:SiD):Sp:=λvs H Q _=>∃ e us H1 F ds,vs= .ref e::us/\H=upd H1 e (XN e C o_)/\H1 e=o_/\Same F H1/\Reps K F ds us/\
 ∃ R:List (y' × D)->Prop,S ds R/\∀ fs od F' H',Grow F H1 F' H'->R fs->H' e=be (XN e C od)->F' e=o_->ErrF K F' fs od->Q .non H'
def CalE(P:PH)(w:PP)(K:D6)(mg:y'->Option KB)(base:Heap)(n:Nat)(x:y')(ps:List y')(S:SiD):Prop:=
 ∃ C N bm f fd,ErrK K mg x C N bm/\Ee K (.ref C) "__init__"=be (be (.ref f))/\isFn K (.ref f)=true/\FnOk P w K mg base (CX1 P w) n f fd ps (lEi K C S)/\Binds K fd ps []
section
variable {X:Cx}{pins:List (KF × P7)}{σ:L2.St}{H:Hp}{s:KM}{e:KF}
def Inv.newx{C:KF}{h':Heap}{us:List KB}(I:Inv X pins σ H s)(f6:X.ex=[])(hm:Heap.MadeExcOf s.heap h' e (.ref C) us):Inv X pins σ (upd H e (XN e C o_)) {s with heap:=h'}:=by
 obtain⟨ta,h1,h2,h3⟩:=hm.there;have I2:Inv X pins σ H {s with heap:=h'}:=I.kept (t':=s.toks) hm.keeps;refine Inv.adopt I2 (gG I.hok hm.new) (XN.ok h1) (cD I f6 hm.new) (λz=>?_) (λx c q z=>?_) λp hp z=>?_
 .obtain⟨m,⟨o,_,_,ho,_⟩,_⟩:=I.loc;rw[<- z,hm.new] at ho;cases ho
 .obtain⟨v,o,ho,_⟩:=I.cell x c q;rw[z,hm.new] at ho;cases ho
 .have:=(I.pin p hp).1;rw[z,hm.new] at this;cases this
end
structure BaseK(K:D6)(mg:Str->Option KB)(y:Str)(M:KF):Prop where
 mg:mg y=be (.ref M)
 rd:readsIn K M (.type "type")=true
 fc:findCls K (.ref M) (.type "type") "__init__"=be (.val (.builtin "ValueError.__init__"))
 sp:specialIn K (.ref M) "__getattribute__"=be (be (.builtin "type.__getattribute__"))
structure ErrA(K:D6)(x:Str)(C:KF)(cd:ClassData):Prop where
 ns:nsIn K Pi x=be (be (.ref C))
 cl:Gc K C=be cd
 mro:aO cd.mro=true
 hd:cd.hasDict=true
 sa:Ee K (.ref C) "__setattr__"=be (be (.builtin "object.__setattr__"))
def ErrK.a(k:ErrK K mg x C N bm)(sa:Ee K (.ref C) "__setattr__"=be (be (.builtin "object.__setattr__"))):∃ cd,ErrA K x C cd:=by
 obtain⟨nm,q,bs,sn,sub,ab,col,dd,k0,k1,k2,k3,k5,lk⟩:=k.obj;exact⟨_,k.ns,by unfold Gc;rw[lk],by
  show aO (.ref C::bm)=true;unfold aO;exact jD k.tail,rfl,sa⟩
def lX(K:D6)[J:Jx](x:y')(t:TID):TS:=λE σ H=>∃ C e od ws F z fs,nsIn K Pi x=be (be (.ref C))/\σ[0]?=be (be (.ref e))/\H e=be (XN e C od)/\J.B e=o_/\F e=o_/\Kept J.B J.F0 F H/\RepS K J.B F H z σ/\RepF K F fs ws/\
 ((od=o_/\ws=[])\/∃ b,od=be b/\H b=be (.xd ws)/\J.B b=o_/\F b=o_/\b≠e/\ws≠[])/\
 ∃ R:List (y' × D)->Prop,t z fs R/\∀ n_ Ka F' H',Kept J.B J.F0 F' H'->R n_->H' e=be (XN e C Ka)->F' e=o_->ErrF K F' n_ Ka->E.nx σ H'
abbrev DX(X:Cx)[Jx](x:y')(st:List PL)(t:TID):Prop:=PSs X st (lX X.K x t)
structure WDX(X:Cx)[Jx](x:Str)(st:List PL)(t:TID):Prop where
 out:DX X x st t
def qD{a:KF}{o:HO}(h:H a=be o):upd H a o=H:=by
 funext b;unfold upd;by_cases q:b=a
 .rw[if_pos q,q,h]
 .rw[if_neg q]
section
variable {X:Cx}[J:Jx]{x f:y'}{e:PJ}{te:TD}{ta:TDA}{pos c9 p:P0}{rest:List PL}{tr:TID}
def qE:WDX X x [] qw:=⟨pss_nil.anti λE s H q=>by
 obtain⟨C,a,od,ws,F,z,fs,hn,h0,f7,hB,i9,k,rs,rf,hd,R,hR,kk⟩:=q;rcases hd with⟨rfl,rfl⟩|⟨b,rfl,hb,Kb,Kc,ne,_⟩
 .exact kk fs o_ F H k hR f7 i9 ⟨[],rf,.inl ⟨rfl,rfl⟩⟩
 .have s1:Same F (upd F b (.xd ws)):=aQ Kc _;refine kk fs (be b) (upd F b (.xd ws)) H ⟨k.bh,λc o q=>?_,k.f0.trans s1,λc h1 h2=>?_,k.eb,k.jf,k.jo⟩ hR f7 (by rw[aq (Ne.symm ne)];exact i9) ⟨ws,RepF.mono s1 fs ws rf,.inr ⟨b,rfl,ax⟩⟩
  .by_cases hc:c=b
   .subst hc;rw[ax] at q;cases q;exact hb
   .rw[aq hc] at q;exact k.fh c o q
  .have:c≠b:=λz=>h2 (z ▸ Kb);rw[aq this];exact k.out c h1 h2⟩
def xN(ta:TDA)(tr:TID):TID:=λz fs R=>ta z λds=>ds.length<=1000/\tr z fs R
def qF{y sx:y'}{ps py apos cpos:P0}{es:List PJ}{pl:Q_ Bool}(hb:∃ M,BaseK X.K X.mg y M)(hA:∃ C cd,ErrA X.K x C cd)(ha:WDA X es ta)(hr:WDX X x rest tr)(hg:autoParam (Gl X y) zA0)(hN:autoParam (X.N[0]?=be sx) zA0)(hv:autoParam (Vis X.env.scope sx) zA5)(hd:autoParam (zND sx) zA1)
  (f8:autoParam (zNC sx) zA1) (Oa:autoParam (zND y) zA1)
  (he:autoParam (PR (.Name sx ps::es) X.env=(false,PX (.Name sx ps) X.env)::PR es X.env) zA0) (c5:autoParam (zPL X cpos es) zA0)
  (ht:PX (.Call (.Attribute (.Name y py) "__init__" apos) (.Name sx ps::es) [] cpos) X.env=(do
   let ov <- PX (.Name y py) X.env
   Qz apos.atName
   let (f,first) <- Qh [ov] (QP ov "__init__" pl)
   callWith cpos f first (Qo cpos (PR (.Name sx ps::es) X.env)) (QH cpos (Qm [] X.env))):=by rfl)
  (hs:autoParam (P4 (.Call (.Attribute (.Name y py) "__init__" apos) (.Name sx ps::es) [] cpos) o_ pos.line X.env=pure false) zA0):WDX X x (.Expr (.Call (.Attribute (.Name y py) "__init__" apos) (.Name sx ps::es) [] cpos) pos::rest) (xN ta tr):=⟨by
 have ha:=ha.out;have hr:=hr.out;obtain⟨M,bk⟩:=hb;obtain⟨C,cd,er⟩:=hA;have step:PS X (.Expr (.Call (.Attribute (.Name y py) "__init__" apos) (.Name sx ps::es) [] cpos) pos) (λE σ H=>∃ C' e od,nsIn X.K Pi x=be (be (.ref C'))/\σ[0]?=be (be (.ref e))/\
   lA X.K ta σ H (λvs H1=>H1 e=be (XN e C' od)/\vs.length<=1000/\E.nx σ H1)):=by
  intro pins s σ H D I h;obtain⟨C',ea,od,hn,h0,h⟩:=h;rw[er.ns] at hn;cases hn;refine wpAny_Expr_any (methodCall_KW (pl:=pl) (cB I hg bk.mg ?_ Oa) ht) I.quiet hs;refine method_cls I.kIn bk.sp (cls_value I.kIn bk.rd bk.fc (by decide+kernel) ?_);have I0:Inv X pins σ H {s with toks:=s.toks+1}:=I.tok _;obtain⟨B,F,z,kf,rs,R,h1,h2⟩:=h;refine PyProof.Rows.callWith_builtin1 (thn (bw (cL (i:=0) hN hv hd f8) ha he cpos pins _ σ H (λvs H1=>∃ us,vs= .ref ea::us/\H1 ea=be (XN ea C od)/\us.length<=1000/\D.nx σ H1) I0 ⟨.ref ea,h0,⟨B,F,z,kf,rs,R,h1,λds vs F' H' g hx rx=>⟨vs,rfl,h2 ds vs F' H' g hx rx⟩⟩⟩) λus s1 hh=>?_) he c5;obtain⟨vs,H1,I1,r,Ob,ev,v4,hl,Jq⟩:=hh;subst ev;cases r with
  |cons r1 r2=>
   rename_i u0 Pe;obtain rfl:u0=Value.ref ea:=r1;obtain⟨t0,sl,n5⟩:=XN.get I1.hok v4;refine wv (K:=X.K) (C:=C) (cd:=cd) I1.kIn n5 rfl rfl er.cl er.mro (by rw[<- L2.Vals.length r2];exact sz hl) λh' g1 g2=>?_;refine⟨σ,H1,?_,Jq⟩;have w:=I1.write (x:=ea) (e:=ea) (o:=XN ea C od) (h':=h') (t':=s1.toks) (by rw[v4];exact True.intro) (.inl rfl) (λb u hb q=>g2 b u hb q) ⟨_,g1⟩ (XN.ok g1);rw[qD v4] at w;exact w
 refine(fo step hr).anti λE s H q=>?_;obtain⟨C',a,od,ws,F,z,fs,hn,h0,f7,hB,i9,k,rs,rf,j3,R,hR,kk⟩:=q;refine⟨C',a,od,hn,h0,_,F,z,k,rs,_,hR,λds vs F1 H1 g hx rx=>⟨g.hh a _ f7,by rw[rx.length];exact hx.1,?_⟩⟩;refine⟨C',a,od,ws,F1,z,fs,hn,h0,g.hh a _ f7,hB,g.out a i9 (by rw[f7];exact λz=>nomatch z),k.grow g,rs.grow g,RepF.mono g.ff fs ws rf,?_,R,hx.2,kk⟩;rcases j3 with j3|⟨b,h1,h2,h3,h4,h5⟩
 .exact .inl j3
 .exact .inr ⟨b,h1,g.hh b _ h2,h3,g.out b h4 (by rw[h2];exact λz=>nomatch z),h5⟩⟩
def xO(f:y')(te:TD)(tr:TID):TID:=λz fs R=>fs=[]/\te z λd=>tr z [(f,d)] R
def qG{sx:y'}{ps:P0}(hA:∃ C cd,ErrA X.K x C cd)(hf:∀ C,nsIn X.K Pi x=be (be (.ref C))->Ee X.K (.ref C) f=be o_)(he:WDE X e te)(hr:WDX X x rest tr)(hN:autoParam (X.N[0]?=be sx) zA0)(hv:autoParam (Vis X.env.scope sx) zA5)(hd:autoParam (zND sx) zA1)
  (f8:autoParam (zNC sx) zA1) (hs:autoParam (P4 e (be (.Attribute (.Name sx ps) f c9)) pos.line X.env=pure false) zA0):WDX X x (.Assign [.Attribute (.Name sx ps) f c9] e pos::rest) (xO f te tr):=⟨by
 have he:=he.out;have hr:=hr.out;obtain⟨C,cd,er⟩:=hA;have Jr:=hf C er.ns;have step:PS X (.Assign [.Attribute (.Name sx ps) f c9] e pos) (λE σ H=>∃ e,σ[0]?=be (be (.ref e))/\
   lE X.K te σ H (λv H1=>H1 e=be (XN e C o_)/\∀ b,H1 b=o_->b≠e->E.nx σ (upd (upd H1 b (.xd [(f,v)])) e (XN e C (be b))))):=by
  intro pins s σ H D I h;obtain⟨ea,h0,h⟩:=h;refine QN (thn (he pins s σ H _ I h) λu s1 ⟨y,H1,I1,ry,v4,Jq⟩=>thn (cL (i:=0) hN hv hd f8 pins s1 σ H1 (λv H'=>v= .ref ea/\H'=H1) I1 ⟨.ref ea,h0,rfl,rfl⟩) λov s2 hh=>?_) hs;obtain⟨v0,H2,I2,r0,e1,e2⟩:=hh;subst e1 e2;obtain rfl:ov=Value.ref ea:=r0;obtain⟨t0,sl,n5⟩:=XN.get I2.hok v4;refine wu (K:=X.K) (C:=C) (cd:=cd) I2.kIn n5 rfl rfl rfl er.cl er.mro er.hd er.sa Jr λh' g1 g2 g3 tk=>?_;have z8:H2 s2.heap.objs.size=none:=I2.hok.fresh (D7 _);have j8:s2.heap.objs.size≠ea:=E8 (Heap.lt_size n5);have Lf:∀ b o,s2.heap.get? b=be o->b≠s2.heap.objs.size:=λb o q=>Eh (Heap.lt_size q);have Lg:∀ b,H2 b=o_->b≠ea:=λb q z=>by rw[z,v4] at q;cases q
  refine⟨σ,_,?_,Jq _ z8 j8⟩;have Js:∀ b o,H2 b=be o->(∀ φ,o≠.ext φ)->upd (upd H2 s2.heap.objs.size (.xd [(f,y)])) ea (XN ea C (be s2.heap.objs.size)) b=be o:=λb o q n=>by
   have n1:b≠ea:=λz=>by rw[z,v4] at q;cases q;exact n _ rfl
   rw[aq n1,aq (bL q z8)];exact q
  refine I2.un (h':=h') (t':=tk) ⟨λb o q n _ _=>g3 b o (Lg b n) q,λb o q n _ _=>⟨o.slots,g3 b o (Lg b n) q⟩,λb o q n _=>?_,λb o q _=>?_,λb xs q=>Js b _ q (λφ z=>nomatch z),λb o u q=>Js b _ q (λφ z=>nomatch z),λb ps q=>⟨#[],by rw[Js b _ q (λφ z=>nomatch z)];simp⟩⟩ λa o q=>?_
  .rw[aq (Lg b n),aq (Lf b o q)];exact n
  .by_cases hb:b=ea
   .rw[hb];exact⟨_,g1⟩
   .exact⟨o,g3 b o hb q⟩
  .by_cases ha:a=ea
   .subst ha;rw[ax] at q;cases q;exact XN.ok g1
   .rw[aq ha] at q;by_cases hb:a=s2.heap.objs.size
    .subst hb;rw[ax] at q;cases q;refine⟨_,g2,λg=>?_⟩;rw[Er];by_cases hg:g=f
     .subst hg;simp;exact ry
     .have:(g==f)=false:=by simpa using hg
      rw[this,if_neg hg];exact True.intro
    .rw[aq hb] at q;refine(I2.hok a o q).stay (λb u gt r=>?_) (λb r=>Js b _ r (λφ z=>nomatch z)) λb xs r=>Js b _ r (λφ z=>nomatch z);refine g3 b u (λz=>?_) r;rcases gt with e1|e1
     .exact ha (e1 ▸ z)
     .rw[z,v4] at e1;cases e1
 refine(fo step hr).anti λE s H q=>?_;obtain⟨C',a,od,ws,F,z,fs,hn,h0,f7,hB,i9,k,rs,rf,j3,R,⟨rfl,hR⟩,kk⟩:=q;rw[er.ns] at hn;cases hn;have Oc:ws=[]:=repf_nil.mp rf;subst Oc;refine⟨a,h0,_,F,z,k,rs,_,hR,λd v F1 H1 g hx rv=>?_⟩;have Jt:F1 a=none:=g.out a i9 (by rw[f7];exact λz=>nomatch z);have k1:=k.grow g;rcases j3 with⟨rfl,_⟩|⟨b,rfl,h1,h2,h3,h4⟩
 .refine⟨g.hh a _ f7,λb hb j8=>?_⟩;have Kb:J.B b=none:=k1.bh.free hb;have Kc:F1 b=none:=k1.fh.free hb;have Q6:∀ {G:Hp},G a=o_->G b=o_->Same G H1->Same G (upd (upd H1 b (.xd [(f,v)])) a (XN a C (be b))):=λ{G} ga gb gs c o q=>by
   have n1:c≠a:=λz=>by rw[z,ga] at q;cases q
   have n2:c≠b:=λz=>by rw[z,gb] at q;cases q
   rw[aq n1,aq n2];exact gs c o q
  have t6:=rs.grow g;refine⟨C,a,be b,[(f,v)],F1,z,[(f,d)],er.ns,h0,ax,hB,Jt,⟨Q6 hB Kb k1.bh,Q6 Jt Kc k1.fh,k1.f0,k1.out,k1.eb,k1.jf,k1.jo⟩,?_,repf_cons.mpr ⟨v,[],rfl,rv,repf_nil.mpr rfl⟩,.inr ⟨b,rfl,by rw[aq j8];exact ax,Kb,Kc,j8,λz=>nomatch z⟩,R,hx,kk⟩;refine⟨t6.len,t6.val,λi ds e'=>?_,t6.apart⟩;obtain⟨c,vs,q1,q2,q⟩:=t6.own i ds e';have n1:c≠a:=λz=>by rw[z,g.hh a _ f7] at q2;cases q2
  have n2:c≠b:=λz=>by rw[z,hb] at q2;cases q2
  exact⟨c,vs,q1,by rw[aq n1,aq n2];exact q2,q⟩
 .exact absurd rfl h4.2⟩
end
section
variable {P:PH}{w:PP}{K:D6}{mg:y'->Option KB}{base:Heap}
def Cls.okE{x qual:y'}{st:PL}{f C N0:KF}{bm:List KB}{fd:PY}{N:List y'}{p0:y'}{ps:List y'}{k:Nat}{S:SiD}(T:Fun K "__init__" qual st f fd)(hb:Binds K fd (p0::ps) [])(F:FnScope (p0::N) (p0::ps) (ag st))(len:∀ ds R,S ds R->ds.length=ps.length)
  (ek:ErrK K mg x C N0 bm) (hi:Ee K (.ref C) "__init__"=be (be (.ref f))) (hf:isFn K (.ref f)=true)
  (a9:∀ (cdv:KB) (A:PQ) (outer:List Qs) (s:KM) (H:Hp) (E:XK) (J:Jx),Room k (A.deeper (P2 qual (ag st) s.heap.objs.size f cdv))->
   ∃ t,DX (cxOf (CX1 P w) P w K mg base (p0::N) qual (ag st) f cdv A outer s H E).nox x (aI st) t/\∀ ds R,S ds R->t (o_::startD N ds) [] R):CalE P w K mg base (k+1) x (p0::ps) S:=by
 refine⟨C,N0,bm,f,fd,ek,hi,hf,Fun.okC T F (λvs H Q E h=>?_) (λcdv A outer s H vs Q E hr h=>?_),hb⟩
 .obtain⟨a,us,H1,F,ds,rfl,_,_,_,rs,R,h,_⟩:=h;rw[Eb,Eb,rs.length,len ds R h]
 .obtain⟨a,us,H1,F1,ds,rfl,rfl,ha,fh,rs,R,h,q⟩:=h
  letI:Jx:=⟨H1,F1,λ_ _ _=>False⟩
  obtain⟨t,ht,hq⟩:=a9 cdv A outer s _ E inferInstance hr;have Fa:F1 a=none:=fh.free ha;have hl:L2.start (p0::N) (.ref a::us)=be (.ref a)::L2.start N us:=by
   unfold L2.start;rw[En,Eb,Eb,GP];rfl
  have s1:Same H1 (upd H1 a (XN a C o_)):=aQ ha _;refine⟨_,ht.nox,C,a,o_,[],F1,o_::startD N ds,[],ek.ns,by rw[hl];rfl,ax,ha,Fa,⟨s1,fh.trans s1,Same.refl F1,λ_ h _=>h,rfl,Same.refl F1,λ_ h _=>h⟩,?_,repf_nil.mpr rfl,.inl ⟨rfl,rfl⟩,R,hq ds R h,λn_ Ka F' H' g hR f7 i9 er=>q n_ Ka F' H' ⟨g.f0,g.fh,g.bh,g.out⟩ hR f7 i9 er⟩;rw[hl];exact qy (dX rs)
end
abbrev _root_.L2.Cx.held(X:Cx)(e:KF):Cx:={X with A:=X.A.mark (be (.ref e)),calm:=false,xe:=λ_ _=>False}
section
variable {X:Cx}{pins:List (KF × P7)}{σ:L2.St}{H:Hp}{s:KM}{e:KF}
def Cx.Ok.held(ok:X.Ok):(X.held e).Ok:=
 ⟨ok.mod,ok.kind,ok.glob,ok.blt,ok.above,ok.inj,ok.has,ok.cab,(λz=>nomatch z),ok.frames,ok.stk,ok.exf,ok.bs,ok.bsz,ok.noex,ok.exfs,ok.funs,ok.frf⟩
def Inv.held(I:Inv X pins σ H s):Inv (X.held e) pins σ H s:=⟨Cx.Ok.held I.ok,I.os,I.bare,I.base,I.loc,I.cell,I.free,I.freeC,I.pin,I.hok,I.len⟩
end
def subE(x c:y'):Bool:=x==c||c=="MotifError"
structure ErrsK(K:D6)(mg:Str->Option KB)(es:List Str):Prop where
 cls:∀ x∈es,∃ C N bm,ErrK K mg x C N bm
 sub:∀ x∈es,∀ y∈es,∀ C C',nsIn K Pi x=be (be (.ref C))->nsIn K Pi y=be (be (.ref C'))->Fg K C (.ref C')=be (subE x y)
def ErrsK.has{es:List y'}(k:ErrsK K mg es){y:y'}{C' N':KF}{Od:List KB}(hx:x∈es)(hy:y∈es)(a:ErrK K mg x C N bm)(b:ErrK K mg y C' N' Od):(Value.ref C::bm).contains (.ref C')=subE x y:=by
 have h:=k.sub x hx y hy C C' a.ns b.ns;obtain⟨nm,q,bs,sn,sub,ab,col,dd,k0,k1,k2,k3,k5,lk⟩:=a.obj;unfold Fg Gc at h;rw[lk] at h;simp only[Ga,List.isEmpty_cons,Bool.false_eq_true,if_false,Option.some.injEq] at h;exact h
structure Held(X:Cx)(pins:List (KF × P7))(H:Hp)(s:KM)(e C:KF)(od:Option KF)(T:KF):Prop where
 ex:ExAt s.heap e C od T .none
 He:H e=o_
 HT:H T=o_
 e0:X.s₀.heap.get? e=o_
 T0:X.s₀.heap.get? T=o_
 eP:∀ p∈X.pn++pins,p.1≠e
 TP:∀ p∈X.pn++pins,p.1≠T
section
variable {X:Cx}{pins:List (KF × P7)}{σ:L2.St}{H:Hp}{s:KM}
def XO.ok{P:PH}{w:PP}{h:Heap}{e C:KF}{od:Option KF}{vs:Array KB}{sl:Array (Option KB)}(q:h.get? e=be ⟨.ref C,od,.fields vs,sl⟩):ObjOk P w H h e (XO e C od):=
 ⟨⟨vs,sl,q⟩,⟨_,q⟩,λh1 h2 ⟨vs,sl,q⟩ k=>⟨vs,sl,k _ q⟩⟩
end
abbrev TH:=y'->List (y' × D)->TSD
def Kept.un{J:Jx}{B F0 F F' H':Hp}{RX:SD->XD}(k:@Kept J B F0 F H)(k':@Kept ⟨B,F0,RX⟩ B F0 F' H'):@Kept J B F0 F' H':=by
 obtain⟨a,b,c,d,_,_,_⟩:=k';exact @Kept.mk J B F0 F' H' a b c d k.eb k.jf k.jo
def ErrG(K:D6)(f y:y'):Prop:=∃ C cd,ErrA K y C cd/\Ee K (.ref C) "__getattribute__"=be (be (.builtin "BaseException.__getattribute__"))/\Ee K (.ref C) "__getattr__"=be o_/\Ee K (.ref C) f=be o_
def qH:tailIn K veLine veLine=true:=by
 unfold tailIn;rfl
def qI{c:KB}{d:Option KF}{es:Array DictEntry}{ep:Nat}(l:K.lookup N=be ⟨c,d,.dict es ep,sl⟩)(h:es.toList.all (λe=>match e.key with| .str _ _=>true|_=>false)=true):nsOkIn K N=true:=by
 unfold nsOkIn;rw[l];dsimp only;rw[<- GQ];exact h
def xP{M:KF}{c0:KB}{dd:Option KF}{cd:ClassData}(l:K.lookup M=be ⟨c0,dd,.cls cd,sl⟩)(hn:cd.ns=N)(h1:nsOkIn K N=true)(h2:nsIn K N "__init__"=be o_):tailIn K veLine (.ref M::veLine)=true:=by
 unfold tailIn;subst hn;dsimp only;rw[l];dsimp only;rw[h1,h2,qH];simp
def xQ:kitOne K (.ref C) (.ref C)=be true:=by
 unfold kitOne;rw[if_pos (beq_self_eq_true _)]
def qJ(S:SpX):SpD:=λds R=>S ds R λ_ _=>False
def CalX.no{base:Heap}{n:Nat}{S:SpX}(C:CalX P w K mg base n x ps S):CalD P w K mg base n x ps (qJ S):=by
 obtain⟨f,fd,F,hb,hk,hm⟩:=C;refine⟨f,fd,F.imp λvs H Q E h=>?_,hb,hk,hm⟩;obtain⟨F,ds,fh,rs,R,h,q⟩:=h;exact⟨F,ds,fh,rs,R,_,h,q,λ_ _ _ _ _ _ _ z=>z.elim⟩
end My
namespace My
def repS(x:y')(n:Nat):Str:=⟨(EN n x.cps.toList).flatten.toArray⟩
def qK{α:Type}(l:List α):∀ m:Nat,(D9 m).filterMap (λk=>l[k]?)=l.take m
 |0=>by simp
 |m+1=>by
  rw[FQ,List.filterMap_append,qK l m,Gd];cases h:l[m]?<;>simp[h]
def xR(lo hi:Option Int)(n:Nat):Builtin.Str.strSliceIndices lo hi 1 n=(D9 (HT.sIx n n hi - HT.sIx n 0 lo)).map λk=>HT.sIx n 0 lo+k:=by
 have E_:∀ (i:Int) (d:Nat),max 0 (min (if i<0 then i+(n:Int) else i) (n:Int))=((HT.sIx n d (be i):Nat):Int):=by
  intro i d;show max 0 (min (if i<0 then i+(n:Int) else i) (n:Int))=(((if i<0 then(i+(n:Int)).toNat else min i.toNat n):Nat):Int);by_cases h:i<0
  .rw[if_pos h,if_pos h];lia
  .rw[if_neg h,if_neg h];lia
 have h1:Builtin.Str.strSliceIndices lo hi 1 n=sliceRange ((HT.sIx n 0 lo:Nat):Int) ((HT.sIx n n hi:Nat):Int) 1:=by
  unfold Builtin.Str.strSliceIndices;simp only[show(1:Int)>0 by decide,if_true];cases lo with
  |none=>cases hi with
   |none=>rfl
   |some j=>rw[<- E_ j n];rfl
  |some i=>cases hi with
   |none=>rw[<- E_ i 0];rfl
   |some j=>rw[<- E_ i 0,<- E_ j n]
 rw[h1];unfold sliceRange;simp only[show(1:Int)>0 by decide,if_true];have e3:(if((HT.sIx n 0 lo:Nat):Int)<((HT.sIx n n hi:Nat):Int) then(((HT.sIx n n hi:Nat):Int) - ((HT.sIx n 0 lo:Nat):Int)+1 - 1) / 1 else 0).toNat=HT.sIx n n hi - HT.sIx n 0 lo:=by
  split<;>lia
 rw[e3];apply FD;intro k _;lia
def slice_cps(y:y')(lo hi:Option Int):Txt.slice y lo hi=⟨((y.cps.toList.drop (HT.sIx y.length 0 lo)).take (HT.sIx y.length y.length hi - HT.sIx y.length 0 lo)).toArray⟩:=by
 have la:HT.sIx y.length 0 lo<=y.length:=HT.sIx_le _ _ (EA _) lo;have lb:HT.sIx y.length y.length hi<=y.length:=HT.sIx_le _ _ (D7 _) hi;unfold Txt.slice;rw[xR];split
 .rename_i h;have hl:HT.sIx y.length y.length hi - HT.sIx y.length 0 lo=y.length:=by simpa using h
  have ha:HT.sIx y.length 0 lo=0\/y.length=0:=by lia
  rw[hl];obtain⟨cp⟩:=y;have e:(Ge (HT.sIx (Str.mk cp).length 0 lo) cp.toList)=cp.toList:=by
   rcases ha with ha|ha
   .rw[ha];rfl
   .have:cp=#[]:=Array.eq_empty_of_size_eq_zero ha;subst this;simp
  show(⟨cp⟩:y')=⟨((Ge (HT.sIx (Str.mk cp).length 0 lo) cp.toList).take cp.size).toArray⟩;rw[e,GR (by simp)]
 .congr 2;rw[GE];have:=qK (y.cps.toList.drop (HT.sIx y.length 0 lo)) (HT.sIx y.length y.length hi - HT.sIx y.length 0 lo);rw[<- this];congr 1;funext k;simp
section
variable {X:Cx}[J:Jx]{a b c e:PJ}{ta tb tc te:TD}{pos:P0}
def D2:RD2:=λx y R=>match x,y with
 | .int i,.int j=>CMul i j/\R (.int (i*j))
 | .str i,.int n=>(-(2 ^ 62)<=n/\n<=1000000/\i.length*n.toNat<=1000000)/\R (.str (repS i n.toNat))
 | .lst xs,.int n=>(-(2 ^ 62)<=n/\n<=1000000/\xs.length*n.toNat<=1000000)/\R (.lst (EN n.toNat xs).flatten)
 |_,_=>False
def xS:SlR X (λx lo hi H Q=>∃ y,x= .str y/\y.length<=sizeLine/\Q (.str (Txt.slice y lo hi)) H):=by
 intro pins s σ H x v vl vu lo hi sl Q I rx hs pl pu h;obtain⟨y,rfl,hz,q⟩:=h;obtain⟨t,rfl⟩:=rx;have d6:∀ t' k,EP X pins σ Q (.str (Txt.slice y lo hi) t') {s with toks:=k}:=λt' k=>⟨.str _,H,I.tok k,⟨_,rfl⟩,q⟩;have le:=Ei (Txt.slice_le y lo hi) hz;refine⟨"str",_,PySem.F.slot_str_getitem.lookup,Rl _ _ _,?_⟩;cases pl with
 |none=>cases pu with
  |none=>exact Qg (l:=o_) (u:=o_) (st:=o_) hs rfl (QC ⟨le,d6⟩)
  |int j tj=>exact Qg (l:=o_) (u:=be (j,tj)) (st:=o_) hs rfl (QC ⟨le,d6⟩)
 |int i ti=>cases pu with
  |none=>exact Qg (l:=be (i,ti)) (u:=o_) (st:=o_) hs rfl (QC ⟨le,d6⟩)
  |int j tj=>exact Qg (l:=be (i,ti)) (u:=be (j,tj)) (st:=o_) hs rfl (QC ⟨le,d6⟩)
abbrev TDO:=SD->(Option Int->Prop)->Prop
def xT:TDO:=λ_ R=>R o_
def xU(te:TD):TDO:=λz R=>te z λx=>match x with| .int i=>R (be i)|_=>False
def lO(K:D6)[J:Jx](t:TDO):TO:=λs H Q=>∃ B F z,Kept B J.F0 F H/\RepS K B F H z s/\∃ R:Option Int->Prop,t z R/\∀ o F' H',Grow F H F' H'->R o->Q o H'
abbrev DPO(X:Cx)[Jx](e:Option PJ)(t:TDO):Prop:=PO X e (lO X.K t)
structure WDPO(X:Cx)[Jx](e:Option PJ)(t:TDO):Prop where
 out:DPO X e t
def PO.anti{X:Cx}{e:Option PJ}{t t':TO}(h:PO X e t)(a:∀ s H Q,t' s H Q->t s H Q):PO X e t':=λpins s σ H Q I q=>h pins s σ H Q I (a _ _ _ q)
def jE:WDPO X o_ xT:=⟨PO.anti pi λs H Q q=>by
 obtain⟨B,F,z,kf,rs,R,h1,h2⟩:=q;exact h2 o_ F H (Grow.refl kf.fh) h1⟩
def jF(he:WDE X e te):WDPO X (be e) (xU te):=⟨have he:=he.out;PO.anti (pj he) λs H Q q=>by
 obtain⟨B,F,z,kf,rs,R,h1,h2⟩:=q;refine⟨B,F,z,kf,rs,_,h1,λx u F1 H1 g1 hx rx=>?_⟩;split at hx
 .exact⟨_,rep_int.mp rx,h2 _ F1 H1 g1 hx⟩
 .exact hx.elim⟩
def rdSl:D->Option Int->Option Int->(D->Prop)->Prop:=λx lo hi R=>match x with
 | .str y=>y.length<=1000000/\R (.str (Txt.slice y lo hi))
 | .lst xs=>R (.lst (cutD xs lo hi))
 | .rol xs=>R (.lst (cutD xs lo hi))
 | .tup xs=>¬ (HT.sIx xs.length 0 lo=0/\HT.sIx xs.length xs.length hi=xs.length)/\R (.tup (cutD xs lo hi))
 |_=>False
def dSl(ta:TD)(tl th:TDO):TD:=λz R=>ta z λx=>tl z λlo=>th z λhi=>rdSl x lo hi R
def jG{lo hi:Option PJ}{tl th:TDO}{p2:P0}(ha:WDE X a ta)(hl:WDPO X lo tl)(hu:WDPO X hi th):WDE X (.Subscript a (.Slice lo hi o_ p2) pos) (dSl ta tl th):=⟨have ha:=ha.out;have hl:=hl.out;have hu:=hu.out;(pk (SlR.or xS (SlR.or pz vM)) ha hl hu).anti λs H Q q=>by
 obtain⟨B,F,z,kf,rs,R,h1,h2⟩:=q;refine⟨B,F,z,kf,rs,_,h1,λx u F1 H1 g1 hx rx=>?_⟩;refine⟨B,F1,z,kf.grow g1,rs.grow g1,_,hx,λlo F2 H2 g2 hy=>?_⟩;refine⟨B,F2,z,(kf.grow g1).grow g2,(rs.grow g1).grow g2,_,hy,λhi F3 H3 g3 hw=>?_⟩;have g:=g1.trans (g2.trans g3);have Kd:=(rx.mono g2.ff).mono g3.ff;unfold rdSl at hw;split at hw
 .exact .inl ⟨_,rep_str.mp Kd,Ei hw.1 (by decide),h2 _ _ F3 H3 g hw.2 (rep_str.mpr rfl)⟩
 .obtain⟨l,vs,rfl,hq,rr⟩:=rep_lst.mp Kd;refine .inr (.inl ⟨l,vs,rfl,SqL.of (g3.fh _ _ hq),λp hp=>?_⟩);exact h2 _ _ _ _ (g.trans (Grow.new g3.fh hp _)) hw (rep_lst.mpr ⟨p,_,rfl,ax,(rr.cut _ _).mono (aQ (g3.fh.free hp) _)⟩)
 .obtain⟨l,vs,rfl,hq,rr⟩:=rep_rol.mp Kd;refine .inr (.inl ⟨l,vs,rfl,g3.fh.seq hq,λp hp=>?_⟩);exact h2 _ _ _ _ (g.trans (Grow.new g3.fh hp _)) hw (rep_lst.mpr ⟨p,_,rfl,ax,(rr.cut _ _).mono (aQ (g3.fh.free hp) _)⟩)
 .obtain⟨l,vs,rfl,hq,rr⟩:=rep_tup_mp Kd;refine .inr (.inr ⟨l,vs,rfl,g3.fh.tup hq,by rw[rr.length];exact hw.1,λp hp=>?_⟩);exact h2 _ _ _ _ (g.trans (Grow.new g3.fh hp _)) hw.2 (rep_tupS.mpr ⟨p,_,rfl,ax,(rr.cut _ _).mono (aQ (g3.fh.free hp) _)⟩)
 .exact hw.elim⟩
def rdIn(neg:Bool):RD2:=λx y R=>match x,y with
 | .str i,.str j=>R (.bl (if neg then !(!(Builtin.Str.occurrences j i 0 j.length 1).isEmpty) else !(Builtin.Str.occurrences j i 0 j.length 1).isEmpty))
 |x,.lst ys=>(bp x=true/\ys.all bp=true)/\R (.bl (if neg then !(ys.any λy=>eqF y x) else ys.any λy=>eqF y x))
 |x,.rol ys=>(bp x=true/\ys.all bp=true)/\R (.bl (if neg then !(ys.any λy=>eqF y x) else ys.any λy=>eqF y x))
 |x,.tup ys=>(bp x=true/\ys.all bp=true)/\R (.bl (if neg then !(ys.any λy=>eqF y x) else ys.any λy=>eqF y x))
 |_,_=>False
def gH{K:D6}{H:Hp}{x:D}{u:V}(rx:Rep K H x u)(fx:bp x=true):∀ {ys:List D} {vs:List V},Reps K H ys vs->ys.all bp=true->inV u vs=ys.any λy=>eqF y x
 |[],vs,r,_=>by rw[reps_nil.mp r];rfl
 |y::ys,vs,r,f=>by
  obtain⟨v,vr,rfl,r1,r2⟩:=reps_cons.mp r;rw[Fh,Ew] at f;have ih:=gH rx fx r2 f.2;unfold inV at ih ⊢;rw[Fi,Fi,ih,eqV_of r1 rx f.1 fx]
def rInV(K:D6)(neg:Bool):R2:=λx y H Q=>(∃ i j,x= .str i/\y= .str j/\Q (.bl (if neg then !(!(Builtin.Str.occurrences j i 0 j.length 1).isEmpty) else !(Builtin.Str.occurrences j i 0 j.length 1).isEmpty)) H)\/rIn K neg x y H Q
def xV{K:D6}{neg:Bool}:bb K (rInV K neg) (rdIn neg):=by
 intro x y u v F H R Q fh h rx ry q;unfold rdIn at h;split at h
 .exact .inl ⟨_,_,rep_str.mp rx,rep_str.mp ry,q _ _ F H (Grow.refl fh) h (rep_bl.mpr rfl)⟩
 .obtain⟨⟨f1,f2⟩,h⟩:=h;obtain⟨l,vs,rfl,hq,rr⟩:=rep_lst.mp ry;exact .inr ⟨l,vs,rfl,.inl (fh.seq (SqL.of hq)),eo rx f1,cP rr f2,q _ _ F H (Grow.refl fh) h (rep_bl.mpr (by rw[gH rx f1 rr f2]))⟩
 .obtain⟨⟨f1,f2⟩,h⟩:=h;obtain⟨l,vs,rfl,hq,rr⟩:=rep_rol.mp ry;exact .inr ⟨l,vs,rfl,.inl (fh.seq hq),eo rx f1,cP rr f2,q _ _ F H (Grow.refl fh) h (rep_bl.mpr (by rw[gH rx f1 rr f2]))⟩
 .obtain⟨⟨f1,f2⟩,h⟩:=h;obtain⟨l,vs,rfl,hq,rr⟩:=rep_tup_mp ry;exact .inr ⟨l,vs,rfl,.inr (fh.tup hq),eo rx f1,cP rr f2,q _ _ F H (Grow.refl fh) h (rep_bl.mpr (by rw[gH rx f1 rr f2]))⟩
 .exact h.elim
def xW:OpR X (P6 .NotIn) (rInV X.K true):=OpR.or vU vT
end
end My
namespace L2
def Its(x:y'):It:=⟨λi _=>i<x.length,λi H v H'=>H'=H/\∃ c,x.cps[i]?=be c/\v= .str ⟨#[c]⟩,λi _=>x.length<=i⟩
def xX{P:PH}{w:PP}{K:D6}{tg:PJ}(x:y')(t:Tok)(it:KF):Turn P w K tg (Its x) [it] it (λi h=>h.IsStrIter it "str_ascii_iterator" x t i) where
 mem:=by simp
 obj:=λi h st b hb=>by
  have e:b=it:=by simpa using hb
  subst e;obtain⟨o,e,c,d⟩:=st;exact⟨o,e,λv z=>by rw[d] at z;cases z⟩
 keep:=λi h h' st k=>by
  obtain⟨o,e,r⟩:=st;exact⟨o,k it (by simp) o e,r⟩
 item:=by
  intro X hP hw hK hc i pins s σ H E I hf st hg;subst hP hw hK;have hi:i<x.cps.size:=hg;obtain⟨f0,f1,f2,f3,f4,f5⟩:=hf it (by simp);refine wpAny_pyNext_ascii_item st (c:=x.cps[i]) (GS hi) λh' st' sb=>?_;have I1:Inv X pins σ H {s with heap:=h',toks:=s.toks+1}:=I.turned (t':=s.toks+1) (λb o hb e=>(sb.2 b hb).trans e) f0 f1 f3 f4 f5;obtain⟨o,e,c,d⟩:=id st';exact⟨_,rfl,jb (s:={s with heap:=h',toks:=s.toks+1}) e c d (by decide) ⟨.str ⟨#[x.cps[i]]⟩,H,I1,⟨_,rfl⟩,⟨rfl,_,GS hi,rfl⟩,st',λb hb=>(hf b hb).1⟩⟩
 done:=by
  intro X hP hw hK hc i pins s σ H E I hf st hg;subst hP hw hK;have hi:x.cps.size<=i:=hg;obtain⟨f0,f1,f2,f3,f4,f5⟩:=hf it (by simp);exact wpAny_pyNext_ascii_end (I.ok.hd hc) st (Array.getElem?_eq_none hi) λh' eb=>⟨rfl,I.turned (t':=s.toks) (λb o hb e=>eb b o hb e) f0 f1 f3 f4 f5⟩
 self:=λA i s Q E st hQ=>wpAny_pyIter_striter_ascii st hQ
def iStr(tl:TE):TI:=λσ H R=>tl σ H λv H1=>∃ x,v= .str x/\x.cps.all (·<128)=true/\R (Its x) H1
def xY{X:Cx}{tg l:PJ}{tl:TE}(hl:PE X l tl):PI X tg l (iStr tl):=by
 intro pins s σ H R I h;refine thn (hl pins s σ H _ I h) λv s1 b8=>?_;obtain⟨v1,H1,I1,r1,q1⟩:=b8;obtain⟨x,rfl,ha,q⟩:=q1;obtain⟨t,rfl⟩:=r1;refine wpAny_pyIter_ascii ha ?_;refine⟨s1.heap.objs.size,[s1.heap.objs.size],_,_,H1,rfl,I1.kept (t':=s1.toks) λb o e=>Heap.get?_push_of_some _ e,xX x t _,⟨_,Heap.get?_push_size _ rfl,rfl,rfl⟩,λb hb=>?_,q⟩;have e:b=s1.heap.objs.size:=by simpa using hb
 subst e;exact I1.fpOk (D7 _) (I1.hok.fresh (D7 _))
end L2
namespace My
section
variable {X:Cx}[J:Jx]{a b c e:PJ}{ta tb tc te:TD}{pos:P0}
def bR(x:y'):List D:=x.cps.toList.map λc=>D.str ⟨#[c]⟩
def dItS(t:TD):TDI:=λz R=>t z λy=>match y with| .str x=>x.cps.all (·<128)=true/\R (bR x)|_=>False
def jH{x:y'}{k c:Nat}(h:x.cps[k]?=be c):(bR x)[k]?=be (.str ⟨#[c]⟩):=by
 unfold bR;rw[Eo,Array.getElem?_toList,h];rfl
def gI(x:y'):(bR x).length=x.length:=by unfold bR;rw[Ef];simp[Str.length]
variable {ge iter:PJ}{x:y'}{px:P0}{scope:Qf}{ti:TD}
def itS{K:D6}:ItOk K (iStr (lE K ti)) (dItS ti):=λ{s H B F z P Q} kf rs h1 h2=>by
 refine⟨B,F,z,kf,rs,_,h1,λd v F1 H1 g1 hd rd=>?_⟩;split at hd
 .rename_i y;obtain⟨ha,hd⟩:=hd;have hl:=gI y;refine⟨y,rep_str.mp rd,ha,h2 _ _ F1 H1 g1 hd ⟨λk F' H' G hk=>by rw[hl] at hk;exact hk,λk F' H' v H'' G hk hy=>?_,λF' H' G=>by show y.length<=_;rw[hl];exact D7 _⟩⟩;obtain⟨e,c,hc,rfl⟩:=hy;exact⟨e,.str ⟨#[c]⟩,jH hc,rep_str.mpr rfl⟩
 .exact hd.elim
end
section
variable {X:Cx}[J:Jx]{a b c e o:PJ}{es:List PJ}{ta tb tc te to:TD}{t:TDA}{pos:P0}
abbrev RTx:=y'->List D->(D->Prop)->Prop
def dTx(r:RTx)(to:TD)(t:TDA):TD:=λz R=>to z λx=>match x with| .str y=>t z λds=>r y ds R|_=>False
def MtS(X:Cx)(id:String)(r:RTx):Prop:=∃ rv:V->List V->Hp->VK->Prop,MtR X id rv/\∀ (y:y') (ds:List D) (vs:List V) (F H:Hp) (R:D->Prop) (Q:VK),Reps X.K F ds vs->r y ds R->(∀ d v,(∀ G,Rep X.K G d v)->R d->Q v H)->rv (.str y) vs H Q
variable{apos cpos:P0}
def jI{name:y'}{id:String}{r:RTx}(slot:Slot "str" name id)(KJ:typeOf (.builtin id)=pure (.type "method_descriptor"))(hm:MtS X id r)(ho:DE X o to)(ha:DA X (e::es) t)
  (b_:autoParam (PV o name X.env (PX o X.env)=PX o X.env) zA0)
  (d_:autoParam (zHF X cpos (e::es)) zA0)
  (c8:autoParam ((apos.endLine==cpos.line)=true) zA0) (hs:autoParam (zSE X e es) zA0) (m8:autoParam (zPL X cpos es) zA0):
  DE X (.Call (.Attribute o name apos) (e::es) [] cpos) (dTx r to t):=by
 obtain⟨rv,hm,L⟩:=hm;refine(dW PySem.F.plainAttrs_str slot KJ hm ho ha b_ d_ c8 hs m8).anti λs H Q q=>?_;obtain⟨B,F,z,kf,rs,R,h1,h2⟩:=q;refine⟨B,F,z,kf,rs,_,h1,λx u F1 H1 g1 hx rx=>?_⟩;split at hx
 .rename_i y;rw[rep_str.mp rx];refine⟨rfl,B,F1,z,kf.grow g1,rs.grow g1,_,hx,λds vs F2 H2 g2 hy ry=>?_⟩;exact L y ds vs F2 H2 R Q ry hy λd v rd hR=>h2 d v F2 H2 (g1.trans g2) hR (rd F2)
 .exact hx.elim
def D3:RTx:=λy ds R=>match ds with|[.str p]=>R (.bl (Txt.startswith y p))|_=>False
def rEnds:RTx:=λy ds R=>match ds with|[.str p]=>R (.bl (Txt.endswith y p))|_=>False
def ms_ends:MtS X "str.endswith" rEnds:=by
 refine⟨λx vs H Q=>∃ y p,x= .str y/\vs=[.str p]/\Q (.bl (Txt.endswith y p)) H,?_,?_⟩
 .intro pins s σ H x vs v us Q I rx rv h;obtain⟨y,p,rfl,rfl,q⟩:=h;obtain⟨t,rfl⟩:=rx;obtain⟨u,rfl,t',rfl⟩:=bM rv;exact SC.endswith ⟨.bl _,H,I,rfl,q⟩
 .intro y ds vs F H R Q r h q;unfold rEnds at h;split at h
  .obtain⟨v,vr,rfl,h1,h2⟩:=reps_cons.mp r;rw[reps_nil.mp h2,rep_str.mp h1];exact⟨_,_,rfl,rfl,q _ _ (λ_=>rep_bl.mpr rfl) h⟩
  .exact h.elim
def xZ(ho:WDE X o to)(ha:WDA X [e] t)(b_:autoParam (PV o "endswith" X.env (PX o X.env)=PX o X.env) zA0)
  (d_:autoParam (zHF X cpos [e]) zA0)
  (c8:autoParam ((apos.endLine==cpos.line)=true) zA0) (hs:autoParam (zSE X e []) zA0):WDE X (.Call (.Attribute o "endswith" apos) [e] [] cpos) (dTx rEnds to t):=⟨have ho:=ho.out;have ha:=ha.out;jI PySem.F.slot_str_endswith PySem.F.type_str_endswith ms_ends ho ha b_ d_ c8 hs⟩
def rSIndex:RTx:=λy ds R=>match ds with|[.str p]=>∃ i rest,Builtin.Str.occurrences y p 0 y.length 1=i::rest/\R (.int (i:Nat))|_=>False
def yb:MtS X "str.index" rSIndex:=by
 refine⟨λx vs H Q=>∃ y p i rest,x= .str y/\vs=[.str p]/\Builtin.Str.occurrences y p 0 y.length 1=i::rest/\Q (.int (i:Nat)) H,?_,?_⟩
 .intro pins s σ H x vs v us Q I rx rv h;obtain⟨y,p,i,rest,rfl,rfl,ho,q⟩:=h;obtain⟨t,rfl⟩:=rx;obtain⟨u,rfl,t',rfl⟩:=bM rv;exact SC.index ho ⟨.int _,H,I.tok _,⟨_,rfl⟩,q⟩
 .intro y ds vs F H R Q r h q;unfold rSIndex at h;split at h
  .obtain⟨i,rest,ho,h⟩:=h;obtain⟨v,vr,rfl,h1,h2⟩:=reps_cons.mp r;rw[reps_nil.mp h2,rep_str.mp h1];exact⟨_,_,i,rest,rfl,rfl,ho,q _ _ (λ_=>rep_int.mpr rfl) h⟩
  .exact h.elim
def yc(ho:WDE X o to)(ha:WDA X [e] t)(b_:autoParam (PV o "index" X.env (PX o X.env)=PX o X.env) zA0)
  (d_:autoParam (zHF X cpos [e]) zA0)
  (c8:autoParam ((apos.endLine==cpos.line)=true) zA0) (hs:autoParam (zSE X e []) zA0):WDE X (.Call (.Attribute o "index" apos) [e] [] cpos) (dTx rSIndex to t):=⟨have ho:=ho.out;have ha:=ha.out;jI PySem.F.slot_str_index PySem.F.type_str_index yb ho ha b_ d_ c8 hs⟩
def Reps.init{K:D6}{F:Hp}:∀ {ds:List D} {vs:List V},Reps K F ds vs->Reps K F ds.dropLast vs.dropLast
 |[],vs,r=>by rw[reps_nil.mp r];exact reps_nil.mpr rfl
 |[d],vs,r=>by
  obtain⟨v,vr,rfl,_,h2⟩:=reps_cons.mp r;rw[reps_nil.mp h2];exact reps_nil.mpr rfl
 |d::d2::ds,vs,r=>by
  obtain⟨v,vr,rfl,h1,h2⟩:=reps_cons.mp r;obtain⟨v2,Pf,rfl,h3,h4⟩:=reps_cons.mp h2;rw[GT,GT];exact reps_cons.mpr ⟨v,_,rfl,h1,Reps.init h2⟩
end
end My
namespace My
open Exc
section
variable {X:Cx}{a b c e:PJ}{ta tb tc te:TD}{pos:P0}{st:PL}{rest:List PL}{t u:TSD}
def bu[Jx]{c:PJ}{l r:List PL}{tc:TDT}(hc:WDT X c tc)(ha:WDSs X l t)(hb:WDSs X r u):WDS X (.If c l r pos) (dIfS tc t u):=⟨qd (c:=c) (l:=l) (r:=r) (tc:=tc) (hc:=hc.out) (ha:=ha.out) (hb:=hb.out)⟩
end
section
variable {P:PH}{w:PP}{K:D6}{mg:y'->Option KB}{base:Heap}
variable{x:y'}{st:PL}{f:KF}{fd:PY}{N ps:List y'}{k:Nat}
def _root_.L2.Fun.okDW{S:SpD}(T:Fun K x x st f fd)(F:FnScope N ps (ag st))(len:∀ ds R,S ds R->ds.length=ps.length)
  (a9:∀ (cdv:KB) (A:PQ) (outer:List Qs) (s:KM) (H:Hp) (E:XK) (J:Jx),Room k (A.deeper (P2 x (ag st) s.heap.objs.size f cdv))->
   ∃ t,WDSs (cxOf (Exc.CX1 P w) P w K mg base N x (ag st) f cdv A outer s H E).nox (aI st) t/\∀ ds R,S ds R->t {nx:=λ_=>R .non,rt:=R} (startD N ds)):FnOk P w K mg base (Exc.CX1 P w) (k+1) f fd ps (lSp K S):=
 T.okD F len λcdv A outer s H E J hr=>let ⟨t,h,q⟩:=a9 cdv A outer s H E J hr;⟨t,h.out,q⟩
def Tx.okDW{S:SpD}(T:Tx K mg x st ps)(F:FnScope N ps (ag st))(len:∀ ds R,S ds R->ds.length=ps.length)
  (a9:∀ (f:KF) (cdv:KB) (A:PQ) (outer:List Qs) (s:KM) (H:Hp) (E:XK) (J:Jx),Room k (A.deeper (P2 x (ag st) s.heap.objs.size f cdv))->
   ∃ t,WDSs (cxOf (Exc.CX1 P w) P w K mg base N x (ag st) f cdv A outer s H E).nox (aI st) t/\∀ ds R,S ds R->t {nx:=λ_=>R .non,rt:=R} (startD N ds)):CalD P w K mg base (k+1) x ps S:=
 Tx.okD T F len λf cdv A outer s H E J hr=>let ⟨t,h,q⟩:=a9 f cdv A outer s H E J hr;⟨t,h.out,q⟩
def Tx.okXW{S:SpX}(T:Tx K mg x st ps)(F:FnScope N ps (ag st))(len:∀ ds R RX,S ds R RX->ds.length=ps.length)
  (a9:∀ (f:KF) (cdv:KB) (A:PQ) (outer:List Qs) (s:KM) (H:Hp) (E:XK) (J:Jx),Room k (A.deeper (P2 x (ag st) s.heap.objs.size f cdv))->XOk (cxOf (CX1 P w) P w K mg base N x (ag st) f cdv A outer s H E)->
   ∃ t,WDSs (cxOf (CX1 P w) P w K mg base N x (ag st) f cdv A outer s H E) (aI st) t/\∀ ds R RX,(∀ z,J.RX z=RX)->S ds R RX->t {nx:=λ_=>R .non,rt:=R} (startD N ds)):CalX P w K mg base (k+1) x ps S:=
 Tx.okX T F len λf cdv A outer s H E J hr hx=>let ⟨t,h,q⟩:=a9 f cdv A outer s H E J hr hx;⟨t,h.out,q⟩
def Cls.okIW{qual:y'}{C:KF}{p0:y'}{S:SiD}(T:Fun K "__init__" qual st f fd)(hb:Binds K fd (p0::ps) [])(F:FnScope (p0::N) (p0::ps) (ag st))(len:∀ ds R,S ds R->ds.length=ps.length)
  (hns:nsIn K Pi x=be (be (.ref C))) (l8:mg x=be (.ref C)) (mk:Mk K C f)
  (a9:∀ (cdv:KB) (A:PQ) (outer:List Qs) (s:KM) (H:Hp) (E:XK) (J:Jx),Room k (A.deeper (P2 qual (ag st) s.heap.objs.size f cdv))->
   ∃ t,WDI (cxOf (Exc.CX1 P w) P w K mg base (p0::N) qual (ag st) f cdv A outer s H E).nox x (aI st) t/\∀ ds R,S ds R->t (o_::startD N ds) [] R):CalM P w K mg base (k+1) x (p0::ps) S:=
 Cls.okI T hb F len hns l8 mk λcdv A outer s H E J hr=>let ⟨t,h,q⟩:=a9 cdv A outer s H E J hr;⟨t,h.out,q⟩
def Cls.okEW{qual:y'}{C N0:KF}{bm:List KB}{p0:y'}{S:SiD}(T:Fun K "__init__" qual st f fd)(hb:Binds K fd (p0::ps) [])(F:FnScope (p0::N) (p0::ps) (ag st))(len:∀ ds R,S ds R->ds.length=ps.length)
  (ek:ErrK K mg x C N0 bm) (hi:Ee K (.ref C) "__init__"=be (be (.ref f))) (hf:isFn K (.ref f)=true)
  (a9:∀ (cdv:KB) (A:PQ) (outer:List Qs) (s:KM) (H:Hp) (E:XK) (J:Jx),Room k (A.deeper (P2 qual (ag st) s.heap.objs.size f cdv))->
   ∃ t,WDX (cxOf (CX1 P w) P w K mg base (p0::N) qual (ag st) f cdv A outer s H E).nox x (aI st) t/\∀ ds R,S ds R->t (o_::startD N ds) [] R):CalE P w K mg base (k+1) x (p0::ps) S:=
 Cls.okE T hb F len ek hi hf λcdv A outer s H E J hr=>let ⟨t,h,q⟩:=a9 cdv A outer s H E J hr;⟨t,h.out,q⟩
end
inductive MO where
 |ins (x:Str) (fs:List (Str × D))|lst (ds:List D)|dti (a8:List ((Int × Int) × Int))
abbrev MS:=List (KF × MO)
def MRep(K:D6)(F H:Hp)(a:KF):MO->Prop
 | .ins x fs=>∃ C dx ws,nsIn K Pi x=be (be (.ref C))/\H a=be (.ins C dx ws)/\RepF K F fs ws
 | .lst ds=>∃ vs,H a=be (.lst vs)/\Reps K F ds vs
 | .dti a8=>H a=be (.dT (dtiV a8))
def av(M:MS):List KF:=M.map (·.1)
def mget:MS->KF->Option MO
 |[],_=>o_
 |(b,o)::r,a=>if b=a then be o else mget r a
def mput:MS->KF->MO->MS
 |[],_,_=>[]
 |(b,p)::r,a,o=>if b=a then(b,o)::r else(b,p)::mput r a o
def mdel:MS->KF->MS
 |[],_=>[]
 |(b,p)::r,a=>if b=a then r else(b,p)::mdel r a
def bO:∀ {M:MS} {a:KF} {o:MO},mget M a=be o->(a,o)∈M
 |[],_,_,h=>by cases h
 |(b,p)::r,a,o,h=>by
  unfold mget at h;split at h
  .rename_i e;subst e;cases h;exact Ed
  .exact Ec _ (bO h)
variable{M:MS}{a:KF}{o:MO}
def cj(h:(a,o)∈M):a∈av M:=EB.mpr ⟨_,h,rfl⟩
def gJ:∀ (M:MS) (a:KF) (o:MO),av (mput M a o)=av M
 |[],_,_=>rfl
 |(b,p)::r,a,o=>by
  unfold mput;split
  .rfl
  .show b::av (mput r a o)=b::av r;rw[gJ r a o]
def mem_put:∀ {M:MS} {a b:KF} {o q:MO},(av M).Nodup->(b,q)∈mput M a o->(b=a/\q=o/\a∈av M)\/(b≠a/\(b,q)∈M)
 |[],_,_,_,_,_,h=>by cases h
 |(c,p)::r,a,b,o,q,nd,h=>by
  have Ju:c ∉ av r/\(av r).Nodup:=EW.mp nd;unfold mput at h;split at h
  .rename_i e;subst e;rcases Ea.mp h with z|z
   .cases z;exact .inl ⟨rfl,rfl,Ed⟩
   .have:b∈av r:=cj z;exact .inr ⟨λe=>Ju.1 (e ▸ this),Ec _ z⟩
  .rename_i ne;rcases Ea.mp h with z|z
   .cases z;exact .inr ⟨ne,Ed⟩
   .rcases mem_put Ju.2 z with⟨e1,e2,e3⟩|⟨e1,e2⟩
    .exact .inl ⟨e1,e2,Ec _ e3⟩
    .exact .inr ⟨e1,Ec _ e2⟩
def jJ:∀ {M:MS} {a b:KF} {q:MO},(av M).Nodup->(b,q)∈mdel M a->b≠a/\(b,q)∈M
 |[],_,_,_,_,h=>by cases h
 |(c,p)::r,a,b,q,nd,h=>by
  have Ju:c ∉ av r/\(av r).Nodup:=EW.mp nd;unfold mdel at h;split at h
  .rename_i e;subst e;exact⟨λe=>Ju.1 (e ▸ cj h),Ec _ h⟩
  .rename_i ne;rcases Ea.mp h with z|z
   .cases z;exact⟨ne,Ed⟩
   .obtain⟨e1,e2⟩:=jJ Ju.2 z;exact⟨e1,Ec _ e2⟩
def del_sub:∀ {M:MS} {a:KF},(av (mdel M a)).Sublist (av M)
 |[],_=> .slnil
 |(c,p)::r,a=>by
  unfold mdel;split
  .exact List.sublist_cons_self _ _
  .exact List.Sublist.cons_cons _ del_sub
variable{K:D6}{F H F' H':Hp}
def MRep.mono(ff:Same F F')(hh:∀ o,H a=be o->H' a=be o):∀ {o:MO},MRep K F H a o->MRep K F' H' a o
 | .ins x fs,⟨C,dx,ws,n,h,r⟩=>⟨C,dx,ws,n,hh _ h,RepF.mono ff fs ws r⟩
 | .lst ds,⟨vs,h,r⟩=>⟨vs,hh _ h,Reps.mono ff ds vs r⟩
 | .dti a8,h=>hh _ h
def MRep.there:∀ {o:MO},MRep K F H a o->H a≠o_
 | .ins x fs,⟨C,dx,ws,n,h,r⟩=>by rw[h];exact λz=>nomatch z
 | .lst ds,⟨vs,h,r⟩=>by rw[h];exact λz=>nomatch z
 | .dti a8,h=>by rw[show H a=_ from h];exact λz=>nomatch z
structure RepM(K:D6)(F H:Hp)(M:MS):Prop where
 nd:(av M).Nodup
 ok:∀ a o,(a,o)∈M->MRep K F H a o
 fr:∀ a,a∈av M->F a=o_
def RepM.nil:RepM K F H []:=⟨GK,(λ_ _ h=>nomatch h),(λ_ h=>nomatch h)⟩
def RepM.here(r:RepM K F H M)(h:a∈av M):H a≠none:=by
 obtain⟨⟨b,o⟩,h1,rfl⟩:=EB.mp h;exact(r.ok _ _ h1).there
structure GrowM(M M':MS)(F H F' H':Hp):Prop where
 ff:Same F F'
 fh:Same F' H'
 hh:∀ b o,b ∉ av M->H b=be o->H' b=be o
 out:∀ b,b ∉ av M->F b=o_->H b≠o_->F' b=o_
 ks:∀ b,b∈av M'->b∈av M\/H b=o_
def Grow.toM(g:Grow F H F' H'):GrowM M M F H F' H':=⟨g.ff,g.fh,λb o _ h=>g.hh b o h,λb _ h1 h2=>g.out b h1 h2,λb h=> .inl h⟩
def GrowM.refl(h:Same F H):GrowM M M F H F H:=(Grow.refl h).toM
def GrowM.trans{M1 M2:MS}{F1 H1 F2 H2:Hp}(g:GrowM M M1 F H F1 H1)(k:GrowM M1 M2 F1 H1 F2 H2):GrowM M M2 F H F2 H2 where
  ff:=g.ff.trans k.ff
  fh:=k.fh
  hh:=λb o nb h=>k.hh b o (λz=>by rcases g.ks b z with q|q;exact nb q;rw[q] at h;cases h) (g.hh b o nb h)
  out:=λb nb h1 h2=>k.out b (λz=>by rcases g.ks b z with q|q;exact nb q;exact h2 q) (g.out b nb h1 h2) (by
    cases e:H b with
    |none=>exact absurd e h2
    |some o=>rw[g.hh b o nb e];exact λz=>nomatch z)
  ks := λb h=>by
    rcases k.ks b h with q|q
    . exact g.ks b q
    . by_cases nb:b∈av M
      . exact .inl nb
      . right;cases e:H b with
        |none=>rfl
        |some o=>rw[g.hh b o nb e] at q;cases q
def RepM.grow(r:RepM K F H M)(g:Grow F H F' H'):RepM K F' H' M:=
 ⟨r.nd,λa o h=>(r.ok a o h).mono g.ff λo e=>g.hh a o e,λa h=>g.out a (r.fr a h) (r.here h)⟩
variable{ho:HO}
def RepM.put{o':MO}(r:RepM K F H M)(e:mget M a=be o)(h:MRep K F (upd H a ho) a o'):RepM K F (upd H a ho) (mput M a o'):=
 ⟨by rw[gJ];exact r.nd,λb q hb=>by
  rcases mem_put r.nd hb with⟨rfl,rfl,_⟩|⟨ne,hb⟩
  .exact h
  .exact(r.ok b q hb).mono (Same.refl F) λu z=>by rw[aq ne];exact z,λb hb=>r.fr b (by rw[gJ] at hb;exact hb)⟩
def GrowM.put{o':MO}(fh:Same F H)(fa:F a=o_)(e:mget M a=be o):GrowM M (mput M a o') F H F (upd H a ho) where
 ff:=Same.refl F
 fh:=λb u z=>by
  have ne:b≠a:=by rintro rfl;rw[fa] at z;cases z
  rw[aq ne];exact fh b u z
 hh:=λb u nb z=>by
  have ne:b≠a:=by rintro rfl;exact nb (cj (bO e))
  rw[aq ne];exact z
 out:=λb _ h _=>h
 ks:=λb h=> .inl (by rw[gJ] at h;exact h)
def RepM.new{p:KF}(r:RepM K F H M)(fh:Same F H)(hp:H p=o_)(h:MRep K F (upd H p ho) p o):RepM K F (upd H p ho) ((p,o)::M):=by
 have np:p ∉ av M:=λz=>r.here z hp;refine⟨EW.mpr ⟨np,r.nd⟩,λb q hb=>?_,λb hb=>?_⟩
 .rcases Ea.mp hb with z|z
  .cases z;exact h
  .exact(r.ok b q z).mono (Same.refl F) λu z'=>by rw[aq (λe:b=p=>np (e ▸ cj z))];exact z'
 .rcases Ea.mp hb with z|z
  .rw[z];exact fh.free hp
  .exact r.fr b z
def GrowM.new{p:KF}(fh:Same F H)(hp:H p=o_):GrowM M ((p,o)::M) F H F (upd H p ho) where
 ff:=Same.refl F
 fh:=fh.trans (aQ hp _)
 hh:=λb u _ z=>aQ hp _ b u z
 out:=λb _ h _=>h
 ks:=λb h=>by
  rcases Ea.mp h with z|z
  .exact .inr (by rw[z];exact hp)
  .exact .inl z
structure RepZ(K:D6)(B F H:Hp)(z:SD)(s:L2.St)(M:MS):Prop where
 rs:RepS K B F H z s
 no:∀ (i:Nat) ds,z[i]?≠be (be (.own ds))
 rm:RepM K F H M
 mb:∀ a,a∈av M->B a=o_
variable{B:Hp}{M':MS}
def Kept.growM[Jx]{F0:Hp}(k:Kept B F0 F H)(mb:∀ a,a∈av M->B a=o_)(g:GrowM M M' F H F' H'):Kept B F0 F' H' where
 bh:=λb o e=>g.hh b o (λz=>by rw[mb b z] at e;cases e) (k.bh b o e)
 fh:=g.fh
 f0:=k.f0.trans g.ff
 out:=λb h1 h2=>g.out b (λz=>h2 (mb b z)) (k.out b h1 h2) (by
  cases e:B b with
  |none=>exact absurd e h2
  |some o=>rw[k.bh b o e];exact λz=>nomatch z)
 eb:=k.eb
 jf:=k.jf
 jo:=k.jo
variable{z:SD}{s:L2.St}
def RepS.growM(r:RepS K B F H z s)(no:∀ (i:Nat) ds,z[i]?≠be (be (.own ds)))(g:GrowM M M' F H F' H'):RepS K B F' H' z s where
 len:=r.len
 val:=λi d e n=>let ⟨v,q1,q2⟩:=r.val i d e n;⟨v,q1,q2.mono g.ff⟩
 own:=λi ds e=>absurd e (no i ds)
 apart:=r.apart
def RepZ.growM(r:RepZ K B F H z s M)(bh:Same B H)(g:GrowM M M' F H F' H')(rm:RepM K F' H' M'):RepZ K B F' H' z s M':=
 ⟨r.rs.growM r.no g,r.no,rm,λa h=>by
  rcases g.ks a h with q|q
  .exact r.mb a q
  .exact bh.free q⟩
def RepZ.set{i:Nat}{d:D}{v:V}(r:RepZ K B F H z s M)(rd:Rep K F d v):RepZ K B F H (z.set i (be d)) (s.set i (be v)) M:=
 ⟨r.rs.set rd,λj ds e=>by
  by_cases hj:i=j
  .subst hj;rw[Fk] at e;simp at e;have:=rd.noown;rw[e.2] at this;cases this
  .rw[Et hj] at e;exact r.no j ds e,r.rm,r.mb⟩
class Jm extends Jx where
 RM:SD->MS->XD
abbrev TME:=SD->MS->(D->MS->Prop)->Prop
abbrev TMT:=SD->MS->(Bool->MS->Prop)->Prop
abbrev TMA:=SD->MS->(List D->MS->Prop)->Prop
structure EndsM where
 nx:SD->MS->Prop
 rt:D->MS->Prop
 bk:SD->MS->Prop:=λ_ _=>False
 ct:SD->MS->Prop:=λ_ _=>False
abbrev TMS:=EndsM->SD->MS->Prop
def mE(K:D6)[J:Jm](t:TME):TE:=λs H Q=>∃ F z M,Kept J.B J.F0 F H/\RepZ K J.B F H z s M/\∃ R:D->MS->Prop,t z M R/\∀ d v M' F' H',GrowM M M' F H F' H'->R d M'->Rep K F' d v->RepM K F' H' M'->Q v H'
def mT(K:D6)[J:Jm](t:TMT):TT:=λs H Q=>∃ F z M,Kept J.B J.F0 F H/\RepZ K J.B F H z s M/\∃ R:Bool->MS->Prop,t z M R/\∀ b M' F' H',GrowM M M' F H F' H'->R b M'->RepM K F' H' M'->Q b H'
def mA(K:D6)[J:Jm](t:TMA):TA:=λs H Q=>∃ F z M,Kept J.B J.F0 F H/\RepZ K J.B F H z s M/\∃ R:List D->MS->Prop,t z M R/\∀ ds vs M' F' H',GrowM M M' F H F' H'->R ds M'->Reps K F' ds vs->RepM K F' H' M'->Q vs H'
structure EndsOkM[J:Jm](K:D6)(F0:Hp)(ED:EndsM)(E:Ends):Prop where
 nx:∀ z' s' M' F' H',Kept J.B F0 F' H'->ED.nx z' M'->RepZ K J.B F' H' z' s' M'->E.nx s' H'
 rt:∀ d v M' F' H',Kept J.B F0 F' H'->ED.rt d M'->Rep K F' d v->RepM K F' H' M'->(∀ a,a∈av M'->J.B a=o_)->E.rt v H'
 bk:∀ z' s' M' F' H',Kept J.B F0 F' H'->ED.bk z' M'->RepZ K J.B F' H' z' s' M'->E.bk s' H'
 ct:∀ z' s' M' F' H',Kept J.B F0 F' H'->ED.ct z' M'->RepZ K J.B F' H' z' s' M'->E.ct s' H'
def mS(K:D6)[J:Jm](t:TMS):TS:=λE s H=>∃ F0 F z M,Kept J.B F0 F H/\RepZ K J.B F H z s M/\∃ ED:EndsM,t ED z M/\EndsOkM K F0 ED E
structure ME(X:Cx)[Jm](e:PJ)(t:TME):Prop where
 out:PE X e (mE X.K t)
structure MT(X:Cx)[Jm](e:PJ)(t:TMT):Prop where
 out:PT X e (mT X.K t)
structure MW(X:Cx)[Jm](e:PJ)(t:TMT):Prop where
 out:PW X e (mT X.K t)
structure MA(X:Cx)[Jm](es:List PJ)(t:TMA):Prop where
 out:PA X es (mA X.K t)
structure MSt(X:Cx)[Jm](st:PL)(t:TMS):Prop where
 out:PS X st (mS X.K t)
structure MSs(X:Cx)[Jm](st:List PL)(t:TMS):Prop where
 out:PSs X st (mS X.K t)
section
variable {X:Cx}{a b c e:PJ}{ta tb:TME}{pos:P0}
def mP(t:TD):TME:=λz M R=>t z λd=>R d M
def mPT(t:TDT):TMT:=λz M R=>t z λd=>R d M
def mPA(t:TDA):TMA:=λz M R=>t z λd=>R d M
def ai[J:Jm]{t:TD}(h:WDE X e t):ME X e (mP t):=⟨PE.anti h.out λs H Q q=>by
 obtain⟨F,z,M,k,r,R,h1,h2⟩:=q;exact⟨J.B,F,z,k,r.rs,_,h1,λd v F' H' g hd rd=>h2 d v M F' H' g.toM hd rd (r.rm.grow g)⟩⟩
def bY[J:Jm]{t:TDT}(h:WDT X e t):MT X e (mPT t):=⟨PT.anti h.out λs H Q q=>by
 obtain⟨F,z,M,k,r,R,h1,h2⟩:=q;exact⟨J.B,F,z,k,r.rs,_,h1,λd F' H' g hd=>h2 d M F' H' g.toM hd (r.rm.grow g)⟩⟩
variable{es:List PJ}
def aD[J:Jm]{t:TDA}(h:WDA X es t):MA X es (mPA t):=⟨PA.anti h.out λs H Q q=>by
 obtain⟨F,z,M,k,r,R,h1,h2⟩:=q;exact⟨J.B,F,z,k,r.rs,_,h1,λd v F' H' g hd rd=>h2 d v M F' H' g.toM hd rd (r.rm.grow g)⟩⟩
def mOp(r:RD2)(ta tb:TME):TME:=λz M R=>ta z M λx M1=>tb z M1 λy M2=>r x y λd=>R d M2
variable{r:R2}{rd:RD2}
def qL[J:Jm]{e:PJ}{ta tb:TME}(L:bb X.K r rd)(h:PE X e (tOp r (mE X.K ta) (mE X.K tb))):ME X e (mOp rd ta tb):=⟨h.anti λs H Q q=>by
 obtain⟨F,z,M,k,rs,R,h1,h2⟩:=q;refine⟨F,z,M,k,rs,_,h1,λx u M1 F1 H1 g1 hx rx m1=>?_⟩;refine⟨F1,z,M1,k.growM rs.mb g1,rs.growM k.bh g1 m1,_,hx,λy v M2 F2 H2 g2 hy ry m2=>?_⟩;exact L x y u v F2 H2 _ Q g2.fh hy (rx.mono g2.ff) ry λd w F3 H3 g3 hd rd=>h2 d w M2 F3 H3 ((g1.trans g2).trans g3.toM) hd rd (m2.grow g3)⟩
def qM[J:Jm]{op:QX}(ho:OpR X (P8 op) r)(L:bb X.K r rd)(ha:ME X a ta)(hb:ME X b tb):ME X (.BinOp a op b pos) (mOp rd ta tb):=qL L (oF ho ha.out hb.out)
def qN[J:Jm](ha:ME X a ta)(hb:ME X b tb)(hs:autoParam (dU b) zA6):ME X (.Subscript a b pos) (mOp rdIx ta tb):=qL pV (pe_ix pv ha.out hb.out hs)
def gK[Jm](ha:ME X a ta)(hb:ME X b tb):ME X (.BinOp a .Add b pos) (mOp rdAdd ta tb):=qM pN pO ha hb
def jK[Jm](ha:ME X a ta)(hb:ME X b tb):ME X (.BinOp a .Sub b pos) (mOp rdSub ta tb):=qM oG pP ha hb
def mTst(t:TME):TMT:=λz M R=>t z M λx M1=>match x with| .bl k=>R k M1|_=>False
def gL[J:Jm]{op:Rv}(ho:OpR X (P6 op) r)(L:bb X.K r rd)(ha:ME X a ta)(hb:ME X b tb)(hm:P' op b=false):MT X (.Compare a [op] [b] pos) (mTst (mOp rd ta tb)):=⟨(oO ho ha.out hb.out hm).anti λs H Q q=>by
 obtain⟨F,z,M,k,rs,R,h1,h2⟩:=q;refine⟨F,z,M,k,rs,_,h1,λx u M1 F1 H1 g1 hx rx m1=>?_⟩;refine⟨F1,z,M1,k.growM rs.mb g1,rs.growM k.bh g1 m1,_,hx,λy v M2 F2 H2 g2 hy ry m2=>?_⟩;refine L x y u v F2 H2 _ _ g2.fh hy (rx.mono g2.ff) ry λd w F3 H3 g3 hd rd=>?_;dsimp only at hd;split at hd
 .exact⟨_,rep_bl.mp rd,h2 _ M2 F3 H3 ((g1.trans g2).trans g3.toM) hd (m2.grow g3)⟩
 .exact hd.elim⟩
def qO[Jm](ha:ME X a ta)(hb:ME X b tb):MT X (.Compare a [.Lt] [b] pos) (mTst (mOp rdLt ta tb)):=gL oM pS ha hb (nomark _)
def gM[Jm](ha:ME X a ta)(hb:ME X b tb):MT X (.Compare a [.Eq] [b] pos) (mTst (mOp rdEq ta tb)):=gL je jq ha hb (nomark _)
def qP[Jm](ha:ME X a ta)(hb:ME X b tb):MT X (.Compare a [.Is] [b] pos) (mTst (mOp (rdIs id) ta tb)):=gL oN pU ha hb (nomark _)
def yd[Jm](ha:ME X a ta)(hb:ME X b tb)(hm:autoParam (P' .NotIn b=false) zA0):MT X (.Compare a [.NotIn] [b] pos) (mTst (mOp (rdIn true) ta tb)):=gL xW xV ha hb hm
variable {tA tB:TMT}{rest:List PJ}
def mt_w[Jm](h:MW X a tA):MT X a tA:=⟨PW.pt h.out⟩
def ye[Jm](ha:MT X a tA):MW X (.BoolOp .And [a] pos) tA:=⟨oj ha.out⟩
def yf[Jm](ha:MT X a tA):MW X (.BoolOp .Or [a] pos) tA:=⟨ol ha.out⟩
def mAnd(tA tB:TMT):TMT:=λz M R=>tA z M λk M1=>if k=true then tB z M1 R else R false M1
def mOr(tA tB:TMT):TMT:=λz M R=>tA z M λk M1=>if k=true then R true M1 else tB z M1 R
def yg[J:Jm](ha:MT X a tA)(hb:MW X (.BoolOp .And (b::rest) pos) tB):MW X (.BoolOp .And (a::b::rest) pos) (mAnd tA tB):=⟨(om ha.out hb.out).anti λs H Q q=>by
 obtain⟨F,z,M,k,rs,R,h1,h2⟩:=q;refine⟨F,z,M,k,rs,_,h1,λx M1 F1 H1 g1 hx m1=>?_⟩;cases x with
 |true=>exact⟨F1,z,M1,k.growM rs.mb g1,rs.growM k.bh g1 m1,R,hx,λy M2 F2 H2 g2 hy m2=>h2 y M2 F2 H2 (g1.trans g2) hy m2⟩
 |false=>exact h2 _ M1 F1 H1 g1 hx m1⟩
def yi[J:Jm](ha:MT X a tA)(hb:MW X (.BoolOp .Or (b::rest) pos) tB):MW X (.BoolOp .Or (a::b::rest) pos) (mOr tA tB):=⟨(oq ha.out hb.out).anti λs H Q q=>by
 obtain⟨F,z,M,k,rs,R,h1,h2⟩:=q;refine⟨F,z,M,k,rs,_,h1,λx M1 F1 H1 g1 hx m1=>?_⟩;cases x with
 |false=>exact⟨F1,z,M1,k.growM rs.mb g1,rs.growM k.bh g1 m1,R,hx,λy M2 F2 H2 g2 hy m2=>h2 y M2 F2 H2 (g1.trans g2) hy m2⟩
 |true=>exact h2 _ M1 F1 H1 g1 hx m1⟩
def mIf(tc:TMT)(ta tb:TME):TME:=λz M R=>tc z M λk M1=>if k=true then ta z M1 R else tb z M1 R
def fK[J:Jm]{tc:TMT}(hc:MT X c tc)(ha:ME X a ta)(hb:ME X b tb):ME X (.IfExp c a b pos) (mIf tc ta tb):=⟨(tR hc.out ha.out hb.out).anti λs H Q q=>by
 obtain⟨F,z,M,k,rs,R,h1,h2⟩:=q;refine⟨F,z,M,k,rs,_,h1,λx M1 F1 H1 g1 hx m1=>?_⟩;cases x with
 |true=>exact⟨F1,z,M1,k.growM rs.mb g1,rs.growM k.bh g1 m1,R,hx,λd v M2 F2 H2 g2 hy rd m2=>h2 d v M2 F2 H2 (g1.trans g2) hy rd m2⟩
 |false=>exact⟨F1,z,M1,k.growM rs.mb g1,rs.growM k.bh g1 m1,R,hx,λd v M2 F2 H2 g2 hy rd m2=>h2 d v M2 F2 H2 (g1.trans g2) hy rd m2⟩⟩
def mNil:TMA:=λ_ M R=>R [] M
def yj(ta:TME)(tr:TMA):TMA:=λz M R=>ta z M λx M1=>tr z M1 λxs M2=>R (x::xs) M2
def bq[J:Jm]:MA X [] mNil:=⟨pa_nil.anti λs H Q q=>by
 obtain⟨F,z,M,k,rs,R,h1,h2⟩:=q;exact h2 [] [] M F H (GrowM.refl k.fh) h1 (reps_nil.mpr rfl) rs.rm⟩
variable{t:TMA}
def aR[J:Jm]{e:PJ}{te:TME}(ha:ME X e te)(hr:MA X es t)(hs:autoParam (zSE X e es) zA0):MA X (e::es) (yj te t):=⟨(bw ha.out hr.out hs).anti λs H Q q=>by
 obtain⟨F,z,M,k,rs,R,h1,h2⟩:=q;refine⟨F,z,M,k,rs,_,h1,λx u M1 F1 H1 g1 hx rx m1=>?_⟩;refine⟨F1,z,M1,k.growM rs.mb g1,rs.growM k.bh g1 m1,_,hx,λxs us M2 F2 H2 g2 hy ry m2=>?_⟩;exact h2 _ _ M2 F2 H2 (g1.trans g2) hy (reps_cons.mpr ⟨_,_,rfl,rx.mono g2.ff,ry⟩) m2⟩
def mTup(t:TMA):TME:=λz M R=>t z M λxs M1=>xs.length<=1000/\R (.tup xs) M1
def yk[J:Jm]{x1}(h:MA X es t):ME X (.Tuple es x1 pos) (mTup t):=⟨(oW h.out).anti λs H Q q=>by
 obtain⟨F,z,M,k,rs,R,h1,h2⟩:=q;refine⟨F,z,M,k,rs,_,h1,λds vs M1 F1 H1 g1 hx rx m1=>?_⟩;have hl:=rx.length;refine⟨sz (by rw[hl];exact hx.1),λp hp=>?_⟩;have gn:=Grow.new g1.fh hp (.tup vs);exact h2 _ _ M1 _ _ (g1.trans gn.toM) hx.2 (rep_tupS.mpr ⟨p,vs,rfl,ax,rx.mono (aQ (g1.fh.free hp) _)⟩) (m1.grow gn)⟩
def mLst(t:TMA):TME:=λz M R=>t z M λxs M1=>xs.length<=1000/\∀ p,p ∉ av M1->R (.ptr p) ((p,.lst xs)::M1)
def ym[J:Jm](h:MA X es t):ME X (.List es pos) (mLst t):=⟨(ji h.out).anti λs H Q q=>by
 obtain⟨F,z,M,k,rs,R,h1,h2⟩:=q;refine⟨F,z,M,k,rs,_,h1,λds vs M1 F1 H1 g1 hx rx m1=>?_⟩;have hl:=rx.length;refine⟨sz (by rw[hl];exact hx.1),λp hp=>?_⟩;exact h2 _ _ _ F1 _ (g1.trans (GrowM.new g1.fh hp)) (hx.2 p λz=>m1.here z hp) (rep_ptr.mpr rfl) (m1.new g1.fh hp ⟨vs,ax,rx⟩)⟩
def mCB(r:RDn)(t:TMA):TME:=λz M R=>t z M λds M1=>r ds λd=>R d M1
variable{x:y'}{p:P0}
def yn[J:Jm]{e:PJ}{id:String}{r:List V->Hp->VK->Prop}{rd:RDn}(hc:bA X (.builtin id) r)(L:bW X.K r rd)(hm:X.mg x=o_)(hv:P5 x=be (.builtin id))(ha:MA X (e::es) t)(hg:autoParam (Gl X x) zA0)(hn:autoParam (x≠"__name__") zA1)(d7:autoParam (zND x) zA1)
  (he:autoParam (zSE X e es) zA0) (c5:autoParam (zPL X pos es) zA0):ME X (.Call (.Name x p) (e::es) [] pos) (mCB rd t):=⟨(gk hc hg hm hv ha.out hn d7 he c5).anti λs H Q h=>by
 obtain⟨F,z,M,k,rs,R,h1,h2⟩:=h;refine⟨F,z,M,k,rs,_,h1,λds vs M1 F1 H1 g1 hx rx m1=>?_⟩;exact L ds vs F1 H1 _ Q g1.fh hx rx λd w F' H' g hd rd=>h2 d w M1 F' H' (g1.trans g.toM) hd rd (m1.grow g)⟩
def qQ[Jm]{e:PJ}(hm:X.mg "len"=o_)(ha:MA X [e] t)(hg:autoParam (Gl X "len") zA0)(he:autoParam (zSE X e []) zA0):ME X (.Call (.Name "len" p) [e] [] pos) (mCB rdLen t):=yn jg pX hm PySem.boot_len ha hg (by decide) (by decide) he
def yo[J:Jm]{e:PJ}{T:String}{r:List V->Hp->VK->Prop}{rd:RDn}(hc:bA X (.type T) r)(L:bW X.K r rd)(hm:X.mg x=o_)(hv:P5 x=be (.type T))(ha:MA X (e::es) t)(hg:autoParam (Gl X x) zA0)(hn:autoParam (x≠"__name__") zA1)(d7:autoParam (zND x) zA1)
  (he:autoParam (zSE X e es) zA0) (c5:autoParam (zPL X pos es) zA0):ME X (.Call (.Name x p) (e::es) [] pos) (mCB rd t):=⟨(pe hc hg hm hv ha.out hn d7 he c5).anti λs H Q h=>by
 obtain⟨F,z,M,k,rs,R,h1,h2⟩:=h;refine⟨F,z,M,k,rs,_,h1,λds vs M1 F1 H1 g1 hx rx m1=>?_⟩;exact L ds vs F1 H1 _ Q g1.fh hx rx λd w F' H' g hd rd=>h2 d w M1 F' H' (g1.trans g.toM) hd rd (m1.grow g)⟩
def qR[Jm](hm:X.mg "int"=o_)(ha:MA X [e] t)(hg:autoParam (Gl X "int") zA0)(he:autoParam (zSE X e []) zA0):ME X (.Call (.Name "int" p) [e] [] pos) (mCB rdInt t):=yo qf qg hm PyProof.Rows.boot_int ha hg (by decide) (by decide) he
def eL(M:MS)(d:D)(x:y')(fs:List (y' × D)):Prop:=match d with| .ptr a=>mget M a=be (.ins x fs)| .obj y gs=>y=x/\gs=fs|_=>False
def mFld(x f:y')(te:TME):TME:=λz M R=>te z M λd M1=>∃ fs,eL M1 d x fs/\∃ d',fs.lookup f=be d'/\R d' M1
def jL{K:D6}{F H:Hp}{M:MS}{d:D}{v:V}{fs:List (y' × D)}(fh:Same F H)(rm:RepM K F H M)(rd:Rep K F d v)(h:eL M d x fs):∃ a C dx ws,v= .ref a/\nsIn K Pi x=be (be (.ref C))/\H a=be (.ins C dx ws)/\RepF K F fs ws:=by
 unfold eL at h;split at h
 .rename_i a;obtain⟨C,dx,ws,n,h1,h2⟩:=rm.ok _ _ (bO h);exact⟨a,C,dx,ws,rep_ptr.mp rd,n,h1,h2⟩
 .obtain⟨rfl,rfl⟩:=h;obtain⟨a,C,dx,ws,e,n,h1,h2⟩:=rep_obj.mp rd;exact⟨a,C,dx,ws,e,n,fh _ _ h1,h2⟩
 .exact h.elim
def aK[J:Jm]{f:y'}(hA:ClsA X.K x f)(he:ME X e ta)(hb:autoParam (PV e f X.env (PX e X.env)=PX e X.env) zA0):ME X (.Attribute e f pos) (mFld x f ta):=⟨(oS he.out hb).anti λs H Q q=>by
 obtain⟨C,hn,hc,hf⟩:=hA;obtain⟨F,z,M,k,rs,R,h1,h2⟩:=q;refine⟨F,z,M,k,rs,_,h1,λd u M1 F1 H1 g1 hx rx m1=>?_⟩;obtain⟨fs,hi,d',hl,hR⟩:=hx;obtain⟨a,C',dx,ws,rfl,k8,hH,rf⟩:=jL g1.fh m1 rx hi;rw[hn] at k8;cases k8;obtain⟨v,l,rv⟩:=rf.look hl;exact⟨a,C,dx,ws,v,rfl,hH,hc,hf,l,h2 d' v M1 F1 H1 g1 hR rv m1⟩⟩
end
abbrev XDM:=y'->List (y' × D)->MS->Prop
abbrev SpM:=List D->MS->(D->MS->Prop)->XDM->Prop
def lSpM(K:D6)(S:SpM):Sp:=λvs H Q E=>∃ F ds M,Same F H/\Reps K F ds vs/\RepM K F H M/\∃ (R:D->MS->Prop) (RX:XDM),S ds M R RX/\(∀ d v M' F' H',GrowM M M' F H F' H'->R d M'->Rep K F' d v->RepM K F' H' M'->Q v H')/\
 ∀ x fs C od M' F' H',GrowM M M' F H F' H'->RX x fs M'->ErrD K F' x fs C od->RepM K F' H' M'->E (.ref C) od H'
abbrev CalMM(P:PH)(w:PP)(K:D6)(mg:y'->Option KB)(base:Heap)(n:Nat)(x:y')(ps:List y')(S:SpM):Prop:=Cal P w K mg base n x ps (lSpM K S)
def ofX(S:SpX):SpM:=λds M R RX=>S ds (λd=>R d M) λx fs=>RX x fs M
def ofD(S:SpD):SpM:=λds M R _=>S ds λd=>R d M
variable{vs:List V}
def yp{S:SpX}{Q:VK}{E:XK}(h:lSpM K (ofX S) vs H Q E):lSpX K S vs H Q E:=by
 obtain⟨F,ds,M,fh,rs,rm,R,RX,hS,q,qx⟩:=h;exact⟨F,ds,fh,rs,_,_,hS,λd v F' H' g hd rd=>q d v M F' H' g.toM hd rd (rm.grow g),λx fs C od F' H' g hR er=>qx x fs C od M F' H' g.toM hR er (rm.grow g)⟩
def yq{S:SpD}{Q:VK}{E:XK}(h:lSpM K (ofD S) vs H Q E):lSp K S vs H Q E:=by
 obtain⟨F,ds,M,fh,rs,rm,R,RX,hS,q,qx⟩:=h;exact⟨F,ds,fh,rs,_,hS,λd v F' H' g hd rd=>q d v M F' H' g.toM hd rd (rm.grow g)⟩
section
variable {P:PH}{w:PP}{K:D6}{mg:y'->Option KB}{base:Heap}{n:Nat}{x:y'}{ps:List y'}
def CalX.toM{S:SpX}(C:CalX P w K mg base n x ps S):CalMM P w K mg base n x ps (ofX S):=by
 obtain⟨f,fd,F,hb,hk,hm⟩:=C;exact⟨f,fd,F.imp λvs H Q E h=>yp h,hb,hk,hm⟩
def CalD.toM{S:SpD}(C:CalD P w K mg base n x ps S):CalMM P w K mg base n x ps (ofD S):=by
 obtain⟨f,fd,F,hb,hk,hm⟩:=C;exact⟨f,fd,F.imp λvs H Q E h=>yq h,hb,hk,hm⟩
def CalMth(P:PH)(w:PP)(K:D6)(mg:y'->Option KB)(base:Heap)(n:Nat)(x m:y')(ps:List y')(sp:Sp):Prop:=
 ∃ C f fd,nsIn K Pi x=be (be (.ref C))/\Cls K C/\Meth K C m f/\FnOk P w K mg base (CX1 P w) n f fd ps sp/\Binds K fd ps []
variable{sp:Sp}
def Cal.mono{n':Nat}(h:Cal P w K mg base n x ps sp)(hn:n<=n'):Cal P w K mg base n' x ps sp:=by
 obtain⟨f,fd,F,h⟩:=h;exact⟨f,fd,F.mono hn,h⟩
def Cal.imp{Hz:Sp}(h:Cal P w K mg base n x ps sp)(i:∀ vs H Q E,Hz vs H Q E->sp vs H Q E):Cal P w K mg base n x ps Hz:=by
 obtain⟨f,fd,F,h⟩:=h;exact⟨f,fd,F.imp i,h⟩
def CalMth.imp{m:y'}{Hz:Sp}(h:CalMth P w K mg base n x m ps sp)(i:∀ vs H Q E,Hz vs H Q E->sp vs H Q E):CalMth P w K mg base n x m ps Hz:=by
 obtain⟨C,f,fd,h1,h2,h3,h4,h5⟩:=h;exact⟨C,f,fd,h1,h2,h3,h4.imp i,h5⟩
end
def XOkM(X:Cx)[J:Jm]:Prop:=∀ (σ:L2.St) (z:SD) (M:MS) (F H:Hp) (s:KM) (e C:KF) (od:Option KF) (x:y') (fs:List (y' × D)),Inv X [] σ H s->Kept J.B J.F0 F H->RepZ X.K J.B F H z σ M->J.RM z M x fs->ErrD X.K F x fs C od->Exd X H s e C od->X.xe (.ref e) s
def EX(X:Cx)[J:Jm](z:SD)(σ:L2.St):XK:=λCv od H'=>∃ x fs C M' F',Cv= .ref C/\Kept J.B J.F0 F' H'/\RepZ X.K J.B F' H' z σ M'/\J.RM z M' x fs/\ErrD X.K F' x fs C od
def XOkM.out{X:Cx}[J:Jm](hx:XOkM X)(f6:X.ex=[]){pins:List (KF × P7)}{σ:L2.St}{s s':KM}{ev:KB}(I:Inv X pins σ H s)
  (h:CX1 X.prog X.w X.stack H s (EX X z σ) ev s'):X.xe ev s':=by
 obtain⟨e,C,od,T,H',rfl,y_,hb,un,hok,Ld,ne,nT,He,HT,x,fs,C',M',F',hC,kk,rr,hR,er⟩:=h;cases hC;have I':Inv X pins σ H' s':=I.call' y_ un hok hb (λb z=>absurd z (by simp));exact hx σ z M' F' H' s' e C od x fs (Inv.nopins I') kk rr hR er ⟨He,cD I f6 ne,pn_free I ne,.inr ⟨T,Ld,cD I f6 nT,HT,pn_free I nT⟩⟩
section
variable {X:Cx}[J:Jm]{a b c e o:PJ}{ta tb te:TME}{pos p apos cpos:P0}{n m:Nat}{ps:List y'}{S:SpM}{x:y'}{es:List PJ}{t:TMA}
def yr(S:SpM)(t:TMA):TME:=λz M R=>t z M λds M1=>S ds M1 R λx fs M'=>J.RM z M' x fs
variable{ds:List D}{vs:List V}
def jM{σ:L2.St}{z:SD}{M M1:MS}{F H F1 H1:Hp}{Q:VK}{R:D->MS->Prop}(k:Kept J.B J.F0 F H)(rs:RepZ X.K J.B F H z σ M)(g1:GrowM M M1 F H F1 H1)(m1:RepM X.K F1 H1 M1)(rx:Reps X.K F1 ds vs)
  (hS:S ds M1 R λx fs M'=>J.RM z M' x fs) (h2:∀ d v M' F' H',GrowM M M' F H F' H'->R d M'->Rep X.K F' d v->RepM X.K F' H' M'->Q v H'):lSpM X.K S vs H1 Q (EX X z σ):=
 ⟨F1,ds,M1,g1.fh,rx,m1,R,_,hS,λd v M' F' H' g hd rd m'=>h2 d v M' F' H' (g1.trans g) hd rd m',λy fs C od M' F' H' g hR er m'=>⟨y,fs,C,M',F',rfl,(k.growM rs.mb g1).growM (rs.growM k.bh g1 m1).mb g,(rs.growM k.bh g1 m1).growM (k.growM rs.mb g1).bh g m',hR,er⟩⟩
def bc(C:CalMM X.prog X.w X.K X.mg X.base n x ps S)(hx:XOkM X)(hr:Room m X.A)(ha:MA X (e::es) t)(f6:autoParam (X.ex=[]) zA0)(hg:autoParam (Gl X x) zA0)(hn:autoParam (n<=m) zA1)(d7:autoParam (zND x) zA1)
  (he:autoParam (zSE X e es) zA0) (c5:autoParam (zPL X pos es) zA0):
  ME X (.Call (.Name x p) (e::es) [] pos) (yr S t):=by
 obtain⟨f,fd,F,hb,hk,hm⟩:=C;refine⟨λpins s σ H Q I h=>?_⟩;obtain⟨Fr,z,M,k,rs,R,h1,h2⟩:=h;refine PZ (cB I hg hm ?_ d7);refine callWith_K (h₀:=X.base) I.ok.mod.kin hk (thn (ha.out pos pins s σ H (λvs H1=>lSpM X.K S vs H1 Q (EX X z σ)) I ⟨Fr,z,M,k,rs,_,h1,λds vs M1 F1 H1 g1 hx rx m1=>jM k rs g1 m1 rx hx h2⟩) λus s1 hh=>⟨hh.elim λ_ h=>h.elim λ_ h=>h.1.kIn,?_⟩) he c5;obtain⟨vs,H1,I1,r,q⟩:=hh;exact gE F (hr.mono hn) hb (λe s' hq=>hx.out f6 I1 hq) I1 r q
def qS(cs:List y')(m:y')(S:y'->SpM)(to:TME)(t:TMA):TME:=λz M R=>to z M λd M1=>∃ x,x∈cs/\∃ fs,eL M1 d x fs/\fs.lookup m=o_/\t z M1 λds M2=>S x (d::ds) M2 R λx fs M'=>J.RM z M' x fs
variable{cs:List y'}{pl:Q_ Bool}
def aY{nm:y'}{S:y'->SpM}(C:∀ x,x∈cs->CalMth X.prog X.w X.K X.mg X.base n x nm ps (lSpM X.K (S x)))(hx:XOkM X)(hr:Room m X.A)(ho:ME X o te)(ha:MA X (e::es) t)(f6:autoParam (X.ex=[]) zA0)(hn:autoParam (n<=m) zA1)
  (m4:autoParam (zSE X e es) zA0) (c5:autoParam (zPL X pos es) zA0)
  (ht:PX (.Call (.Attribute o nm apos) (e::es) [] pos) X.env=(do
   let ov <- PX o X.env
   Qz apos.atName
   let (f,first) <- Qh [ov] (QP ov nm pl)
   callWith pos f first (Qo pos (PR (e::es) X.env)) (QH pos (Qm [] X.env))):=by rfl):
  ME X (.Call (.Attribute o nm apos) (e::es) [] pos) (qS cs nm S te t):=by
 refine⟨λpins s σ H Q I h=>?_⟩;obtain⟨Fr,z,M,k,rs,R,h1,h2⟩:=h;refine methodCall_KW (pl:=pl) (thn (ho.out pins s σ H (λv H1=>∃ d M1 F1,GrowM M M1 Fr H F1 H1/\Rep X.K F1 d v/\RepM X.K F1 H1 M1/\∃ x,x∈cs/\∃ fs,eL M1 d x fs/\fs.lookup nm=o_/\t z M1 λds M2=>S x (d::ds) M2 R λx fs M'=>J.RM z M' x fs) I ⟨Fr,z,M,k,rs,_,h1,λd v M1 F1 H1 g1 hd rd m1=>⟨d,M1,F1,g1,rd,m1,hd⟩⟩) λu s1 hh=>?_) ht;obtain⟨v,H1,I1,rv,d,M1,F1,g1,rd,m1,x,Lh,fs,hi,hl,hq⟩:=hh;obtain⟨C',f,fd,hns,j7,Jv,F,hb⟩:=C x Lh;obtain⟨a,C2,dx,ws,rfl,v5,hH,rf⟩:=jL g1.fh m1 rd hi;rw[hns] at v5;cases v5;obtain rfl:u=Value.ref a:=rv;refine oR I1 hH j7 Jv (rf.none hl) ?_;refine callWith_K (first:=[.ref a]) (h₀:=X.base) I.ok.mod.kin Jv.kp (thn (ha.out pos pins s1 σ H1 (λvs H2=>lSpM X.K (S x) (.ref a::vs) H2 Q (EX X z σ)) I1 ⟨F1,z,M1,k.growM rs.mb g1,rs.growM k.bh g1 m1,_,hq,λds vs M2 F2 H2 g2 hx rx m2=>jM k rs (g1.trans g2) m2 (reps_cons.mpr ⟨_,_,rfl,rd.mono g2.ff,rx⟩) hx h2⟩) λus s2 hh=>⟨hh.elim λ_ h=>h.elim λ_ h=>h.1.kIn,?_⟩) m4 c5;obtain⟨vs,H2,I2,r,q2⟩:=hh;exact gE (us:= .ref a::us) (vs:= .ref a::vs) F (hr.mono hn) hb (λe s' hq=>hx.out f6 I2 hq) I2 (.cons rfl r) q2
def dF{nm:y'}{S:y'->SpM}(C:∀ x,x∈cs->CalMth X.prog X.w X.K X.mg X.base n x nm ps (lSpM X.K (S x)))(hx:XOkM X)(hr:Room m X.A)(ho:ME X o te)(f6:autoParam (X.ex=[]) zA0)(hn:autoParam (n<=m) zA1)
  (ht:PX (.Call (.Attribute o nm apos) [] [] pos) X.env=(do
   let ov <- PX o X.env
   Qz apos.atName
   let (f,first) <- Qh [ov] (QP ov nm pl)
   callWith pos f first (Qo pos (PR [] X.env)) (QH pos (Qm [] X.env))):=by rfl):
  ME X (.Call (.Attribute o nm apos) [] [] pos) (qS cs nm S te mNil):=by
 refine⟨λpins s σ H Q I h=>?_⟩;obtain⟨Fr,z,M,k,rs,R,h1,h2⟩:=h;refine methodCall_KW (pl:=pl) (thn (ho.out pins s σ H (λv H1=>∃ d M1 F1,GrowM M M1 Fr H F1 H1/\Rep X.K F1 d v/\RepM X.K F1 H1 M1/\∃ x,x∈cs/\∃ fs,eL M1 d x fs/\fs.lookup nm=o_/\S x [d] M1 R λx fs M'=>J.RM z M' x fs) I ⟨Fr,z,M,k,rs,_,h1,λd v M1 F1 H1 g1 hd rd m1=>⟨d,M1,F1,g1,rd,m1,hd⟩⟩) λu s1 hh=>?_) ht;obtain⟨v,H1,I1,rv,d,M1,F1,g1,rd,m1,x,Lh,fs,hi,hl,hq⟩:=hh;obtain⟨C',f,fd,hns,j7,Jv,F,hb⟩:=C x Lh;obtain⟨a,C2,dx,ws,rfl,v5,hH,rf⟩:=jL g1.fh m1 rd hi;rw[hns] at v5;cases v5;obtain rfl:u=Value.ref a:=rv;refine oR I1 hH j7 Jv (rf.none hl) ?_;refine callWith_K0 (first:=[.ref a]) I1.kIn Jv.kp (gE (E:=EX X z σ) (us:=[.ref a]) (vs:=[.ref a]) F (hr.mono hn) hb (λe s' hq=>hx.out f6 I1 hq) I1 (.cons rfl .nil) ?_);exact jM k rs g1 m1 (eB rd) hq h2
def make_of{C:KF}{S:SiD}{x:y'}{σ:L2.St}{z:SD}{M M1:MS}{F H F1 H1:Hp}{a dx:KF}{Q:VK}{E:XK}{T:List (y' × D)->Prop}(g1:GrowM M M1 F H F1 H1)(m1:RepM X.K F1 H1 M1)(rx:Reps X.K F1 ds vs)(hS:S ds T)
  (ha:H1 a=o_) (u_:H1 dx=o_) (j8:dx≠a) (q:∀ fs ws dx F' H',Grow F1 H1 F' H'->T fs->H' a=be (.ins C dx ws)->F' a=o_->RepF X.K F' fs ws->Q (.ref a) H'):
  lSi X.K C S (.ref a::(vs++[])) (upd (upd H1 dx (.own a)) a (.ins C dx [])) (λv H2=>v= .non/\Q (.ref a) H2) E:=
 ⟨a,dx,vs,H1,F1,ds,by rw[EI],rfl,ha,u_,j8,g1.fh,rx,_,hS,λfs ws D' F' H' g hR f7 i9 rf=>⟨rfl,q fs ws D' F' H' g hR f7 i9 rf⟩⟩
def yt(x:y')(S:SiD)(t:TMA):TME:=λz M R=>t z M λds M1=>S ds λfs=>R (.obj x fs) M1
def gN{S:SiD}(M:CalM X.prog X.w X.K X.mg X.base n x ps S)(hr:Room m X.A)(ha:MA X (e::es) t)(hg:autoParam (Gl X x) zA0)(hn:autoParam (n+1<=m) zA1)(d7:autoParam (zND x) zA1)
  (he:autoParam (zSE X e es) zA0) (c5:autoParam (zPL X pos es) zA0):
  ME X (.Call (.Name x p) (e::es) [] pos) (yt x S t):=by
 obtain⟨C,f,fd,hns,l8,mk,F,hb⟩:=M;refine⟨(jj mk F (hr.mono hn) hg l8 hb .nil fz ha.out d7 he c5).anti λs H Q q=>?_⟩;obtain⟨F,z,M,k,rs,R,h1,h2⟩:=q;refine⟨F,z,M,k,rs,_,h1,λds vs M1 F1 H1 g1 hx rx m1=>?_⟩;intro a dx ha u_ j8;refine make_of (σ:=s) (z:=z) (x:=x) g1 m1 rx hx ha u_ j8 λfs ws dx F' H' g hR f7 i9 rf=>?_;have s1:Same F' (upd F' a (.ins C dx ws)):=aQ i9 _;have g2:Grow F1 H1 (upd F' a (.ins C dx ws)) H':=⟨g.ff.trans s1,λb o q=>by
  by_cases hb:b=a
  .subst hb;rw[ax] at q;cases q;exact f7
  .rw[aq hb] at q;exact g.fh b o q,g.hh,λb q1 q2=>by
  by_cases hb:b=a
  .subst hb;exact absurd ha q2
  .rw[aq hb];exact g.out b q1 q2⟩
 exact h2 (.obj x fs) (.ref a) M1 (upd F' a (.ins C dx ws)) H' (g1.trans g2.toM) hR (rep_obj.mpr ⟨a,C,dx,ws,rfl,hns,ax,RepF.mono s1 fs ws rf⟩) (m1.grow g2)
def yu(x:y')(S:SiD)(t:TMA):TME:=λz M R=>t z M λds M1=>S ds λfs=>∀ a,a ∉ av M1->R (.ptr a) ((a,.ins x fs)::M1)
def yw{S:SiD}(M:CalM X.prog X.w X.K X.mg X.base n x ps S)(hr:Room m X.A)(ha:MA X (e::es) t)(hg:autoParam (Gl X x) zA0)(hn:autoParam (n+1<=m) zA1)(d7:autoParam (zND x) zA1)
  (he:autoParam (zSE X e es) zA0) (c5:autoParam (zPL X pos es) zA0):
  ME X (.Call (.Name x p) (e::es) [] pos) (yu x S t):=by
 obtain⟨C,f,fd,hns,l8,mk,F,hb⟩:=M;refine⟨(jj mk F (hr.mono hn) hg l8 hb .nil fz ha.out d7 he c5).anti λs H Q q=>?_⟩;obtain⟨F,z,M,k,rs,R,h1,h2⟩:=q;refine⟨F,z,M,k,rs,_,h1,λds vs M1 F1 H1 g1 hx rx m1=>?_⟩;intro a dx ha u_ j8;refine make_of (σ:=s) (z:=z) (x:=x) g1 m1 rx hx ha u_ j8 λfs ws dx F' H' g hR f7 i9 rf=>?_;have na:a ∉ av M1:=λz=>m1.here z ha;have m2:=m1.grow g;refine h2 (.ptr a) (.ref a) _ F' H' (g1.trans ⟨g.ff,g.fh,λb o _ q=>g.hh b o q,λb _ q1 q2=>g.out b q1 q2,λb q=>?_⟩) (hR a na) (rep_ptr.mpr rfl) ⟨EW.mpr ⟨na,m2.nd⟩,λb o q=>?_,λb q=>?_⟩
 .rcases Ea.mp q with q|q
  .exact .inr (by rw[q];exact ha)
  .exact .inl q
 .rcases Ea.mp q with q|q
  .cases q;exact⟨C,dx,ws,hns,f7,rf⟩
  .exact m2.ok b o q
 .rcases Ea.mp q with q|q
  .rw[q];exact i9
  .exact m2.fr b q
end
section
variable {X:Cx}{x:y'}{e:PJ}{es:List PJ}{t:TA}{p cpos pos:P0}{n m:Nat}{ps:List y'}{S:SiD}
def gO(X:Cx)(σ:L2.St)(F1 H1:Hp)(x:y')(fs:List (y' × D)):Prop:=∀ F' H' s' e C od,Inv X [] σ H' s'->Grow F1 H1 F' H'->ErrD X.K F' x fs C od->Exd X H' s' e C od->X.xe (.ref e) s'
def yx(M:CalE X.prog X.w X.K X.mg X.base n x ps S)(hr:Room m X.A)(hc:X.calm=true)(ha:PA X (e::es) t)(f6:autoParam (X.ex=[]) zA0)(hg:autoParam (Gl X x) zA0)(hn:autoParam (n+1<=m) zA1)(d7:autoParam (zND x) zA1)
  (he:autoParam (zSE X e es) zA0) (c5:autoParam (zPL X cpos es) zA0):
  PS X (.Raise (be (.Call (.Name x p) (e::es) [] cpos)) o_ pos) (λ_ σ H=>t σ H λvs H1=>vs.length<=1000/\∃ F1 ds,Same F1 H1/\Reps X.K F1 ds vs/\∃ T:List (y' × D)->Prop,S ds T/\∀ fs,T fs->gO X σ F1 H1 x fs):=by
 obtain⟨C,N,bm,f,fd,k,hi,IM,Fn,hb⟩:=M;intro pins s σ H D I h;obtain⟨nm,q,bs,sn,sub,ab,col,dd,k0,k1,k2,k3,k5,lk⟩:=k.obj;refine jn (nm:=nm) (q:=q) (C:=C) (N:=N) (bs:=bs) (bm:=bm) (hdct:=true) (sn:=sn) (sub:=sub) (ab:=ab) (col:=col) (dd:=dd) (k0:=k0) (k1:=k1) (k2:=k2) (k3:=k3) (k5:=k5) (newId:="ValueError.__new__") k.base (I.ok.hd hc) ?_;refine PZ (cB I hg k.mg ?_ d7);refine callWith_K (h₀:=X.base) I.ok.mod.kin k.kp (thn (ha cpos pins s σ H _ I h) λus s1 hh=>⟨hh.elim λ_ h=>h.elim λ_ h=>h.1.kIn,?_⟩) he c5;obtain⟨vs,H1,I1,r,hl,F1,ds,Li,rx,T,hS,hT⟩:=hh;have hC:=I1.kIn _ _ lk;have Oe:us.length<=sizeLine:=by rw[<- L2.Vals.length r];exact sz hl
 refine wx (g:=s1.gens) (d:=s1.drawn) (t:=s1.toks) (os:=s1.os) (rest:=us) I1.kIn (tail_of_in I1.kIn k.tail) hC hi (beq_iff_eq.mp IM) (λh' ea hm=>?_) Oe;have I2:=Inv.newx I1 f6 hm;have r2:Vals (V.ref ea::vs) (Value.ref ea::us):= .cons rfl r;have He:H1 ea=none:=gG I1.hok hm.new;have q8:lEi X.K C S (V.ref ea::vs) (upd H1 ea (XN ea C o_)) (λv H'=>v= .non/\∃ fs od F',Grow F1 H1 F' H'/\gO X σ F1 H1 x fs/\H' ea=be (XN ea C od)/\F' ea=o_/\ErrF X.K F' fs od) (λ_ _ _=>False):=
  ⟨ea,vs,H1,F1,ds,rfl,rfl,He,Li,rx,_,hS,λfs od F' H' g hR h1 h2 h3=>⟨rfl,fs,od,F',g,hT fs hR,h1,h2,h3⟩⟩
 have b7:(Value.ref ea::us).length=ps.length:=by rw[<- L2.Vals.length r2];exact Fn.len _ _ _ _ q8
 have gt:=hb {s1 with heap:=h'} (Value.ref ea::us) I2.kIn (by rw[EI];exact b7);rw[EI] at gt;refine Qy (Qq (Fn.run _ X.stack _ _ ⟨Value.ref ea::us,[]⟩ (Value.ref ea::us) _ _ _ ((hr.mono hn).make C us []) (I2.env0.make C us []) gt r2 q8) λrr s' hq=>?_);cases rr with
 |error e'=>exact(fz (X:=X) pins σ _ _ e' s' I2 hq:X.xe e' s')
 |ok fl=>
  cases fl with
  |next=>exact False.elim hq
  |brk=>exact False.elim hq
  |cont=>exact False.elim hq
  |ret u=>
   obtain⟨v,H',I3,rv,rfl,fs,od,F',g,hR,v4,Of,er⟩:=I2.after hq;obtain rfl:u=Value.none:=rv;refine⟨rfl,?_⟩;have e0:X.s₀.heap.get? ea=none:=cD I1 f6 hm.new;have I4:=Inv.drop I3 v4 e0;obtain⟨ta,sl,n5⟩:=XN.get I3.hok v4;have g4:Grow F1 H1 F' (del H' ea):=⟨g.ff,λb o q=>by
    have:b≠ea:=λz=>by rw[z,Of] at q;cases q
    rw[bX this];exact g.fh b o q,λb o q=>by
    have:b≠ea:=λz=>by rw[z,He] at q;cases q
    rw[bX this];exact g.hh b o q,g.out⟩
   refine⟨ea,ta,od,sl,rfl,I3.kIn _ _ lk,n5,?_⟩;exact hR F' (del H' ea) s' ea C od (Inv.nopins I4) g4 ⟨k.ns,er⟩ ⟨fJ,e0,pn_free I1 hm.new,.inl ⟨sl,_,n5,rfl⟩⟩
def yy(h:∃ C N bm,ErrK X.K X.mg x C N bm/\ErrN X.K N)(hc:X.calm=true)(ha:PA X (e::es) t)(f6:autoParam (X.ex=[]) zA0)(hg:autoParam (Gl X x) zA0)(d7:autoParam (zND x) zA1)
  (he:autoParam (zSE X e es) zA0) (c5:autoParam (zPL X cpos es) zA0):
  PS X (.Raise (be (.Call (.Name x p) (e::es) [] cpos)) o_ pos) (λ_ σ H=>t σ H λvs H1=>vs.length<=1000/\∃ F1,Same F1 H1/\gO X σ F1 H1 x []):=by
 obtain⟨C,N,bm,k,kn⟩:=h;intro pins s σ H D I h;obtain⟨nm,q,bs,sn,sub,ab,col,dd,k0,k1,k2,k3,k5,lk⟩:=k.obj;refine jn (nm:=nm) (q:=q) (C:=C) (N:=N) (bs:=bs) (bm:=bm) (hdct:=true) (sn:=sn) (sub:=sub) (ab:=ab) (col:=col) (dd:=dd) (k0:=k0) (k1:=k1) (k2:=k2) (k3:=k3) (k5:=k5) (newId:="ValueError.__new__") k.base (I.ok.hd hc) ?_;refine PZ (cB I hg k.mg ?_ d7);refine callWith_K (h₀:=X.base) I.ok.mod.kin k.kp (thn (ha cpos pins s σ H _ I h) λus s1 hh=>⟨hh.elim λ_ h=>h.elim λ_ h=>h.1.kIn,?_⟩) he c5;obtain⟨vs,H1,I1,r,hl,F1,Li,hR⟩:=hh;have hC:=I1.kIn _ _ lk;obtain⟨hp,gg,dr,tk,os⟩:=s1;refine Rh PySem.F.excBase_ValueError (tail_of_in I1.kIn k.tail) hC (.of_isNs (isNs_of_in I1.kIn kn.ok)) (nsMap_none_of_in I1.kIn kn.ok kn.no) (λh' ea hm=>?_) (by show us.length<=_;rw[<- L2.Vals.length r];exact sz hl);obtain⟨ta,h1,h2,h3⟩:=hm.there;have I2:Inv X pins σ H1 ⟨h',gg,dr,tk,os⟩:=I1.kept (t':=tk) hm.keeps;refine⟨ea,ta,o_,#[],rfl,hm.keeps _ _ hC,h1,?_⟩;exact hR F1 H1 _ ea C o_ (Inv.nopins I2) (Grow.refl Li) ⟨k.ns,[],repf_nil.mpr rfl,.inl ⟨rfl,rfl⟩⟩ ⟨gG I1.hok hm.new,cD I1 f6 hm.new,pn_free I1 hm.new,.inl ⟨#[],_,h1,rfl⟩⟩
end
section
variable {X:Cx}[J:Jm]{x:y'}{e:PJ}{es:List PJ}{t:TMA}{p cpos pos:P0}{n m:Nat}{ps:List y'}{S:SiD}
def yz(x:y')(S:SiD)(t:TMA):TMS:=λ_ z M=>t z M λds M1=>ds.length<=1000/\S ds λfs=>J.RM z M1 x fs
def qT{σ:L2.St}{z:SD}{M M1:MS}{F H F1 H1:Hp}{fs:List (y' × D)}(hx:XOkM X)(k:Kept J.B J.F0 F H)(rs:RepZ X.K J.B F H z σ M)(g1:GrowM M M1 F H F1 H1)(m1:RepM X.K F1 H1 M1)(hR:J.RM z M1 x fs):gO X σ F1 H1 x fs:=λF' H' s' e C od I g er ex=>
 hx σ z M1 F' H' s' e C od x fs I ((k.growM rs.mb g1).grow g) ((rs.growM k.bh g1 m1).growM (k.growM rs.mb g1).bh g.toM (m1.grow g)) hR er ex
def jN(M:CalE X.prog X.w X.K X.mg X.base n x ps S)(hr:Room m X.A)(hx:XOkM X)(hc:X.calm=true)(ha:MA X (e::es) t)(f6:autoParam (X.ex=[]) zA0)(hg:autoParam (Gl X x) zA0)(hn:autoParam (n+1<=m) zA1)(d7:autoParam (zND x) zA1)
  (he:autoParam (zSE X e es) zA0) (c5:autoParam (zPL X cpos es) zA0):
  MSt X (.Raise (be (.Call (.Name x p) (e::es) [] cpos)) o_ pos) (yz x S t):=⟨(yx M hr hc ha.out f6 hg hn d7 he c5).anti λE s H q=>by
 obtain⟨F0,F,z,M,k,rs,ED,h,ee⟩:=q;exact⟨F,z,M,k.kf,rs,_,h,λds vs M1 F1 H1 g1 i6 rx m1=>⟨by rw[rx.length];exact i6.1,F1,ds,g1.fh,rx,_,i6.2,λfs hR=>qT hx k.kf rs g1 m1 hR⟩⟩⟩
def yB(x:y')(t:TMA):TMS:=λ_ z M=>t z M λds M1=>ds.length<=1000/\J.RM z M1 x []
def yD(h:∃ C N bm,ErrK X.K X.mg x C N bm/\ErrN X.K N)(hx:XOkM X)(hc:X.calm=true)(ha:MA X (e::es) t)(f6:autoParam (X.ex=[]) zA0)(hg:autoParam (Gl X x) zA0)(d7:autoParam (zND x) zA1)
  (he:autoParam (zSE X e es) zA0) (c5:autoParam (zPL X cpos es) zA0):
  MSt X (.Raise (be (.Call (.Name x p) (e::es) [] cpos)) o_ pos) (yB x t):=⟨(yy h hc ha.out f6 hg d7 he c5).anti λE s H q=>by
 obtain⟨F0,F,z,M,k,rs,ED,h,ee⟩:=q;exact⟨F,z,M,k.kf,rs,_,h,λds vs M1 F1 H1 g1 i6 rx m1=>⟨by rw[rx.length];exact i6.1,F1,g1.fh,qT hx k.kf rs g1 m1 i6.2⟩⟩⟩
end
section
variable {X:Cx}[J:Jm]{a b c e:PJ}{ta tb tc te:TME}{pos:P0}{st:PL}{rest:List PL}{t u:TMS}
def yF:TMS:=λE z M=>E.nx z M
def mSeq(t u:TMS):TMS:=λE z M=>t {E with nx:=u E} z M
def bS:MSs X [] yF:=⟨pss_nil.anti λE s H q=>by
 obtain⟨F0,F,z,M,k,rs,ED,h,e⟩:=q;exact e.nx z s M F H k h rs⟩
def aB(h1:MSt X st t)(h2:MSs X rest u):MSs X (st::rest) (mSeq t u):=⟨(fo h1.out h2.out).anti λE s H q=>by
 obtain⟨F0,F,z,M,k,rs,ED,h,e⟩:=q;exact⟨F0,F,z,M,k,rs,{ED with nx:=u ED},h,⟨λz' s' M' F' H' k' hz r'=>⟨F0,F',z',M',k',r',ED,hz,e⟩,e.rt,e.bk,e.ct⟩⟩⟩
def aE(h1:MSt X st t):MSs X [st] t:=⟨ot h1.out⟩
def mRet(te:TME):TMS:=λE z M=>te z M E.rt
def aM(he:ME X e te):MSt X (.Return (be e) pos) (mRet te):=⟨(ou he.out).anti λE s H q=>by
 obtain⟨F0,F,z,M,k,rs,ED,h,e⟩:=q;exact⟨F,z,M,k.kf,rs,_,h,λd v M' F' H' g hd rd m'=>e.rt d v M' F' H' (k.growM rs.mb g) hd rd m' (rs.growM k.bh g m').mb⟩⟩
def yG(te:TME):TMS:=λE z M=>te z M λ_ M1=>E.nx z M1
def ck(he:ME X e te)(hs:autoParam (P4 e o_ pos.line X.env=pure false) zA0):MSt X (.Expr e pos) (yG te):=⟨(iZ he.out hs).anti λE s H q=>by
 obtain⟨F0,F,z,M,k,rs,ED,h,e⟩:=q;exact⟨F,z,M,k.kf,rs,_,h,λd v M' F' H' g hd rd m'=>e.nx z s M' F' H' (k.growM rs.mb g) hd (rs.growM k.bh g m')⟩⟩
def mIfS(c:TMT)(t u:TMS):TMS:=λE z M=>c z M λb M1=>if b=true then t E z M1 else u E z M1
variable{l r:List PL}
def bZ{c:PJ}{tc:TMT}(hc:MT X c tc)(ha:MSs X l t)(hb:MSs X r u):MSt X (.If c l r pos) (mIfS tc t u):=⟨(ow hc.out ha.out hb.out).anti λE s H q=>by
 obtain⟨F0,F,z,M,k,rs,ED,h,e⟩:=q;refine⟨F,z,M,k.kf,rs,_,h,λb M1 F1 H1 g hk m1=>?_⟩;cases b with
 |true=>exact⟨F0,F1,z,M1,k.growM rs.mb g,rs.growM k.bh g m1,ED,hk,e⟩
 |false=>exact⟨F0,F1,z,M1,k.growM rs.mb g,rs.growM k.bh g m1,ED,hk,e⟩⟩
def mIfJ(c:TMT)(t u:TMS):TMS:=λE z M=>∃ J:SD->MS->Prop,(c z M λb M1=>if b=true then t {E with nx:=J} z M1 else u {E with nx:=J} z M1)/\∀ z' M',J z' M'->E.nx z' M'
def qU{c:PJ}{tc:TMT}(hc:MT X c tc)(ha:MSs X l t)(hb:MSs X r u):MSt X (.If c l r pos) (mIfJ tc t u):=⟨(bZ hc ha hb).out.anti λE s H q=>by
 obtain⟨F0,F,z,M,k,rs,ED,⟨J,h,j⟩,e⟩:=q;exact⟨F0,F,z,M,k,rs,{ED with nx:=J},h,⟨λz' s' M' F' H' k' hz r'=>e.nx z' s' M' F' H' k' (j z' M' hz) r',e.rt,e.bk,e.ct⟩⟩⟩
def mSet(i:Nat)(te:TME):TMS:=λE z M=>∃ P:D->MS->Prop,te z M P/\∀ d M',P d M'->E.nx (z.set i (be d)) M'
def bf(i:Nat){x:y'}{c9:P0}(hN:X.N.Nodup)(he:ME X e te)(hi:autoParam (X.N[i]?=be x) zA0)(hx:autoParam (Loc X.env.scope x) zA4)(hs:autoParam (P4 e (be (.Name x c9)) pos.line X.env=pure false) zA0)
  (hf:autoParam (zFN X x) zA2):MSt X (.Assign [.Name x c9] e pos) (mSet i te):=⟨(gf hN hi hx he.out hs hf).anti λE s H q=>by
 obtain⟨F0,F,z,M,k,rs,ED,⟨P,h,j⟩,e⟩:=q;exact⟨F,z,M,k.kf,rs,P,h,λd v M' F' H' g hd rd m'=>e.nx _ _ M' F' H' (k.growM rs.mb g) (j d M' hd) ((rs.growM k.bh g m').set rd)⟩⟩
def yH(x f:y')(to te:TME):TMS:=λE z M=>te z M λd M1=>to z M1 λo M2=>match o with| .ptr a=>∃ fs,mget M2 a=be (.ins x fs)/\fs.length<1000/\E.nx z (mput M2 a (.ins x (putD f d fs)))|_=>False
def gP{x f:y'}{o:PJ}{to:TME}{c9:P0}(hA:ClsA X.K x f)(ho:ME X o to)(he:ME X e te)(hs:autoParam (P4 e (be (.Attribute o f c9)) pos.line X.env=pure false) zA0):
  MSt X (.Assign [.Attribute o f c9] e pos) (yH x f to te):=⟨(oU ho.out he.out hs).anti λE s H q=>by
 obtain⟨C,hn,hc,hf⟩:=hA;obtain⟨F0,F,z,M,k,rs,ED,h,ee⟩:=q;refine⟨F,z,M,k.kf,rs,_,h,λd v M1 F1 H1 g1 hx rd m1=>?_⟩;have k1:=k.growM rs.mb g1;have t6:=rs.growM k.bh g1 m1;refine⟨F1,z,M1,k1.kf,t6,_,hx,λo' v' M2 F2 H2 g2 hy ro m2=>?_⟩;have k2:=k1.growM t6.mb g2;have Ir:=t6.growM k1.bh g2 m2;split at hy
 .rename_i a;obtain⟨fs,hm,hl,Jq⟩:=hy;obtain⟨C',dx,ws,k8,hH,rf⟩:=m2.ok _ _ (bO hm);rw[hn] at k8;cases k8;have fa:=m2.fr a (cj (bO hm));refine⟨a,C,dx,ws,rep_ptr.mp ro,hH,hc,hf,by rw[rf.length];exact hl,?_⟩;have m3:RepM X.K F2 (upd H2 a (.ins C dx (putF f v ws))) (mput M2 a (.ins x (putD f d fs))):=m2.put hm ⟨C,dx,_,hn,ax,RepF.put (rd.mono g2.ff) rf⟩;have g3:GrowM M2 (mput M2 a (.ins x (putD f d fs))) F2 H2 F2 (upd H2 a (.ins C dx (putF f v ws))):=GrowM.put k2.fh fa hm;exact ee.nx z s _ F2 _ (k2.growM Ir.mb g3) Jq (Ir.growM k2.bh g3 m3)
 .exact hy.elim⟩
def yI(c:TMT)(tb:TMS):TMS:=λE z M=>∃ W:Nat->SD->MS->Prop,(∃ m,W m z M)/\∀ m z M,W m z M->
 c z M λb M1=>if b=true then tb {E with nx:=λz' M'=>∃ m',m'<m/\W m' z' M',ct:=λz' M'=>∃ m',m'<m/\W m' z' M',bk:=E.nx} z M1 else E.nx z M1
def yJ{c:PJ}{body:List PL}{tc:TMT}{tb:TMS}(hp:Qc (PM X.prog X.w) X.A X.env X.xe)(hc:MT X c tc)(hb:MSs X body tb):MSt X (.While c body [] pos) (yI tc tb):=⟨(oy hp hc.out hb.out).anti λE s H q=>by
 obtain⟨F0,F,z,M,k,rs,ED,⟨W,⟨m0,w0⟩,c7⟩,e⟩:=q;refine⟨λm s' H'=>∃ F' z' M',Kept J.B F0 F' H'/\RepZ X.K J.B F' H' z' s' M'/\W m z' M',⟨m0,F,z,M,k,rs,w0⟩,?_⟩;rintro m s1 H1 ⟨F1,z1,M1,k1,r1,w1⟩;refine⟨F1,z1,M1,k1.kf,r1,_,c7 m z1 M1 w1,λb M2 F2 H2 g2 hk m2=>?_⟩;cases b with
 |true=>
  refine⟨λs3 H3=>∃ F3 z3 M3,Kept J.B F0 F3 H3/\RepZ X.K J.B F3 H3 z3 s3 M3/\∃ m',m'<m/\W m' z3 M3,λs3 H3 ⟨F3,z3,M3,k3,r3,m',l,w3⟩=>⟨m',l,F3,z3,M3,k3,r3,w3⟩,?_⟩;exact⟨F0,F2,z1,M2,k1.growM r1.mb g2,r1.growM k1.bh g2 m2,_,hk,⟨λz3 s3 M3 F3 H3 k3 h3 r3=>⟨F3,z3,M3,k3,r3,h3⟩,e.rt,e.nx,λz3 s3 M3 F3 H3 k3 h3 r3=>⟨F3,z3,M3,k3,r3,h3⟩⟩⟩
 |false=>exact e.nx z1 s1 M2 F2 H2 (k1.growM r1.mb g2) hk (r1.growM k1.bh g2 m2)⟩
end
section
variable {X:Cx}[J:Jm]{a b c e o:PJ}{ta tb tc te to:TME}{pos:P0}{st:PL}{rest:List PL}{t u:TMS}
abbrev TMI:=SD->MS->(List D->MS->Prop)->Prop
def mItR(t:TME):TMI:=λz M R=>t z M λx M1=>match x with| .int n=>(0<=n/\n<2 ^ 62)/\R ((D9 n.toNat).map λk=>D.int ((k:Nat):Int)) M1|_=>False
def mFor(i:Nat)(ti:TMI)(tb:TMS):TMS:=λE z M=>ti z M λds M1=>∃ W:Nat->SD->MS->Prop,W 0 z M1/\(∀ k x z M,ds[k]?=be x->W k z M->tb {E with nx:=W (k+1),ct:=W (k+1),bk:=E.nx} (z.set i (be x)) M)/\∀ z M,W ds.length z M->E.nx z M
def yL(i:Nat){x:y'}{p p1 p2:P0}{body:List PL}{tb:TMS}(hp:Qc (PM X.prog X.w) X.A X.env X.xe)(hc:X.calm=true)(hN:X.N.Nodup)(hm:X.mg "range"=o_)(he:ME X e te)(hb:MSs X body tb)(hg:autoParam (Gl X "range") zA0)(hi:autoParam (X.N[i]?=be x) zA0)(hx:autoParam (Loc X.env.scope x) zA4)
  (hf:autoParam (zFN X x) zA2) (hs:autoParam (∀ y,zFS X (.Call (.Name "range" p1) [e] [] p2) y) zA3) (q9:autoParam (zSE X e []) zA0) (f_:autoParam (PR [e] X.env=[(false,PX e X.env)]) zA0):
  MSt X (.For (.Name x p) (.Call (.Name "range" p1) [e] [] p2) body [] pos) (mFor i (mItR te) tb):=⟨(dm hp hc (jc hg hm (bw he.out pa_nil q9) f_) (fu hN hi hx hf) hb.out hs).anti λE s H q=>by
 obtain⟨F0,F,z,M,kp,rs,ED,h,e⟩:=q;refine⟨F,z,M,kp.kf,rs,_,h,λd v M1 F1 H1 g1 hd rd m1=>?_⟩;split at hd
 .rename_i n;obtain⟨⟨b1,b2⟩,W,w0,c7,out⟩:=hd;have hl:((D9 n.toNat).map λk=>D.int ((k:Nat):Int)).length=n.toNat:=by simp
  refine⟨n,by rw[rep_int.mp rd],by lia,b2,jd (lo:=0) (n:=n.toNat) (λk s' H'=>∃ F' z' M',Kept J.B F0 F' H'/\RepZ X.K J.B F' H' z' s' M'/\W k z' M') ⟨F1,z,M1,kp.growM rs.mb g1,rs.growM kp.bh g1 m1,w0⟩ ?_ ?_⟩
  .rintro k s' H' hk ⟨F',z',M',k',r',w'⟩;have e1:(0:Int)+(k:Int)=(k:Int):=by lia
   exact⟨F0,F',_,M',k',r'.set (d:= .int (k:Int)) (rep_int.mpr (by rw[e1])),_,c7 k (.int (k:Int)) z' M' (by simp[hk]) w',⟨λz3 s3 M3 F3 H3 k3 h3 r3=>⟨F3,z3,M3,k3,r3,h3⟩,e.rt,e.nx,λz3 s3 M3 F3 H3 k3 h3 r3=>⟨F3,z3,M3,k3,r3,h3⟩⟩⟩
  .rintro s' H' ⟨F',z',M',k',r',w'⟩;exact e.nx z' s' M' F' H' k' (out z' M' (by rw[hl];exact w')) r'
 .exact hd.elim⟩
def yM(te:TME):TME:=λz M R=>te z M λd M1=>match d with| .ptr a=>∃ ds,mget M1 a=be (.lst ds)/\R (.int ds.length) M1|_=>False
def yO{p:P0}(hm:X.mg "len"=o_)(ha:ME X e te)(hg:autoParam (Gl X "len") zA0)(he:autoParam (zSE X e []) zA0):ME X (.Call (.Name "len" p) [e] [] pos) (yM te):=⟨(gk jg hg hm PySem.boot_len (bw ha.out pa_nil he) (by decide) (by decide) he).anti λs H Q h=>by
 obtain⟨F,z,M,k,rs,R,h1,h2⟩:=h;refine⟨F,z,M,k,rs,_,h1,λd v M1 F1 H1 g1 hx rx m1=>?_⟩;split at hx
 .rename_i a;obtain⟨ds,hm,hR⟩:=hx;obtain⟨vs,hH,rr⟩:=m1.ok _ _ (bO hm);exact⟨.ref a,vs.length,by rw[rep_ptr.mp rx],.inl ⟨vs,SqL.of hH,rfl⟩,h2 _ _ M1 F1 H1 g1 hR (rep_int.mpr (by rw[rr.length])) m1⟩
 .exact hx.elim⟩
def mIxP(ta tb:TME):TME:=λz M R=>ta z M λx M1=>tb z M1 λy M2=>match x,y with| .ptr a,.int i=>∃ ds,mget M2 a=be (.lst ds)/\∃ d,atI ds i=be d/\R d M2|_,_=>False
def yQ(ha:ME X a ta)(hb:ME X b tb)(hs:autoParam (dU b) zA6):ME X (.Subscript a b pos) (mIxP ta tb):=⟨(pe_ix ix_list ha.out hb.out hs).anti λs H Q h=>by
 obtain⟨F,z,M,k,rs,R,h1,h2⟩:=h;refine⟨F,z,M,k,rs,_,h1,λx u M1 F1 H1 g1 hx rx m1=>?_⟩;refine⟨F1,z,M1,k.growM rs.mb g1,rs.growM k.bh g1 m1,_,hx,λy v M2 F2 H2 g2 hy ry m2=>?_⟩;split at hy
 .rename_i p i;obtain⟨ds,hm,d,hd,hR⟩:=hy;obtain⟨vs,hH,rr⟩:=m2.ok _ _ (bO hm);obtain⟨w,e2,g8⟩:=rr.at hd;exact⟨p,vs,_,w,rep_ptr.mp rx,rep_int.mp ry,SqL.of hH,e2,h2 d w M2 F2 H2 (g1.trans g2) hR g8 m2⟩
 .exact hy.elim⟩
def yR(to te:TME):TME:=λz M R=>to z M λo M1=>match o with| .ptr a=>(∃ ds,mget M1 a=be (.lst ds))/\te z M1 λd M2=>∃ ds,mget M2 a=be (.lst ds)/\ds.length<=100000/\R .non (mput M2 a (.lst (ds++[d])))|_=>False
def yT{apos cpos:P0}(ho:ME X o to)(he:ME X e te)(m9:autoParam (zSE X e []) zA0)
  (b_:autoParam (PV o "append" X.env (PX o X.env)=PX o X.env) zA0)
  (d_:autoParam (zHF X cpos [e]) zA0)
  (c8:autoParam ((apos.endLine==cpos.line)=true) zA0):
  ME X (.Call (.Attribute o "append" apos) [e] [] cpos) (yR to te):=⟨(dW PySem.F.plainAttrs_list PySem.F.slot_list_append PySem.F.type_list_append gl ho.out (bw he.out pa_nil m9) b_ d_ c8 m9).anti λs H Q h=>by
 obtain⟨F,z,M,k,rs,R,h1,h2⟩:=h;refine⟨F,z,M,k,rs,_,h1,λx u M1 F1 H1 g1 hx rx m1=>?_⟩;split at hx
 .rename_i a;obtain⟨⟨Pg,Lj⟩,hx⟩:=hx;obtain⟨Og,Oh,Ph⟩:=m1.ok _ _ (bO Lj);rw[rep_ptr.mp rx];refine⟨.inl ⟨rfl,Og,SqL.of Oh⟩,?_⟩;refine⟨F1,z,M1,k.growM rs.mb g1,rs.growM k.bh g1 m1,_,hx,λd v M2 F2 H2 g2 hd rd m2=>?_⟩;obtain⟨ds,hm,hl,hR⟩:=hd;obtain⟨vs,hH,rr⟩:=m2.ok _ _ (bO hm);have hz:vs.length<sizeLine:=by
   rw[rr.length];have h2:(100000:Nat)<sizeLine:=by decide
   lia
  refine⟨a,vs,v,rfl,rfl,hH,hz,?_⟩;exact h2 _ _ _ F2 _ (g1.trans (g2.trans (GrowM.put g2.fh (m2.fr a (cj (bO hm))) hm))) hR (rep_non.mpr rfl) (m2.put hm ⟨_,ax,rr.append (eB rd)⟩)
 .exact hx.elim⟩
def frzD:MO->D| .ins x fs=> .obj x fs| .lst ds=> .lst ds| .dti a8=> .dti a8
def mFrz(i:Nat)(t:TMS):TMS:=λE z M=>match z[i]? with|some (be (.ptr a))=>∃ o,mget M a=be o/\t E (z.set i (be (frzD o))) (mdel M a)|_=>False
def qV(i:Nat){Jf:List PL}(h:MSs X Jf t):MSs X Jf (mFrz i t):=⟨PSs.anti h.out λE s H q=>by
 obtain⟨F0,F,z,M,k,rs,ED,h,e⟩:=q;unfold mFrz at h;split at h
 .rename_i a ez;obtain⟨o,hm,h⟩:=h;have mem:=bO hm;have fa:=rs.rm.fr a (cj mem);have ba:=rs.mb a (cj mem);obtain⟨v,hv,rv⟩:=rs.rs.val i _ ez rfl;have Oi:=rep_ptr.mp rv;subst Oi;have hok:=rs.rm.ok a o mem;obtain⟨ho,f7,Lk⟩:∃ ho,H a=be ho/\∀ F',Same F F'->F' a=be ho->Rep X.K F' (frzD o) (.ref a):=by
   cases o with
   |ins x fs=>obtain⟨C,dx,ws,n,h1,h2⟩:=hok;exact⟨_,h1,λF' s' hF=>rep_obj.mpr ⟨a,C,dx,ws,rfl,n,hF,RepF.mono s' fs ws h2⟩⟩
   |lst ds=>obtain⟨vs,h1,h2⟩:=hok;exact⟨_,h1,λF' s' hF=>rep_lst.mpr ⟨a,vs,rfl,hF,h2.mono s'⟩⟩
   |dti a8=>exact⟨_,hok,λF' s' hF=>rep_dti.mpr ⟨a,rfl,hF⟩⟩
  have s1:Same F (upd F a ho):=aQ fa _;have hs:s.set i (be (.ref a))=s:=by
   apply FC;intro n;by_cases hn:i=n
   .subst hn;rw[EM (Em.mp hv).1,hv]
   .rw[Et hn]
  have k1:Kept J.B F0 (upd F a ho) H:=⟨k.bh,λb u q=>by
   by_cases hb:b=a
   .subst hb;rw[ax] at q;cases q;exact f7
   .rw[aq hb] at q;exact k.fh b u q,k.f0.trans s1,λb h1 h2=>by
   by_cases hb:b=a
   .subst hb;exact absurd ba h2
   .rw[aq hb];exact k.out b h1 h2,k.eb,k.jf,k.jo⟩
  have r0:RepS X.K J.B (upd F a ho) H z s:=⟨rs.rs.len,λi d e n=>let ⟨v,q1,q2⟩:=rs.rs.val i d e n;⟨v,q1,q2.mono s1⟩,λi ds e=>absurd e (rs.no i ds),rs.rs.apart⟩;have Oj:RepM X.K (upd F a ho) H (mdel M a):=⟨rs.rm.nd.sublist del_sub,λb q hb=>by
   obtain⟨ne,hb⟩:=jJ rs.rm.nd hb;exact(rs.rm.ok b q hb).mono s1 λ_ z=>z,λb hb=>by
   obtain⟨⟨b',q⟩,gt,rfl⟩:=EB.mp hb;obtain⟨ne,Jw⟩:=jJ rs.rm.nd gt;rw[aq ne];exact rs.rm.fr _ (cj Jw)⟩
  have z0:RepZ X.K J.B (upd F a ho) H z s (mdel M a):=⟨r0,rs.no,Oj,λb hb=>rs.mb b (del_sub.subset hb)⟩;have z1:=z0.set (i:=i) (Lk _ s1 ax);rw[hs] at z1;exact⟨F0,_,_,_,k1,z1,ED,h,e⟩
 .exact h.elim⟩
end
def qW{N:List y'}{ds:List D}(rs:Reps K F ds vs):∀ (i:Nat) d,(startD N ds)[i]?≠be (be (.own d)):=by
 intro i d e;unfold startD at e;by_cases hi:i<ds.length
 .rw[EO (by simpa using hi),Eo] at e;cases q:ds[i]? with
  |none=>rw[q] at e;cases e
  |some x=>
   rw[q] at e;cases e;obtain⟨v,_,q2⟩:=rs.get q;exact rep_own q2
 .rw[EY (by simpa using hi),F5] at e;split at e
  .cases e
  .cases e
def growM_nil(g:GrowM [] M' F H F' H'):Grow F H F' H':=⟨g.ff,g.fh,λb o h=>g.hh b o (λz=>nomatch z) h,λb h1 h2=>g.out b (λz=>nomatch z) h1 h2⟩
section
variable {P:PH}{w:PP}{K:D6}{mg:y'->Option KB}{base:Heap}
variable{x:y'}{ps:List y'}{S:SpM}
def CalMM.toX{n:Nat}{S0:SpX}(C:CalMM P w K mg base n x ps S)(h:∀ ds R RX,S0 ds R RX->S ds [] (λd _=>R d) λx fs _=>RX x fs):CalX P w K mg base n x ps S0:=by
 obtain⟨f,fd,F,hb,hk,hm⟩:=C;refine⟨f,fd,F.imp λvs H Q E q=>?_,hb,hk,hm⟩;obtain⟨F,ds,fh,rs,R,RX,hS,q1,q2⟩:=q;exact⟨F,ds,[],fh,rs,RepM.nil,_,_,h ds R RX hS,λd v M' F' H' g hd rd _=>q1 d v F' H' (growM_nil g) hd rd,λy fs C od M' F' H' g hR er _=>q2 y fs C od F' H' (growM_nil g) hR er⟩
open Classical in
def Fun.okM{x qual:y'}{st:PL}{f:KF}{fd:PY}{N ps:List y'}{k:Nat}{S:SpM}(T:Fun K x qual st f fd)(F:FnScope N ps (ag st))(len:∀ ds M R RX,S ds M R RX->ds.length=ps.length)
  (a9:∀ (cdv:KB) (A:PQ) (outer:List Qs) (s:KM) (H:Hp) (E:XK) (J:Jm),Room k (A.deeper (P2 qual (ag st) s.heap.objs.size f cdv))->XOkM (cxOf (CX1 P w) P w K mg base N qual (ag st) f cdv A outer s H E)->
   ∃ t,MSs (cxOf (CX1 P w) P w K mg base N qual (ag st) f cdv A outer s H E) (aI st) t/\∀ ds M R RX,(∀ z,J.RM z=λM' x fs=>RX x fs M')->S ds M R RX->t {nx:=λ_ M'=>R .non M',rt:=R} (startD N ds) M):FnOk P w K mg base (CX1 P w) (k+1) f fd ps (lSpM K S):=by
 refine Fun.okC T F (λvs H Q E h=>?_) (λcdv A outer s H vs Q E hr h=>?_)
 .obtain⟨F,ds,M,fh,rs,rm,R,RX,h,_⟩:=h;rw[rs.length];exact len ds M R RX h
 .obtain⟨F,ds,M,fh,rs,rm,R,RX,h,q,qx⟩:=h
  let B:Hp:=λb=>if b∈av M then o_ else H b
  have MY:∀ {b:KF},b∈av M->B b=none:=λ{b} h=>if_pos h;have Ke:∀ {b:KF},b ∉ av M->B b=H b:=λ{b} h=>if_neg h
  letI:Jm:={B:=B,F0:=F,RX:=λ_ _ _=>False,RM:=λ_ M' x fs=>RX x fs M'}
  have gr:∀ {M':MS} {F' H':Hp},Kept B F F' H'->(∀ a,a∈av M'->B a=o_)->GrowM M M' F H F' H':=λ{M' F' H'} k mb=>⟨k.f0,k.fh,λb o nb e=>k.bh b o (by rw[Ke nb];exact e),λb nb h1 h2=>k.out b h1 (by rw[Ke nb];exact h2),λb hb=>by
   by_cases nb:b∈av M
   .exact .inl nb
   .right;rw[<- Ke nb];exact mb b hb⟩
  have hx:XOkM (cxOf (CX1 P w) P w K mg base N qual (ag st) f cdv A outer s H E):=by
   intro σ z M' F' H' s' e C od y fs I kk rr hR er ⟨He,ne,_,hx⟩;have hE:E (.ref C) od H':=qx y fs C od M' F' H' (gr kk rr.mb) hR er rr.rm;rcases hx with⟨sl,vs,h1,h2⟩|⟨T,h1,h2,h3,_⟩
   .exact pK I h1 h2 He ne hE
   .exact qC I h1 ne h2 He h3 hE
  obtain⟨t,ht,hq⟩:=a9 cdv A outer s H E inferInstance hr hx;have k0:Kept B F F H:=⟨λb o e=>by
   by_cases nb:b∈av M
   .rw[MY nb] at e;cases e
   .rw[Ke nb] at e;exact e,fh,Same.refl F,λ_ h _=>h,rfl,Same.refl F,λ_ h _=>h⟩
  have r0:RepZ K B F H (startD N ds) (L2.start N vs) M:=⟨dX rs,qW rs,rm,λa h=>MY h⟩;exact⟨_,ht.out,F,F,startD N ds,M,k0,r0,_,hq ds M R RX (λ_=>rfl) h,⟨λz' s' M' F' H' k hn r=>q _ _ M' F' H' (gr k r.mb) hn (rep_non.mpr rfl) r.rm,λd v M' F' H' k hd rd MZ mb=>q d v M' F' H' (gr k mb) hd rd MZ,λ_ _ _ _ _ _ h _=>h.elim,λ_ _ _ _ _ _ h _=>h.elim⟩⟩
variable{N:List y'}
def Tx.okM{st:PL}{k:Nat}(T:Tx K mg x st ps)(F:FnScope N ps (ag st))(len:∀ ds M R RX,S ds M R RX->ds.length=ps.length)
  (a9:∀ (f:KF) (cdv:KB) (A:PQ) (outer:List Qs) (s:KM) (H:Hp) (E:XK) (J:Jm),Room k (A.deeper (P2 x (ag st) s.heap.objs.size f cdv))->XOkM (cxOf (CX1 P w) P w K mg base N x (ag st) f cdv A outer s H E)->
   ∃ t,MSs (cxOf (CX1 P w) P w K mg base N x (ag st) f cdv A outer s H E) (aI st) t/\∀ ds M R RX,(∀ z,J.RM z=λM' x fs=>RX x fs M')->S ds M R RX->t {nx:=λ_ M'=>R .non M',rt:=R} (startD N ds) M):CalMM P w K mg base (k+1) x ps S:=by
 obtain⟨f,fd,T,hb,hm⟩:=T;exact⟨f,fd,Fun.okM T F len λcdv A outer s H E J hr hx=>a9 f cdv A outer s H E J hr hx,hb,T.kp,hm⟩
def Txm(K:D6)(x m:y')(qual:y')(st:PL)(ps:List y'):Prop:=
 ∃ C f fd,nsIn K Pi x=be (be (.ref C))/\Cls K C/\Meth K C m f/\Fun K m qual st f fd/\Binds K fd ps []
def Txm.okM{m qual:y'}{st:PL}{k:Nat}(T:Txm K x m qual st ps)(F:FnScope N ps (ag st))(len:∀ ds M R RX,S ds M R RX->ds.length=ps.length)
  (a9:∀ (f:KF) (cdv:KB) (A:PQ) (outer:List Qs) (s:KM) (H:Hp) (E:XK) (J:Jm),Room k (A.deeper (P2 qual (ag st) s.heap.objs.size f cdv))->XOkM (cxOf (CX1 P w) P w K mg base N qual (ag st) f cdv A outer s H E)->
   ∃ t,MSs (cxOf (CX1 P w) P w K mg base N qual (ag st) f cdv A outer s H E) (aI st) t/\∀ ds M R RX,(∀ z,J.RM z=λM' x fs=>RX x fs M')->S ds M R RX->t {nx:=λ_ M'=>R .non M',rt:=R} (startD N ds) M):CalMth P w K mg base (k+1) x m ps (lSpM K S):=by
 obtain⟨C,f,fd,h1,h2,h3,T,hb⟩:=T;exact⟨C,f,fd,h1,h2,h3,Fun.okM T F len λcdv A outer s H E J hr hx=>a9 f cdv A outer s H E J hr hx,hb⟩
end
end My
namespace L2
section
variable {X:Cx}{pins:List (KF × P7)}{σ:St}{H:Hp}{s:KM}{h':Heap}
def Inv.turned2{t':Nat}{e it:KF}(I:Inv X pins σ H s)(k:∀ b o,b≠e->b≠it->s.heap.get? b=be o->h'.get? b=be o)(he:FpOk X pins H e)(hi:FpOk X pins H it):Inv X pins σ H {s with heap:=h',toks:=t'}:=by
 obtain⟨e0,e1,e2,e3,e4,e5⟩:=he;obtain⟨i0,i1,i2,i3,i4,i5⟩:=hi;have HN:∀ b u,H b=be u->b≠e/\b≠it:=λb u q=>⟨(λz=>by rw[z,e0] at q;cases q),(λz=>by rw[z,i0] at q;cases q)⟩;have nc:∀ {b:KF},b ∉ [e,it]->b≠e/\b≠it:=λ{b} h=>⟨λz=>h (by simp[z]),λz=>h (by simp[z])⟩;refine I.step (g':=s.gens) (d':=s.drawn) (ch:=[e,it]) (λb hb=>?_) (λb o _ _ hc q _=>k b o (nc hc).1 (nc hc).2 q) (λb o _ _ hc q _=>⟨o.slots,k b o (nc hc).1 (nc hc).2 q⟩) (λ_ _ _ _ n=>n)
  (λb o hc q=>⟨o,k b o (nc hc).1 (nc hc).2 q⟩) (λ_ _ q=>q) (λ_ _ _ q=>q) (λb ps q=>⟨#[],by rw[q];simp⟩) (λm hm=>?_) (λb u q=>?_) I.bare
 .rcases Ea.mp hb with z|z
  .rw[z];exact⟨e3,e1,e4,e5⟩
  .rw[D8.mp z];exact⟨i3,i1,i4,i5⟩
 .obtain⟨o,es,ep,ho,r⟩:=hm;exact⟨o,es,ep,k _ o (Ne.symm e1) (Ne.symm i1) ho,r⟩
 .refine(I.hok b u q).stay (λc v hc q'=>k c v ?_ ?_ q') (λ_ q=>q) λ_ _ q=>q
  .rcases hc with z|z
   .rw[z];exact(HN b u q).1
   .exact(HN c _ z).1
  .rcases hc with z|z
   .rw[z];exact(HN b u q).2
   .exact(HN c _ z).2
end
def Itel(K:D6)(a:KF):It:=
 ⟨λi H=>∃ xs x,SqL K H a xs/\xs[i]?=be x,λi H x H'=>∃ T v,H T=o_/\x= .ref T/\H'=upd H T (.tup [.int i,v])/\∀ xs,SqL K H a xs->xs[i]?=be v,λi H=>∃ xs,SqL K H a xs/\xs.length<=i⟩
def Ites(x:y'):It:=⟨λi _=>i<x.length,λi H v H'=>∃ T c,H T=o_/\v= .ref T/\H'=upd H T (.tup [.int i,.str ⟨#[c]⟩])/\x.cps[i]?=be c,λi _=>i=x.length⟩
variable{P:PH}{w:PP}
def yU{H:Hp}{h:Heap}{T:KF}{i:Int}{t:Tok}{v:V}{u:KB}(r:RelV v u)(q:h.get? T=be {cls:= .type "tuple",data:= .seq #[.int i t,u]}):ObjOk P w H h T (.tup [.int i,v]):=
 ⟨by show 2<=sizeLine;decide,[.int i t,u],.cons ⟨t,rfl⟩ (.cons r .nil),⟨_,q,rfl,_,rfl⟩⟩
def qX{X:Cx}{pins:List (KF × P7)}{σ:St}{H:Hp}{s:KM}{h':Heap}{t':Nat}{e it:KF}{i:Int}{t:Tok}{v:V}{u:KB}(I:Inv X pins σ H s)(he:FpOk X pins H e)(hi:FpOk X pins H it)(le:e<s.heap.objs.size)(li:it<s.heap.objs.size)(r:RelV v u)
  (hT:h'.get? s.heap.objs.size=be {cls:= .type "tuple",data:= .seq #[.int i t,u]}) (hk:∀ b o,b≠e->b≠it->s.heap.get? b=be o->h'.get? b=be o):Inv X pins σ (upd H s.heap.objs.size (.tup [.int i,v])) {s with heap:=h',toks:=t'}:=by
 have I1:Inv X pins σ (upd H s.heap.objs.size (.tup [.int i,v])) {s with heap:=s.heap.push {cls:= .type "tuple",data:= .seq #[.int i t,u]},toks:=t'}:=
  I.laid (λb o q=>Heap.get?_push_of_some _ q) (D7 _) (yU r (Heap.get?_push_size _ rfl))
 have fp:∀ {b:KF},FpOk X pins H b->b<s.heap.objs.size->FpOk X pins (upd H s.heap.objs.size (.tup [.int i,v])) b:=λ{b} h l=>⟨by rw[aq (Eh l)];exact h.1,h.2⟩;refine I1.turned2 (h':=h') (t':=t') (λb o h1 h2 q=>?_) (fp he le) (fp hi li);rcases Heap.get?_push_cases (show(s.heap.push {cls:= .type "tuple",data:= .seq #[.int i t,u]}).get? b=be o from q) with⟨rfl,rfl⟩|q2
 .exact hT
 .exact hk b o h1 h2 q2
variable{r_:List PJ}
def yV{K:D6}{x1:Nat}{tp:P0}(a e it:KF)(Iu:e≠it):Turn P w K (.Tuple r_ x1 tp) (Itel K a) [e,it] e (λi h=>(∃ d8,IsEnum h e it i d8)/\h.IsListIter it a i) where
 mem:=by simp
 obj:=λi h st b hb=>by
  obtain⟨⟨d8,he⟩,hit⟩:=st;rcases Ea.mp hb with z|z
  .rw[z];exact⟨_,he,λv z=>by cases z⟩
  .rw[D8.mp z];obtain⟨o,ho,c,d⟩:=hit;exact⟨o,ho,λv z=>by rw[d] at z;cases z⟩
 keep:=λi h h' st k=>⟨let ⟨d8,he⟩:=st.1;⟨d8,k e (by simp) _ he⟩,st.2.at λo q=>k it (by simp) o q⟩
 item:=by
  intro X hP hw hK hc i pins s σ H E I hf st hg;subst hP hw hK;obtain⟨xs,x,hq,hx⟩:=hg;obtain⟨its,rv,p,hz⟩:=I.list hq;obtain⟨u,hu,ru⟩:=rv.get hx;obtain⟨⟨d8,he⟩,hit⟩:=st;have fe:=hf e (by simp);have fi:=hf it (by simp);have le:e<s.heap.objs.size:=Heap.lt_size he;have li:it<s.heap.objs.size:=by obtain⟨o,ho,_⟩:=hit;exact Heap.lt_size ho
  refine wpAny_pyNext_enum_item he hit p.isList (x:=u) (by simpa using hu) Iu λh' x8 Ia hT g6 hk=>?_;refine⟨_,rfl,QU x8 λh2 Ll l_=>?_⟩;have n6:Heap.SameBut e h' h2:=l_;have nT:s.heap.objs.size≠e:=E8 le;have I1:Inv X pins σ (upd H s.heap.objs.size (.tup [.int i,x])) {s with heap:=h2,toks:=s.toks+1}:=qX I fe fi le li ru ((n6.2 _ nT).trans hT) λb o h1 h3 q=>(n6.2 b h1).trans (hk b o h1 h3 q);refine⟨.ref s.heap.objs.size,_,I1,rfl,⟨_,x,I.hok.fresh (D7 _),rfl,rfl,λys hy=>by rw[I.list_inj hy hq];exact hx⟩,⟨⟨u,by simpa using Ll⟩,Ia.at λo q=>(n6.2 it (Ne.symm Iu)).trans q⟩,λb hb=>?_⟩;rcases Ea.mp hb with z|z
  .rw[z,aq (Eh le)];exact fe.1
  .rw[D8.mp z,aq (Eh li)];exact fi.1
 done:=by
  intro X hP hw hK hc i pins s σ H E I hf st hg;subst hP hw hK;obtain⟨xs,hq,hx⟩:=hg;obtain⟨its,rv,p,hz⟩:=I.list hq;obtain⟨⟨d8,he⟩,hit⟩:=st;have hl:=rv.length;obtain⟨f0,f1,f2,f3,f4,f5⟩:=hf it (by simp);exact wpAny_pyNext_enum_end (I.ok.hd hc) he hit p.isList (by simp;lia) λh' eb=>⟨rfl,I.turned (t':=s.toks) (λb o hb q=>eb b o hb q) f0 f1 f3 f4 f5⟩
 self:=λ_ _ _ _ _ st h=>let ⟨⟨d8,he⟩,_⟩:=st;Qu he h
def yY{K:D6}{x1:Nat}{tp:P0}(x:y')(t:Tok)(e it:KF)(Iu:e≠it):Turn P w K (.Tuple r_ x1 tp) (Ites x) [e,it] e (λi h=>(∃ d8,IsEnum h e it i d8)/\h.IsStrIter it "str_ascii_iterator" x t i) where
 mem:=by simp
 obj:=λi h st b hb=>by
  obtain⟨⟨d8,he⟩,hit⟩:=st;rcases Ea.mp hb with z|z
  .rw[z];exact⟨_,he,λv z=>by cases z⟩
  .rw[D8.mp z];obtain⟨o,ho,c,d⟩:=hit;exact⟨o,ho,λv z=>by rw[d] at z;cases z⟩
 keep:=λi h h' st k=>⟨let ⟨d8,he⟩:=st.1;⟨d8,k e (by simp) _ he⟩,let ⟨o,ho,r⟩:=st.2;⟨o,k it (by simp) o ho,r⟩⟩
 item:=by
  intro X hP hw hK hc i pins s σ H E I hf st hg;subst hP hw hK;have hi:i<x.cps.size:=hg;obtain⟨⟨d8,he⟩,hit⟩:=st;have fe:=hf e (by simp);have fi:=hf it (by simp);have le:e<s.heap.objs.size:=Heap.lt_size he;have li:it<s.heap.objs.size:=by obtain⟨o,ho,_⟩:=hit;exact Heap.lt_size ho
  refine wpAny_pyNext_enum_itemD (Draws.strAscii (A:=X.A.in1) (by exact I.ok.hd hc) it x t) he hit hi Iu (by simp[Iu]) λu h' tk hP x8 Ia hT g6 hk=>?_;obtain⟨c,tu,Hx,rfl⟩:=hP;refine⟨_,rfl,QU x8 λh2 Ll l_=>?_⟩;have n6:Heap.SameBut e h' h2:=l_;have nT:s.heap.objs.size≠e:=E8 le;have I1:Inv X pins σ (upd H s.heap.objs.size (.tup [.int i,.str ⟨#[c]⟩])) {s with heap:=h2,toks:=tk+1}:=qX I fe fi le li ⟨tu,rfl⟩ ((n6.2 _ nT).trans hT) λb o h1 h3 q=>(n6.2 b h1).trans (hk b o h1 h3 q);refine⟨.ref s.heap.objs.size,_,I1,rfl,⟨_,c,I.hok.fresh (D7 _),rfl,rfl,Hx⟩,⟨⟨_,by simpa using Ll⟩,let ⟨o,ho,r⟩:=Ia;⟨o,(n6.2 it (Ne.symm Iu)).trans ho,r⟩⟩,λb hb=>?_⟩;rcases Ea.mp hb with z|z
  .rw[z,aq (Eh le)];exact fe.1
  .rw[D8.mp z,aq (Eh li)];exact fi.1
 done:=by
  intro X hP hw hK hc i pins s σ H E I hf st hg;subst hP hw hK;have hi:i=x.cps.size:=hg;subst hi;obtain⟨⟨d8,he⟩,hit⟩:=st;obtain⟨f0,f1,f2,f3,f4,f5⟩:=hf it (by simp);exact wpAny_pyNext_enum_endD (Draws.strAscii (A:=X.A.in1) (by exact I.ok.hd hc) it x t) he hit λh' eb=>⟨rfl,I.turned (t':=s.toks) (λb o hb q=>eb b o hb q) f0 f1 f3 f4 f5⟩
 self:=λ_ _ _ _ _ st h=>let ⟨⟨d8,he⟩,_⟩:=st;Qu he h
def iEnL(K:D6)(ta:TA):TI:=λσ H R=>ta σ H λvs H1=>∃ a,vs=[.ref a]/\(∃ xs,SqL K H1 a xs)/\R (Itel K a) H1
def iEnS(ta:TA):TI:=λσ H R=>ta σ H λvs H1=>∃ x,vs=[.str x]/\x.cps.all (·<128)=true/\R (Ites x) H1
section
variable {X:Cx}{r_:List PJ}{x1:Nat}{tp p pos:P0}{l:PJ}{ta:TA}
def yZ(hg:Gl X "enumerate")(hm:X.mg "enumerate"=o_)(ha:PA X [l] ta)(hs:autoParam (PR [l] X.env=[(false,PX l X.env)]) zA0):PI X (.Tuple r_ x1 tp) (.Call (.Name "enumerate" p) [l] [] pos) (iEnL X.K ta):=by
 intro pins s σ H R I h;refine Call_ (dh I hg hm PyProof.Rows.boot_enumerate (PyProof.Rows.callWith_type1 (thn (ha pos pins s σ H _ I h) λus s1 ⟨vs,H1,I1,r1,q1⟩=>?_) hs rfl));obtain⟨a,rfl,⟨xs,hq⟩,q⟩:=q1;obtain⟨u,rfl,ru⟩:=bM r1;cases ru;obtain⟨its,rv,pl,hz⟩:=I1.list hq;refine call_enumerate_list pl.isList λh' he hit g6 hk=>?_;have I2:Inv X pins σ H1 {s1 with heap:=h'}:=I1.kept (t':=s1.toks) hk;refine Qu he ?_;have ne:s1.heap.objs.size+1≠s1.heap.objs.size:=GU _;refine⟨s1.heap.objs.size+1,[s1.heap.objs.size+1,s1.heap.objs.size],_,_,H1,rfl,I2,yV a _ _ ne,⟨⟨_,he⟩,hit⟩,λb hb=>?_,q⟩;rcases Ea.mp hb with z|z
 .rw[z];exact I1.fpOk (Fb _) (I1.hok.fresh (Fb _))
 .rw[D8.mp z];exact I1.fpOk (D7 _) (I1.hok.fresh (D7 _))
def qY(hg:Gl X "enumerate")(hm:X.mg "enumerate"=o_)(ha:PA X [l] ta)(hs:autoParam (PR [l] X.env=[(false,PX l X.env)]) zA0):PI X (.Tuple r_ x1 tp) (.Call (.Name "enumerate" p) [l] [] pos) (iEnS ta):=by
 intro pins s σ H R I h;refine Call_ (dh I hg hm PyProof.Rows.boot_enumerate (PyProof.Rows.callWith_type1 (thn (ha pos pins s σ H _ I h) λus s1 ⟨vs,H1,I1,r1,q1⟩=>?_) hs rfl));obtain⟨x,rfl,Lm,q⟩:=q1;obtain⟨u,rfl,t,rfl⟩:=bM r1;refine call_enumerate_str λh' he hit g6 hk=>?_;have I2:Inv X pins σ H1 {s1 with heap:=h'}:=I1.kept (t':=s1.toks) hk;refine Qu he ?_;have ne:s1.heap.objs.size+1≠s1.heap.objs.size:=GU _;have Ol:strIterType x="str_ascii_iterator":=by unfold strIterType;rw[Lm];rfl
 rw[Ol] at hit;refine⟨s1.heap.objs.size+1,[s1.heap.objs.size+1,s1.heap.objs.size],_,_,H1,rfl,I2,yY x t _ _ ne,⟨⟨_,he⟩,hit⟩,λb hb=>?_,q⟩;rcases Ea.mp hb with z|z
 .rw[z];exact I1.fpOk (Fb _) (I1.hok.fresh (Fb _))
 .rw[D8.mp z];exact I1.fpOk (D7 _) (I1.hok.fresh (D7 _))
end
end L2
namespace My
open Exc
section
variable {X:Cx}[J:Jm]{a b c e o:PJ}{ta tb tc te to:TME}{pos:P0}{st:PL}{rest:List PL}{t u:TMS}
def qZ{K:D6}{F:Hp}:∀ (is:List Nat) (ds:List D) (vs:List V) (z:SD),Reps K F ds vs->(∀ (i:Nat) d,z[i]?≠be (be (.own d)))->∀ (i:Nat) d,(aW is ds z)[i]?≠be (be (.own d))
 |[],_,_,z,_,h=>h
 |_::_,[],_,z,_,h=>h
 |i::is,d::ds,vs,z,r,h=>by
  obtain⟨v,vr,rfl,r1,r2⟩:=reps_cons.mp r;refine qZ is ds vr _ r2 λj q e=>?_;by_cases hj:i=j
  .subst hj;rw[Fk] at e;simp at e;have:=r1.noown;rw[e.2] at this;cases this
  .rw[Et hj] at e;exact h j q e
def mItE(t:TME):TMI:=λz M R=>t z M λx M1=>match x with| .lst ds=>R ds M1|_=>False
def za(t:TME):TMI:=λz M R=>t z M λx M1=>match x with| .str x=>x.cps.all (·<128)=true/\R (bR x) M1|_=>False
def ra(is:List Nat)(ti:TMI)(tb:TMS):TMS:=λE z M=>ti z M λds M1=>∃ W:Nat->SD->MS->Prop,W 0 z M1/\(∀ (k:Nat) x z M,ds[k]?=be x->W k z M->tb {E with nx:=W (k+1),ct:=W (k+1),bk:=E.nx} (aW is [.int k,x] z) M)/\∀ z M,W ds.length z M->E.nx z M
variable{is:List Nat}
def rb{K:D6}{F0 F1 H1:Hp}{z:SD}{s:L2.St}{M1:MS}{E:Ends}{ED:EndsM}{It':It}{g:TG}{tb:TMS}{Jy:TS}{ds:List D}(hK:K=X.K)(k1:Kept J.B F0 F1 H1)(t6:RepZ K J.B F1 H1 z s M1)(e:EndsOkM K F0 ED E)(b7:is.length=2)
  (go:∀ k F' H',Same F1 F'->Same F' H'->k<ds.length->It'.go k H') (stop:∀ F' H',Same F1 F'->Same F' H'->It'.stop ds.length H')
  (yld:∀ k F' H' x H'',Same F1 F'->Same F' H'->k<ds.length->It'.yld k H' x H''->∃ T d v,H' T=o_/\x= .ref T/\H''=upd H' T (.tup [.int k,v])/\ds[k]?=be d/\Rep K F' d v)
  (hg:∀ (dd:List D) (vs:List V) (T:KF) (z:SD) (s:L2.St) (F H:Hp) (Q:L2.St->Hp->Prop),dd.length=2->H T=be (.tup vs)->Reps K F dd vs->RepS K J.B F H z s->(∀ s',RepS K J.B F H (aW is dd z) s'->Q s' H)->g (.ref T) s H Q)
  (Ln:∀ E s H,mS K tb E s H->Jy E s H)
  (hd:∃ W:Nat->SD->MS->Prop,W 0 z M1/\(∀ (k:Nat) x z M,ds[k]?=be x->W k z M->tb {ED with nx:=W (k+1),ct:=W (k+1),bk:=ED.nx} (aW is [.int k,x] z) M)/\∀ z M,W ds.length z M->ED.nx z M):
  ∃ W:Nat->Nat->L2.St->Hp->Prop,(∃ m,W 0 m s H1)/\∀ i m σ H,W i m σ H->
   (It'.stop i H/\E.nx σ H)\/(It'.go i H/\∃ N:L2.St->Hp->Prop,(∀ σ' H',N σ' H'->∃ m',m'<m/\W (i+1) m' σ' H')/\∀ x H',It'.yld i H x H'->g x σ H' λσ2 H2=>Jy {E with nx:=N,ct:=N,bk:=E.nx} σ2 H2):=by
 obtain⟨W,w0,c7,out⟩:=hd;refine⟨λk m s' H'=>m=ds.length - k/\k<=ds.length/\∃ F' z' M',Kept J.B F0 F' H'/\Same F1 F'/\RepZ K J.B F' H' z' s' M'/\W k z' M',⟨ds.length,by simp,EA _,F1,z,M1,k1,Same.refl F1,t6,w0⟩,?_⟩;rintro k m s' H' ⟨rfl,hk,F',z',M',k',g',r',w'⟩;by_cases g5:k<ds.length
 .refine .inr ⟨go k F' H' g' k'.fh g5,λs3 H3=>∃ F3 z3 M3,Kept J.B F0 F3 H3/\Same F1 F3/\RepZ K J.B F3 H3 z3 s3 M3/\W (k+1) z3 M3,λs3 H3 h3=>⟨ds.length - (k+1),by lia,rfl,g5,h3⟩,λx H'' hy=>?_⟩;obtain⟨T,d,v,hT,rfl,rfl,hd,rd⟩:=yld k F' H' x H'' g' k'.fh g5 hy;have gn:=Grow.new k'.fh hT (.tup [.int k,v]);have k2:=k'.grow gn;have r2:=r'.growM k'.bh gn.toM (r'.rm.grow gn);have rp:Reps K (upd F' T (.tup [.int k,v])) [.int k,d] [.int k,v]:=reps_cons.mpr ⟨_,_,rfl,rep_int.mpr rfl,eB (rd.mono gn.ff)⟩;refine hg [.int k,d] _ T z' s' _ _ _ rfl ax rp r2.rs λs2 Ir=>Ln _ _ _ ?_;have gF:Same F1 (upd F' T (.tup [.int k,v])):=g'.trans gn.ff;refine⟨upd F' T (.tup [.int k,v]),upd F' T (.tup [.int k,v]),_,M',⟨k2.bh,k2.fh,Same.refl _,λb h1 _=>h1,k2.eb,k2.jf.trans k2.f0,λb h1 h2=>k2.out b (k2.jo b h1 h2) h2⟩,⟨Ir,qZ is _ _ z' rp r2.no,r2.rm,r2.mb⟩,_,c7 k d z' M' hd w',?_⟩;have up:∀ {F3 H3:Hp},Kept J.B (upd F' T (.tup [.int k,v])) F3 H3->Kept J.B F0 F3 H3:=λk3=>⟨k3.bh,k3.fh,k2.f0.trans k3.f0,λb h1 h2=>k3.out b (k2.out b h1 h2) h2,k2.eb,k2.jf,k2.jo⟩;exact⟨λz3 s3 M3 F3 H3 k3 h3 r3=>⟨F3,z3,M3,up k3,gF.trans k3.f0,r3,h3⟩,λd v M3 F3 H3 k3=>e.rt d v M3 F3 H3 (up k3),λz3 s3 M3 F3 H3 k3=>e.nx z3 s3 M3 F3 H3 (up k3),λz3 s3 M3 F3 H3 k3 h3 r3=>⟨F3,z3,M3,up k3,gF.trans k3.f0,r3,h3⟩⟩
 .have ek:k=ds.length:=by lia
  subst ek;exact .inl ⟨stop F' H' g' k'.fh,e.nx z' s' M' F' H' k' (out z' M' w') r'⟩
variable{es:List PJ}{body:List PL}
def zb{x1:Nat}{tp p1 p2:P0}{tb:TMS}(hp:Qc (PM X.prog X.w) X.A X.env X.xe)(hc:X.calm=true)(hm:X.mg "enumerate"=o_)(he:ME X e te)(hG:DGs X es is)(hb:MSs X body tb)(b7:autoParam (is.length=2) zA0)(hg:autoParam (Gl X "enumerate") zA0)
  (hn:autoParam ((PU es X.env).length=2) zA0) (m4:autoParam ((PU es X.env).findIdx? (·.1)=none) zA0)
  (hs:autoParam (∀ y,zFS X (.Call (.Name "enumerate" p1) [e] [] p2) y) zA3) (q9:autoParam (zSE X e []) zA0) (f_:autoParam (PR [e] X.env=[(false,PX e X.env)]) zA0):
  MSt X (.For (.Tuple es x1 tp) (.Call (.Name "enumerate" p1) [e] [] p2) body [] pos) (ra is (mItE te) tb):=by
 obtain⟨ug,Jz,kk⟩:=hG;refine⟨(dm hp hc (yZ hg hm (bw he.out pa_nil q9) f_) (gc hc Jz hn m4) hb.out hs).anti λE s H q=>?_⟩;obtain⟨F0,F,z,M,kp,rs,ED,h,e⟩:=q;refine⟨F,z,M,kp.kf,rs,_,h,λd v M1 F1 H1 g1 hd rd m1=>?_⟩;split at hd
 .rename_i ds;obtain⟨p,vs,rfl,hq,rr⟩:=rep_lst.mp rd;refine⟨p,rfl,⟨vs,SqL.of (g1.fh _ _ hq)⟩,rb (It':=Itel X.K p) rfl (kp.growM rs.mb g1) (rs.growM kp.bh g1 m1) e b7 (λk F' H' s1 s2 hk=>?_) (λF' H' s1 s2=>?_) (λk F' H' x H'' s1 s2 hk hy=>?_) (λdd p8 T z s F H Q hl hT rp HB hQ=>?_) (λ_ _ _ h=>h) hd⟩
  .have n4:k<vs.length:=by rw[rr.length];exact hk
   exact⟨vs,vs[k],SqL.of (s2 _ _ (s1 _ _ hq)),by simp[n4]⟩
  .exact⟨vs,SqL.of (s2 _ _ (s1 _ _ hq)),by rw[rr.length];exact D7 _⟩
  .obtain⟨T,v,hT,e1,e2,hv⟩:=hy;obtain⟨d,hd,rd⟩:=rr.get' (hv vs (SqL.of (s2 _ _ (s1 _ _ hq))));exact⟨T,d,v,hT,e1,e2,hd,rd.mono s1⟩
  .exact⟨T,p8,rfl,SqT.of hT,by rw[rp.length];exact hl,kk dd p8 z s J.B F H Q (by rw[hl,b7]) rp HB hQ⟩
 .exact hd.elim
def zc{x1:Nat}{tp p1 p2:P0}{tb:TMS}(hp:Qc (PM X.prog X.w) X.A X.env X.xe)(hc:X.calm=true)(hm:X.mg "enumerate"=o_)(he:ME X e te)(hG:DGs X es is)(hb:MSs X body tb)(b7:autoParam (is.length=2) zA0)(hg:autoParam (Gl X "enumerate") zA0)
  (hn:autoParam ((PU es X.env).length=2) zA0) (m4:autoParam ((PU es X.env).findIdx? (·.1)=none) zA0)
  (hs:autoParam (∀ y,zFS X (.Call (.Name "enumerate" p1) [e] [] p2) y) zA3) (q9:autoParam (zSE X e []) zA0) (f_:autoParam (PR [e] X.env=[(false,PX e X.env)]) zA0):
  MSt X (.For (.Tuple es x1 tp) (.Call (.Name "enumerate" p1) [e] [] p2) body [] pos) (ra is (za te) tb):=by
 obtain⟨ug,Jz,kk⟩:=hG;refine⟨(dm hp hc (qY hg hm (bw he.out pa_nil q9) f_) (gc hc Jz hn m4) hb.out hs).anti λE s H q=>?_⟩;obtain⟨F0,F,z,M,kp,rs,ED,h,e⟩:=q;refine⟨F,z,M,kp.kf,rs,_,h,λd v M1 F1 H1 g1 hd rd m1=>?_⟩;split at hd
 .rename_i x;obtain⟨ha,hd⟩:=hd;have hl:=gI x;refine⟨x,by rw[rep_str.mp rd],ha,rb (It':=Ites x) rfl (kp.growM rs.mb g1) (rs.growM kp.bh g1 m1) e b7 (λk F' H' s1 s2 hk=>?_) (λF' H' s1 s2=>?_) (λk F' H' x H'' s1 s2 hk hy=>?_) (λdd p8 T z s F H Q hl hT rp HB hQ=>?_) (λ_ _ _ h=>h) hd⟩
  .rw[hl] at hk;exact hk
  .exact hl
  .obtain⟨T,c,hT,e1,e2,hc⟩:=hy;exact⟨T,.str ⟨#[c]⟩,.str ⟨#[c]⟩,hT,e1,e2,jH hc,rep_str.mpr rfl⟩
  .exact⟨T,p8,rfl,SqT.of hT,by rw[rp.length];exact hl,kk dd p8 z s J.B F H Q (by rw[hl,b7]) rp HB hQ⟩
 .exact hd.elim
end
end My
namespace L2
section
variable {prog:PH}{w:PP}{K:Type}[DecidableEq K]{j_:HeapKind prog w K}{A:PQ}{E:KB->KM->Prop}{s:KM}{d a:KF}{k:K}{xs:List (K × KF × KB)}
def zd{v:KB}{Q:KB->KM->Prop}(hu:j_.room A)(m6:j_.is s.heap k a)(hm:s.heap.DictOfH j_ d xs)
  (h1:∀ p,QR xs k=be p->Q p.2 {s with toks:=s.toks+j_.draws k})
  (h2:QR xs k=o_->∀ h',h'.DictOfH j_ d (xs++[(k,a,v)])->Heap.SameBut d s.heap h'->Q v {s with heap:=h',toks:=s.toks+j_.draws k})
  (g6:xs.length<=sizeLine):PN (PM prog w) A (QV d (.ref a) v) Q E s:=by
 obtain⟨o,es,ep,ho,hc,hd,he,M0,hn⟩:=hm;unfold QV
 try with_reducible refine Qe ?_
 refine Os (j_.pyHash hu m6 ?_);refine Os (wpAny_dictFind_heap (s:={s with toks:=s.toks+j_.draws k}) hu m6 ho hd he M0 hn ?_ ?_)
 .intro d5;have Lo:k ∉ xs.map (·.1):=not_mem_keys_of_get d5;refine Os (Ri (Os (wpAny_updateDictKeys (hz:=by have e:=size_of_entries he;lia) (s:={s with toks:=s.toks+j_.draws k}) ho hd (PK (h2 (atKey_none_of_get d5) _ ⟨_,_,ep+1,Heap.get?_update_self _ ho (Obj.isFreed_of_dict (Obj.data_mapDictKeys hd _)),
   hc.mapDictKeys _,Obj.data_mapDictKeys hd _,?_,?_,?_⟩ (Heap.SameBut.update ..))))))
  .simp[he,entryOfKey]
  .intro x hx;rcases EC.mp hx with hx|hx
   .exact j_.keeps (M0 x hx) ho hd (Heap.SameBut.update ..)
   .simp only[D8] at hx;subst hx;exact j_.keeps m6 ho hd (Heap.SameBut.update ..)
  .rw[EQ,FE];refine⟨hn,by simp,?_⟩;intro x hx y hy;simp only[En,Fc,D8] at hy;subst hy;exact λe=>Lo (e ▸ hx)
 .intro j p hj;refine Os (wpAny_dictEntries (s:={s with toks:=s.toks+j_.draws k}) ho hd ?_);rw[entry_at he j,hj];exact Os (Ri (PK (h1 p (atKey_of_get hn hj))))
def ze(j_:HeapKind prog w K)(d a:KF)(hd:(d==Qa)=false)(v:KB):
  MeetsIn prog w (Builtin.«dict.setdefault» ⟨[.ref d,.ref a,v],[]⟩) (λA R s=>j_.room A.in1/\∃ k xs,j_.is s.heap k a/\s.heap.DictOfH j_ d xs/\xs.length<=sizeLine/\
   (∀ p,QR xs k=be p->R (.ok (.ret p.2)) {s with toks:=s.toks+j_.draws k})/\
   (QR xs k=o_->∀ h',h'.DictOfH j_ d (xs++[(k,a,v)])->Heap.SameBut d s.heap h'->R (.ok (.ret v)) {s with heap:=h',toks:=s.toks+j_.draws k})):=
 .of_wp λA R s hh=>by
  obtain⟨hu,k,xs,m6,hm,hz,h1,h2⟩:=hh;unfold Builtin.«dict.setdefault»;refine Os ?_;unfold Builtin.Dict.keyAndDefault;refine Os (wpAny_notOrdered_dict hm.typeIs ?_);show PN _ _ (pure (d,Value.ref a,be v)) _ _ s;refine PK ?_;show PN _ _ (if(d==Qa)=true then _ else(QV d (.ref a) v>>=_)) _ _ s;rw[if_neg (by rw[hd];exact Ej)];exact Os (zd hu m6 hm (λp hp=>PK ⟨p.2,rfl,h1 p hp⟩) (λhn h' KR Iq=>PK ⟨v,rfl,h2 hn h' KR Iq⟩) hz)
end
end L2
namespace My
open Exc
def lookD:List ((Int × Int) × Int)->Int->Int->Option Int
 |[],_,_=>o_
 |((a,b),h)::r,x,y=>if a=x/\b=y then be h else lookD r x y
def jO(x y:Int):∀ a8:List ((Int × Int) × Int),valV (dtiV a8) [.inl x,.inl y]=(lookD a8 x y).map V.int
 |[]=>rfl
 |((a,b),h)::r=>by
  show valV (([.inl a,.inl b],V.int h)::dtiV r) _=_;unfold lookD;by_cases e:a=x/\b=y
  .rw[if_pos e,jl (by rw[e.1,e.2])];rfl
  .rw[if_neg e,jm (λz=>e (by
    have z':([Sum.inl a,Sum.inl b]:List Key)=[.inl x,.inl y]:=z;injection z' with z1 z2;injection z2 with z2 _;exact⟨Sum.inl.inj z1,Sum.inl.inj z2⟩)),jO x y r]
def sdD(a8:List ((Int × Int) × Int))(x y v:Int):List ((Int × Int) × Int):=if(lookD a8 x y).isSome then a8 else a8++[((x,y),v)]
def zf:V->List V->Hp->VK->Prop:=λx vs H Q=>∃ a b i j d a8,x= .ref a/\vs=[.ref b,.int d]/\H a=be (.dT (dtiV a8))/\H b=be (.tup [.int i,.int j])/\Q (.int ((lookD a8 i j).getD d)) H
def zg{X:Cx}(hu:X.A.units+1<Q0):MtR X "dict.get" zf:=by
 intro pins s σ H x vs v us Q I rx rv h;obtain⟨a,b,i,j,d,a8,rfl,rfl,ha,hb,q⟩:=h;obtain⟨u,u',rfl,ru,rd⟩:=fv rv;cases(show v=Value.ref a from rx);refine wt hu I (DGet.t (k:=[.inl i,.inl j]) ha hb) ru rd λw' s' I' g8=>⟨.int ((lookD a8 i j).getD d),H,I',?_,q⟩;rw[jO] at g8;cases e:lookD a8 i j with
 |none=>rw[e] at g8;exact g8
 |some z=>rw[e] at g8;exact g8
def rSdT:V->List V->Hp->VK->Prop:=λx vs H Q=>∃ a b i j d a8,x= .ref a/\vs=[.ref b,.int d]/\H a=be (.dT (dtiV a8))/\H b=be (.tup [.int i,.int j])/\a8.length<100000/\∀ w,Q (.int w) (upd H a (.dT (dtiV (sdD a8 i j d))))
variable{a:KF}
def zh{H:Hp}{o:HO}(h:H a=be o):upd H a o=H:=by
 funext b;by_cases e:b=a
 .subst e;rw[ax,h]
 .rw[aq e]
def zi{X:Cx}(hu:X.A.units+1<Q0):MtR X "dict.setdefault" rSdT:=by
 intro pins s σ H x vs v us Q I rx rv h;obtain⟨a,b,i,j,d,a8,rfl,rfl,ha,hb,hl,q⟩:=h;obtain⟨u,u',rfl,ru,t,rfl⟩:=fv rv;cases(show v=Value.ref a from rx);cases(show u=Value.ref b from ru);obtain⟨z,hd,xs,rel,dd⟩:=wm I.hok ha;have b7:xs.length=a8.length:=by rw[<- Paired.length rel];simp[dtiV]
 have big:(100000:Nat)<sizeLine:=by decide
 have gt:H b=be (.tup (([.inl i,.inl j]:List Key).map kV)):=hb;have k6:=rel.val [.inl i,.inl j];rw[jO] at k6;refine Q9 PySem.F.slot_dict_setdefault dd.typeIs PySem.F.entry_dict_setdefault (PySem.F.args_dict_setdefault_3 _ _ _) (ze (Qx (bC X.prog X.w)) a b hd (.int d t)) ⟨Rm hu,[.inl i,.inl j],xs,key_of I.hok gt,dd,by lia,λp hp=>?_,λhn h' Om hs=>?_⟩
 .rw[hp] at k6;cases e:lookD a8 i j with
  |none=>rw[e] at k6;exact k6.elim
  |some w=>
   rw[e] at k6;have:=q w;unfold sdD at this;rw[e] at this;have e2:(if(be w:Option Int).isSome then a8 else a8++[((i,j),d)])=a8:=rfl;rw[e2,zh ha] at this;exact⟨.int w,H,I.tok _,k6,this⟩
 .rw[hn] at k6;cases e:lookD a8 i j with
  |some w=>rw[e] at k6;exact k6.elim
  |none=>
   have e2:sdD a8 i j d=a8++[((i,j),d)]:=by unfold sdD;rw[e];rfl
   have e3:dtiV (sdD a8 i j d)=dtiV a8++[([.inl i,.inl j],.int d)]:=by rw[e2];simp[dtiV]
   obtain⟨o,es,ep,ho,hx,h3,h4,_,h5⟩:=Om;have new:ObjOk X.prog X.w (upd H a (.dT (dtiV (sdD a8 i j d)))) h' a (.dT (dtiV (sdD a8 i j d))):=by
    refine⟨by rw[e3,Eg];simp[dtiV];lia,hd,_,?_,o,es,ep,ho,hx,h3,h4,h5⟩;rw[e3];refine KT.keeps (H:=H) (Paired.snoc (a:=(([.inl i,.inl j]:List Key),V.int d)) (b:=(([.inl i,.inl j]:List Key),b,Value.int d t)) rel ⟨rfl,gt,⟨t,rfl⟩⟩) λc ys ec=>?_;rw[aq (tz ec ha (λz=>nomatch z))];exact ec
   exact⟨.int d,_,wn I (by rw[ha];exact True.intro) hs ⟨o,ho⟩ new,⟨t,rfl⟩,q d⟩
section
variable {X:Cx}[J:Jm]{a b c e o f:PJ}{ta tb tc te to:TME}{pos apos cpos:P0}{t:TMA}
def mD0:TME:=λ_ M R=>R (.dti []) M
def zj:ME X (.Dict [] [] pos) mD0:=⟨pe_dnewT.anti λs H Q q=>by
 obtain⟨F,z,M,k,rs,R,h1,h2⟩:=q;intro p hp;have gn:=Grow.new k.fh hp (.dT []);exact h2 _ _ M _ _ gn.toM h1 (rep_dti.mpr ⟨p,rfl,ax⟩) (rs.rm.grow gn)⟩
def mDN:TME:=λ_ M R=>∀ p,p ∉ av M->R (.ptr p) ((p,.dti [])::M)
def zk:ME X (.Dict [] [] pos) mDN:=⟨pe_dnewT.anti λs H Q q=>by
 obtain⟨F,z,M,k,rs,R,h1,h2⟩:=q;intro p hp;exact h2 _ _ _ F _ (GrowM.new k.fh hp) (h1 p λz=>rs.rm.here z hp) (rep_ptr.mpr rfl) (rs.rm.new k.fh hp ax)⟩
def zl(to:TME)(t:TMA):TME:=λz M R=>to z M λd M1=>match d with| .dti a8=>(t z M1 λds M2=>match ds with|[.tup [.int i,.int j],.int x]=>R (.int ((lookD a8 i j).getD x)) M2|_=>False)|_=>False
def zm(hu:X.A.units+1<Q0)(ho:ME X o to)(ha:MA X [e,f] t)(b_:autoParam (PV o "get" X.env (PX o X.env)=PX o X.env) zA0)
  (d_:autoParam (zHF X cpos [e,f]) zA0)
  (c8:autoParam ((apos.endLine==cpos.line)=true) zA0) (m9:autoParam (zSE X e [f]) zA0) (c5:autoParam (zPL X cpos [f]) zA0):
  ME X (.Call (.Attribute o "get" apos) [e,f] [] cpos) (zl to t):=⟨(dW PySem.F.plainAttrs_dict PySem.F.slot_dict_get PySem.F.type_dict_get (zg hu) ho.out ha.out b_ d_ c8 m9 c5).anti λs H Q h=>by
 obtain⟨F,z,M,k,rs,R,h1,h2⟩:=h;refine⟨F,z,M,k,rs,_,h1,λx u M1 F1 H1 g1 hx rx m1=>?_⟩;split at hx
 .rename_i a8;obtain⟨p,rfl,hp⟩:=rep_dti.mp rx;refine⟨.inr (.inr (.inl ⟨rfl,.inr ⟨_,g1.fh _ _ hp⟩⟩)),?_⟩;refine⟨F1,z,M1,k.growM rs.mb g1,rs.growM k.bh g1 m1,_,hx,λds vs M2 F2 H2 g2 hd rd m2=>?_⟩;split at hd
  .rename_i i j x;obtain⟨v1,r1,rfl,q1,q2⟩:=reps_cons.mp rd;obtain⟨v2,r2,rfl,q3,q4⟩:=reps_cons.mp q2;rw[reps_nil.mp q4,rep_int.mp q3];obtain⟨b,us,rfl,hb,ru⟩:=rep_tupS.mp q1;have Lp:us=[.int i,.int j]:=(Reps.ints (ns:=[i,j])).mp ru;subst Lp;exact⟨p,b,i,j,x,a8,rfl,rfl,g2.fh _ _ (g2.ff _ _ hp),g2.fh _ _ hb,h2 _ _ M2 F2 H2 (g1.trans g2) hd (rep_int.mpr rfl) m2⟩
  .exact hd.elim
 .exact hx.elim⟩
def mDsd(to:TME)(t:TMA):TME:=λz M R=>to z M λd M1=>match d with| .ptr a=>(∃ a8,mget M1 a=be (.dti a8))/\(t z M1 λds M2=>match ds with|[.tup [.int i,.int j],.int x]=>∃ a8,mget M2 a=be (.dti a8)/\a8.length<100000/\∀ w,R (.int w) (mput M2 a (.dti (sdD a8 i j x)))|_=>False)|_=>False
def zn(hu:X.A.units+1<Q0)(ho:ME X o to)(ha:MA X [e,f] t)(b_:autoParam (PV o "setdefault" X.env (PX o X.env)=PX o X.env) zA0)
  (d_:autoParam (zHF X cpos [e,f]) zA0)
  (c8:autoParam ((apos.endLine==cpos.line)=true) zA0) (m9:autoParam (zSE X e [f]) zA0) (c5:autoParam (zPL X cpos [f]) zA0):
  ME X (.Call (.Attribute o "setdefault" apos) [e,f] [] cpos) (mDsd to t):=⟨(dW PySem.F.plainAttrs_dict PySem.F.slot_dict_setdefault PySem.F.type_dict_setdefault (zi hu) ho.out ha.out b_ d_ c8 m9 c5).anti λs H Q h=>by
 obtain⟨F,z,M,k,rs,R,h1,h2⟩:=h;refine⟨F,z,M,k,rs,_,h1,λx u M1 F1 H1 g1 hx rx m1=>?_⟩;split at hx
 .rename_i a;obtain⟨⟨Pj,Lj⟩,hx⟩:=hx;rw[rep_ptr.mp rx];refine⟨.inr (.inr (.inl ⟨rfl,.inr ⟨_,m1.ok _ _ (bO Lj)⟩⟩)),?_⟩;refine⟨F1,z,M1,k.growM rs.mb g1,rs.growM k.bh g1 m1,_,hx,λds vs M2 F2 H2 g2 hd rd m2=>?_⟩;split at hd
  .rename_i i j x;obtain⟨a8,hm,hl,hR⟩:=hd;obtain⟨v1,r1,rfl,q1,q2⟩:=reps_cons.mp rd;obtain⟨v2,r2,rfl,q3,q4⟩:=reps_cons.mp q2;rw[reps_nil.mp q4,rep_int.mp q3];obtain⟨b,us,rfl,hb,ru⟩:=rep_tupS.mp q1;have Lp:us=[.int i,.int j]:=(Reps.ints (ns:=[i,j])).mp ru;subst Lp;refine⟨a,b,i,j,x,a8,rfl,rfl,m2.ok _ _ (bO hm),g2.fh _ _ hb,hl,λw=>?_⟩;exact h2 _ _ _ F2 _ (g1.trans (g2.trans (GrowM.put g2.fh (m2.fr a (cj (bO hm))) hm))) (hR w) (rep_int.mpr rfl) (m2.put hm ax)
  .exact hd.elim
 .exact hx.elim⟩
end
section
variable {P:PH}{w:PP}{K:D6}{mg:y'->Option KB}{base:Heap}
open Classical in
def Cls.okIM{x qual:y'}{st:PL}{f C:KF}{fd:PY}{N:List y'}{p0:y'}{ps:List y'}{k:Nat}{S:SiD}(T:Fun K "__init__" qual st f fd)(hb:Binds K fd (p0::ps) [])(F:FnScope N (p0::ps) (ag st))(len:∀ ds R,S ds R->ds.length=ps.length)
  (hns:nsIn K Pi x=be (be (.ref C))) (l8:mg x=be (.ref C)) (mk:Mk K C f)
  (a9:∀ (cdv:KB) (A:PQ) (outer:List Qs) (s:KM) (H:Hp) (E:XK) (J:Jm),Room k (A.deeper (P2 qual (ag st) s.heap.objs.size f cdv))->XOkM (cxOf (CX1 P w) P w K mg base N qual (ag st) f cdv A outer s H E).nox->
   ∃ t,MSs (cxOf (CX1 P w) P w K mg base N qual (ag st) f cdv A outer s H E).nox (aI st) t/\∀ a ds R,(∀ z M x fs,¬ J.RM z M x fs)->S ds R->t {nx:=λ_ M'=>∃ fs,M'=[(a,.ins x fs)]/\R fs,rt:=λ_ _=>False} (startD N (.ptr a::ds)) [(a,.ins x [])]):CalM P w K mg base (k+1) x (p0::ps) S:=by
 refine⟨C,f,fd,hns,l8,mk,Fun.okC T F (λvs H Q E h=>?_) (λcdv A outer s H vs Q E hr h=>?_),hb⟩
 .obtain⟨a,dx,us,H1,F,ds,rfl,_,_,_,_,_,rs,R,h,_⟩:=h;rw[Eb,Eb,rs.length,len ds R h]
 .obtain⟨a,dx,us,H1,F1,ds,rfl,rfl,ha,u_,j8,fh,rs,R,h,q⟩:=h
  let H:Hp:=upd (upd H1 dx (.own a)) a (.ins C dx [])
  let B:Hp:=λb=>if b=a then o_ else H b
  have M4:B a=none:=if_pos rfl;have hB:∀ {b:KF},b≠a->B b=H b:=λ{b} h=>if_neg h;have D_:∀ {b:KF} {o:HO},H1 b=be o->b≠a/\H b=be o:=λ{b o} e=>by
   have n1:b≠a:=bL e ha;exact⟨n1,by show upd _ _ _ b=_;rw[aq n1,aq (bL e u_)];exact e⟩
  letI:Jm:={B:=B,F0:=F1,RX:=λ_ _ _=>False,RM:=λ_ _ _ _=>False}
  have hx:XOkM (cxOf (CX1 P w) P w K mg base N qual (ag st) f cdv A outer s H E).nox:=λσ z M' F' H' s' e C od y fs I kk rr hR er _=>hR.elim;obtain⟨t,ht,hq⟩:=a9 cdv A outer s H E inferInstance hr hx;have Fa:F1 a=none:=fh.free ha;have k0:Kept B F1 F1 H:=⟨λb o e=>by
   by_cases n:b=a
   .rw[n,M4] at e;cases e
   .rw[hB n] at e;exact e,λb o e=>(D_ (fh b o e)).2,Same.refl F1,λ_ h _=>h,rfl,Same.refl F1,λ_ h _=>h⟩
  have HB:Reps K F1 (.ptr a::ds) (.ref a::us):=reps_cons.mpr ⟨_,_,rfl,rep_ptr.mpr rfl,rs⟩;have On:RepM K F1 H [(a,.ins x [])]:=⟨by simp[av],λb o hb=>by
   have e:=D8.mp hb;cases e;exact⟨C,dx,[],hns,ax,repf_nil.mpr rfl⟩,λb hb=>by
   have e:b=a:=by simpa[av] using hb
   rw[e];exact Fa⟩
  have r0:RepZ K B F1 H (startD N (.ptr a::ds)) (L2.start N (.ref a::us)) [(a,.ins x [])]:=⟨dX HB,qW HB,On,λb hb=>by
   have e:b=a:=by simpa[av] using hb
   rw[e];exact M4⟩
  refine⟨_,ht.out.nox,F1,F1,_,_,k0,r0,_,hq a ds R (λ_ _ _ _ z=>z) h,⟨λz' s' M' F' H' kk hn r=>?_,λd v M' F' H' kk hd rd MZ mb=>hd.elim,λ_ _ _ _ _ _ h _=>h.elim,λ_ _ _ _ _ _ h _=>h.elim⟩⟩;obtain⟨fs,rfl,hR⟩:=hn;obtain⟨C',D',ws,k8,f7,rf⟩:=r.rm.ok a _ (D8.mpr rfl);have x':nsIn K Pi x=be (be (.ref C')):=k8;rw[hns] at x';cases x';exact q fs ws D' F' H' ⟨kk.f0,kk.fh,λb o e=>kk.bh b o (by show B b=be o;rw[hB (D_ e).1];exact(D_ e).2),λb h1 h2=>kk.out b h1 (by
   show B b≠o_;cases e:H1 b with
   |none=>exact absurd e h2
   |some o=>rw[hB (D_ e).1,(D_ e).2];exact λz=>nomatch z)⟩ hR f7 (r.rm.fr a (by simp[av])) rf
end
section
variable {P:PH}{w:PP}{K:D6}{mg:y'->Option KB}{base:Heap}{n:Nat}{x m:y'}{ps:List y'}
variable{S:SpM}
def CalMth.one(h:CalMth P w K mg base n x m ps (lSpM K S)):∀ y,y∈[x]->CalMth P w K mg base n y m ps (lSpM K ((λ_=>S) y)):=λy hy=>by
 rw[D8.mp hy];exact h
def re{f:KF}{fd:PY}{sp:Sp}(h:∀ vs H Q E,¬ sp vs H Q E):FnOk P w K mg base (CX1 P w) n f fd ps sp:=⟨λvs H Q E q=>(h _ _ _ _ q).elim,λA outer s H args us vs Q E _ _ _ _ q=>(h _ _ _ _ q).elim⟩
def rg(h:∀ ds M R RX,¬ S ds M R RX):∀ vs H Q E,¬ lSpM K S vs H Q E:=by
 rintro vs H Q E ⟨F,ds,M,_,_,_,R,RX,q,_⟩;exact h ds M R RX q
def CalMth.never{qual:y'}{st:PL}(T:Txm K x m qual st ps)(h:∀ ds M R RX,¬ S ds M R RX):CalMth P w K mg base n x m ps (lSpM K S):=by
 obtain⟨C,f,fd,h1,h2,h3,T,hb⟩:=T;exact⟨C,f,fd,h1,h2,h3,re (rg h),hb⟩
def CalMM.never{st:PL}(T:Tx K mg x st ps)(h:∀ ds M R RX,¬ S ds M R RX):CalMM P w K mg base n x ps S:=by
 obtain⟨f,fd,T,hb,hm⟩:=T;exact⟨f,fd,re (rg h),hb,T.kp,hm⟩
end
def jP(S:SpM):SpM:=λds M R RX=>∃ M1 M2,M=M1++M2/\S ds M2 (λd M'=>R d (M1++M')) λx fs M'=>RX x fs (M1++M')
def keys_app{M1 M2:MS}:a∈av (M1++M2)↔a∈av M1\/a∈av M2:=by unfold av;rw[EQ,EC]
def rh{K:D6}{S:SpM}{vs:List V}{H:Hp}{Q:VK}{E:XK}(h:lSpM K (jP S) vs H Q E):lSpM K S vs H Q E:=by
 obtain⟨F,ds,M,fh,rs,rm,R,RX,⟨M1,M2,rfl,hS⟩,q,qx⟩:=h;have nd:(av M1++av M2).Nodup:=by have:=rm.nd;unfold av at this ⊢;rw[EQ] at this;exact this
 have Lq:∀ {a:KF},a∈av M1->a ∉ av M2:=λ{a} h1 h2=>(FE.mp nd).2.2 a h1 a h2 rfl;have Oo:RepM K F H M2:=⟨(FE.mp nd).2.1,λa o h=>rm.ok a o (Ek _ h),λa h=>rm.fr a (keys_app.mpr (.inr h))⟩;have up:∀ {M':MS} {F' H':Hp},GrowM M2 M' F H F' H'->RepM K F' H' M'->GrowM (M1++M2) (M1++M') F H F' H'/\RepM K F' H' (M1++M'):=λ{M' F' H'} g r=>by
  have v7:∀ {a:KF},a∈av M1->H a≠none:=λ{a} h=>rm.here (keys_app.mpr (.inl h));have Lr:∀ {a:KF},a∈av M1->a ∉ av M':=λ{a} h1 h2=>by
   rcases g.ks a h2 with z|z
   .exact Lq h1 z
   .exact v7 h1 z
  refine⟨⟨g.ff,g.fh,λb o nb e=>g.hh b o (λz=>nb (keys_app.mpr (.inr z))) e,λb nb h1 h2=>g.out b (λz=>nb (keys_app.mpr (.inr z))) h1 h2,λb hb=>?_⟩,⟨?_,λa o h=>?_,λa h=>?_⟩⟩
  .rcases keys_app.mp hb with z|z
   .exact .inl (keys_app.mpr (.inl z))
   .exact(g.ks b z).imp (λz=>keys_app.mpr (.inr z)) id
  .unfold av;rw[EQ];exact FE.mpr ⟨(FE.mp nd).1,r.nd,λa h1 b h2 e=>Lr h1 (e ▸ h2)⟩
  .rcases EC.mp h with z|z
   .have ka:a∈av M1:=cj z;exact(rm.ok a o (EV _ z)).mono g.ff λo e=>g.hh a o (Lq ka) e
   .exact r.ok a o z
  .rcases keys_app.mp h with z|z
   .exact g.out a (Lq z) (rm.fr a (keys_app.mpr (.inl z))) (v7 z)
   .exact r.fr a z
 exact⟨F,ds,M2,fh,rs,Oo,_,_,hS,λd v M' F' H' g hd rd m'=>q d v _ F' H' (up g m').1 hd rd (up g m').2,λx fs C od M' F' H' g hR er m'=>qx x fs C od _ F' H' (up g m').1 hR er (up g m').2⟩
section
variable {P:PH}{w:PP}{K:D6}{mg:y'->Option KB}{base:Heap}{n:Nat}{x m:y'}{ps:List y'}{S:SpM}
def CalMM.frame(C:CalMM P w K mg base n x ps S):CalMM P w K mg base n x ps (jP S):=C.imp λ_ _ _ _ h=>rh h
def CalMth.frame(C:CalMth P w K mg base n x m ps (lSpM K S)):CalMth P w K mg base n x m ps (lSpM K (jP S)):=C.imp λ_ _ _ _ h=>rh h
end
def nilX(S:SpX):SpM:=λds M R RX=>M=[]/\∃ (R0:D->Prop) (F_:XD),S ds R0 F_/\(∀ d M',R0 d->R d M')/\∀ x fs M',F_ x fs->RX x fs M'
def CalMM.nilX{P:PH}{w:PP}{K:D6}{mg:y'->Option KB}{base:Heap}{n:Nat}{x:y'}{ps:List y'}{S:SpX}(C:CalMM P w K mg base n x ps (nilX S)):CalX P w K mg base n x ps S:=C.toX λ_ R RX h=>⟨rfl,R,RX,h,λ_ _ h=>h,λ_ _ _ h=>h⟩
mutual
def cE:D->Bool
 | .non=>true| .bl _=>true| .int _=>true| .str _=>true| .ptr _=>true
 | .tup ds=>fL ds
 | .lst ds=>fL ds
 |_=>false
def fL:List D->Bool
 |[]=>true
 |d::ds=>cE d && fL ds
end
def cutF(F:Hp)(a:KF):Hp:=λb=>if b=a then o_ else F b
def fM{F:Hp}{b:KF}(h:b≠a):cutF F a b=F b:=if_neg h
mutual
def Rep.cutF{K:D6}{F:Hp}{a:KF}{C:KF}{dx:KF}{ws:List (y' × V)}(ea:F a=be (.ins C dx ws)):∀ (d:D) (v:V),cE d=true->Rep K F d v->Rep K (My.cutF F a) d v
 | .non,v,_,h=>by unfold Rep at h ⊢;exact h
 | .bl b,v,_,h=>by unfold Rep at h ⊢;exact h
 | .int b,v,_,h=>by unfold Rep at h ⊢;exact h
 | .str b,v,_,h=>by unfold Rep at h ⊢;exact h
 | .ptr b,v,_,h=>by unfold Rep at h ⊢;exact h
 | .tup ds,v,n,h=>by
  unfold Rep at h ⊢;obtain⟨p,vs,e,q,r⟩:=h;have ne:p≠a:=λz=>by rw[z,ea] at q;cases q
  exact⟨p,vs,e,by rw[fM ne];exact q,Reps.cutF ea ds vs (by unfold cE at n;exact n) r⟩
 | .lst ds,v,n,h=>by
  unfold Rep at h ⊢;obtain⟨p,vs,e,q,r⟩:=h;have ne:p≠a:=λz=>by rw[z,ea] at q;cases q
  exact⟨p,vs,e,by rw[fM ne];exact q,Reps.cutF ea ds vs (by unfold cE at n;exact n) r⟩
 | .rol _,_,n,_=>by unfold cE at n;cases n
 | .obj _ _,_,n,_=>by unfold cE at n;cases n
 | .exc _ _,_,n,_=>by unfold cE at n;cases n
 | .own _,_,n,_=>by unfold cE at n;cases n
 | .dti _,_,n,_=>by unfold cE at n;cases n
def Reps.cutF{K:D6}{F:Hp}{a:KF}{C:KF}{dx:KF}{ws:List (y' × V)}(ea:F a=be (.ins C dx ws)):∀ (ds:List D) (vs:List V),fL ds=true->Reps K F ds vs->Reps K (My.cutF F a) ds vs
 |[],vs,_,h=>by unfold Reps at h ⊢;exact h
 |d::ds,vs,n,h=>by
  unfold fL at n;rw[Ew] at n;unfold Reps at h ⊢;obtain⟨v,r,e,q1,q2⟩:=h;exact⟨v,r,e,Rep.cutF ea d v n.1 q1,Reps.cutF ea ds r n.2 q2⟩
end
end My
namespace My
section
variable {K:D6}{h:Heap}{mg:y'->Option KB}{x y m q f:y'}{st:PL}{ps:List y'}
abbrev NsC(K:D6)(x:y')(C:KF):Prop:=nsIn K Pi x=be (be (.ref C))
variable{C:KF}
def NsC.uniq{D:KF}(a:NsC K x C)(b:NsC K x D):C=D:=by
 have e:=a.symm.trans b;cases e;rfl
abbrev BindA(x q:y')(st:PL)(ps:List y'):Prop:=∀ (kV doc pm:KB) (an:Option KF) (cdv ct:KB) (us:List KB),us.length=ps.length->Qr (fnOf x q (bD st) (aI st) (ag st) .none kV doc pm an cdv ct) ⟨us,[]⟩=pure (ps.zip us)
def FnIn(K:D6)(x:y')(st:PL):Prop:=∃ f fd,NsC K x f/\Fun K x x st f fd
variable{oc kV dc pm cd ct:KB}{od an:Option KF}{sl:Array (Option KB)}
def fnIn_mk{f:KF}(a:nsIn K Pi x=be (be (.ref f)))(l:K.lookup f=be ⟨oc,od,.func (fnOf x x (bD st) (aI st) (ag st) .none kV dc pm an cd ct),sl⟩)(c:codeIn K cd x=true)(k:keepIn K (.ref f)=true):FnIn K x st:=⟨f,_,a,gm l c k⟩
def FnIn.tx(T:FnIn K x st)(X:K.In h)(G:h.Ns Pi mg)(b:BindA x x st ps):Tx K mg x st ps:=by
 obtain⟨f,fd,a,F⟩:=T;exact⟨f,fd,F,F.binds b,mg_of X G a⟩
def FnIn.law{p:y'}(T:FnIn K x st)(X:K.In h)(G:h.Ns Pi mg){fa:KF}(Jr:mg x=be (.ref fa))(b:∀ (kV doc pm:KB) (an:Option KF) (cdv ct v:KB),Qr (fnOf x x (bD st) (aI st) (ag st) .none kV doc pm an cdv ct) ⟨[v],[]⟩=pure [(p,v)]):∃ fd,(∀ (s:KM) (v:KB),QM s fd ⟨[v],[]⟩ [(p,v)])/\Fun K x x st fa fd:=by
 obtain⟨f,fd,a,F⟩:=T;have e:=Jr.symm.trans (mg_of X G a);cases e;refine⟨fd,λs v=>?_,F⟩;obtain⟨oc,od,kV,doc,pm,an,cdv,ct,osl,rfl,lk,f8⟩:=F.ex;exact .of_eq (b _ _ _ _ _ _ v)
variable{us:List KB}
def bF{x:y'}{xs:List y'}(h:us.length=(x::xs).length):∃ u t,us=u::t/\t.length=xs.length:=by
 cases us with
 |nil=>cases h
 |cons u t=>exact⟨u,t,rfl,Nat.succ.inj h⟩
def len_0(h:us.length=([]:List y').length):us=[]:=FR h
variable{x0:y'}
def zo(b:∀ (kV doc pm:KB) (an:Option KF) (cdv ct u0:KB),Qr (fnOf x q (bD st) (aI st) (ag st) .none kV doc pm an cdv ct) ⟨[u0],[]⟩=pure [(x0,u0)]):BindA x q st [x0]:=λkV doc pm an cdv ct us hl=>by
 obtain⟨u0,t0,rfl,h0⟩:=bF hl;cases len_0 h0;exact b kV doc pm an cdv ct u0
variable{x1:y'}
def bind2(b:∀ (kV doc pm:KB) (an:Option KF) (cdv ct u0 u1:KB),Qr (fnOf x q (bD st) (aI st) (ag st) .none kV doc pm an cdv ct) ⟨[u0,u1],[]⟩=pure [(x0,u0),(x1,u1)]):BindA x q st [x0,x1]:=λkV doc pm an cdv ct us hl=>by
 obtain⟨u0,t0,rfl,h0⟩:=bF hl;obtain⟨u1,t1,rfl,h1⟩:=bF h0;cases len_0 h1;exact b kV doc pm an cdv ct u0 u1
variable{x2:y'}
def bind3(b:∀ (kV doc pm:KB) (an:Option KF) (cdv ct u0 u1 u2:KB),Qr (fnOf x q (bD st) (aI st) (ag st) .none kV doc pm an cdv ct) ⟨[u0,u1,u2],[]⟩=pure [(x0,u0),(x1,u1),(x2,u2)]):BindA x q st [x0,x1,x2]:=λkV doc pm an cdv ct us hl=>by
 obtain⟨u0,t0,rfl,h0⟩:=bF hl;obtain⟨u1,t1,rfl,h1⟩:=bF h0;obtain⟨u2,t2,rfl,h2⟩:=bF h1;cases len_0 h2;exact b kV doc pm an cdv ct u0 u1 u2
def bind4{x3:y'}(b:∀ (kV doc pm:KB) (an:Option KF) (cdv ct u0 u1 u2 u3:KB),Qr (fnOf x q (bD st) (aI st) (ag st) .none kV doc pm an cdv ct) ⟨[u0,u1,u2,u3],[]⟩=pure [(x0,u0),(x1,u1),(x2,u2),(x3,u3)]):BindA x q st [x0,x1,x2,x3]:=λkV doc pm an cdv ct us hl=>by
 obtain⟨u0,t0,rfl,h0⟩:=bF hl;obtain⟨u1,t1,rfl,h1⟩:=bF h0;obtain⟨u2,t2,rfl,h2⟩:=bF h1;obtain⟨u3,t3,rfl,h3⟩:=bF h2;cases len_0 h3;exact b kV doc pm an cdv ct u0 u1 u2 u3
def bind5{x3 x4:y'}(b:∀ (kV doc pm:KB) (an:Option KF) (cdv ct u0 u1 u2 u3 u4:KB),Qr (fnOf x q (bD st) (aI st) (ag st) .none kV doc pm an cdv ct) ⟨[u0,u1,u2,u3,u4],[]⟩=pure [(x0,u0),(x1,u1),(x2,u2),(x3,u3),(x4,u4)]):BindA x q st [x0,x1,x2,x3,x4]:=λkV doc pm an cdv ct us hl=>by
 obtain⟨u0,t0,rfl,h0⟩:=bF hl;obtain⟨u1,t1,rfl,h1⟩:=bF h0;obtain⟨u2,t2,rfl,h2⟩:=bF h1;obtain⟨u3,t3,rfl,h3⟩:=bF h2;obtain⟨u4,t4,rfl,h4⟩:=bF h3;cases len_0 h4;exact b kV doc pm an cdv ct u0 u1 u2 u3 u4
structure ClF(K:D6)(x:Str)(C:KF):Prop where
 ns:NsC K x C
 cl:Cls K C
 ha:Ee K (.ref C) "__class__"=be (be (.builtin "object.__class__"))
 hn:specialIn K (.builtin "object.__class__") "__get__"=be (be (.builtin "getset_descriptor.__get__"))
 ht:takesIn K (.builtin "object.__class__")=be true
 hm:Fg K C (.type "object")=be true
def ClIn(K:D6)(x:y'):Prop:=∃ C,ClF K x C
def clIn_mk(a:nsIn K Pi x=be (be (.ref C)))(pg:plainGet K C Str.empty=true)(hd:hasDictIn K C=true)(po:plainOver K C=true)(sa:Ee K (.ref C) "__setattr__"=be (be (.builtin "object.__setattr__")))
  (ha:Ee K (.ref C) "__class__"=be (be (.builtin "object.__class__"))) (hn:specialIn K (.builtin "object.__class__") "__get__"=be (be (.builtin "getset_descriptor.__get__"))) (ht:takesIn K (.builtin "object.__class__")=be true) (hm:Fg K C (.type "object")=be true):ClIn K x:=⟨C,a,⟨pg,hd,po,sa⟩,ha,hn,ht,hm⟩
def ClIn.i(c:ClIn K x)(X:K.In h)(G:h.Ns Pi mg):∃ C,ClsI K mg x C:=by
 obtain⟨C,k⟩:=c;exact⟨C,k.ns,mg_of X G k.ns,k.cl,k.ha,k.hn,k.ht,k.hm,xQ⟩
def NoIn(K:D6)(x f:y'):Prop:=∃ C,NsC K x C/\Ee K (.ref C) f=be o_
def noIn_mk(a:nsIn K Pi x=be (be (.ref C)))(b:Ee K (.ref C) f=be o_):NoIn K x f:=⟨C,a,b⟩
def ClIn.a(c:ClIn K x)(n:NoIn K x f):ClsA K x f:=by
 obtain⟨C,k⟩:=c;obtain⟨D,a,b⟩:=n;cases NsC.uniq k.ns a;exact⟨C,a,k.cl,b⟩
def NoIn.all(n:NoIn K x f):∀ C,nsIn K Pi x=be (be (.ref C))->Ee K (.ref C) f=be none:=λC hC=>by
 obtain⟨D,a,b⟩:=n;cases NsC.uniq hC a;exact b
def MtIn(K:D6)(x m q:y')(st:PL):Prop:=∃ C f fd,NsC K x C/\Meth K C m f/\Fun K m q st f fd
def mtIn_mk{f:KF}(a:nsIn K Pi x=be (be (.ref C)))(b:Ee K (.ref C) m=be (be (.ref f)))(i:isFn K (.ref f)=true)(l:K.lookup f=be ⟨oc,od,.func (fnOf m q (bD st) (aI st) (ag st) .none kV dc pm an cd ct),sl⟩)(c:codeIn K cd q=true)(k:keepIn K (.ref f)=true):MtIn K x m q st:=⟨C,f,_,a,⟨b,i,k⟩,gm l c k⟩
def MtIn.txm(T:MtIn K x m q st)(c:ClIn K x)(b:BindA m q st ps):Txm K x m q st ps:=by
 obtain⟨C,k⟩:=c;obtain⟨D,f,fd,a,mt,F⟩:=T;cases NsC.uniq k.ns a;exact⟨C,f,fd,a,k.cl,mt,F,F.binds b⟩
def InIn(K:D6)(x q:y')(st:PL):Prop:=∃ C f fd,NsC K x C/\Mk K C f/\Fun K "__init__" q st f fd
def inIn_mk{f:KF}(a:nsIn K Pi x=be (be (.ref C)))(mk:makesIn K C=true)(b:Ee K (.ref C) "__init__"=be (be (.ref f)))(i:isFn K (.ref f)=true)(kp:keepIn K (.ref C)=true)(l:K.lookup f=be ⟨oc,od,.func (fnOf "__init__" q (bD st) (aI st) (ag st) .none kV dc pm an cd ct),sl⟩)(c:codeIn K cd q=true)(k:keepIn K (.ref f)=true):InIn K x q st:=⟨C,f,_,a,⟨mk,b,i,kp⟩,gm l c k⟩
def Txi(K:D6)(mg:y'->Option KB)(x q:y')(st:PL)(ps:List y'):Prop:=∃ C f fd,NsC K x C/\mg x=be (.ref C)/\Mk K C f/\Fun K "__init__" q st f fd/\Binds K fd ps []
def InIn.txi(T:InIn K x q st)(X:K.In h)(G:h.Ns Pi mg)(b:BindA "__init__" q st ps):Txi K mg x q st ps:=by
 obtain⟨C,f,fd,a,mk,F⟩:=T;exact⟨C,f,fd,a,mg_of X G a,mk,F,F.binds b⟩
def CiIn(K:D6)(x:y')(i:Int):Prop:=∃ t,nsIn K Pi x=be (be (.int i t))
def CsIn(K:D6)(x y:y'):Prop:=∃ t,nsIn K Pi x=be (be (.str y t))
def ciIn_mk{i:Int}{t:Tok}(a:nsIn K Pi x=be (be (.int i t))):CiIn K x i:=⟨t,a⟩
def csIn_mk{t:Tok}(a:nsIn K Pi x=be (be (.str y t))):CsIn K x y:=⟨t,a⟩
def CiIn.g{i:Int}(c:CiIn K x i)(X:K.In h)(G:h.Ns Pi mg):∃ t,mg x=be (.int i t):=let ⟨t,a⟩:=c;⟨t,mg_of X G a⟩
def CsIn.g(c:CsIn K x y)(X:K.In h)(G:h.Ns Pi mg):∃ t,mg x=be (.str y t):=let ⟨t,a⟩:=c;⟨t,mg_of X G a⟩
def NnIn(K:D6)(x:y'):Prop:=nsIn K Pi x=be o_
def nnIn_mk(a:nsIn K Pi x=be o_):NnIn K x:=a
structure ErF(K:D6)(x:Str)(bm:List KB)(C N:KF):Prop where
 ns:NsC K x C
 kp:keepIn K (.ref C)=true
 ob:∃ nm q bs sn sub ab col dd k0 k1 k2 k3 k5,K.lookup C=be (Qb nm q C N bs bm true sn sub ab col dd k0 k1 k2 k3 k5 "ValueError.__new__")
structure ErN(K:D6)(N:KF):Prop where
 ok:nsOkIn K N=true
 no:nsIn K N "__init__"=be o_
def EbIn(K:D6):Prop:=∃ C N,ErF K "MotifError" Exc.veLine C N/\ErN K N
def EdIn(K:D6)(x:y')(C N:KF):Prop:=∃ B,NsC K "MotifError" B/\ErF K x (.ref B::Exc.veLine) C N
def E0In(K:D6)(x:y'):Prop:=∃ C N,EdIn K x C N/\ErN K N
def E1In(K:D6)(x q:y')(st:PL):Prop:=∃ C N f fd,EdIn K x C N/\Ee K (.ref C) "__init__"=be (be (.ref f))/\isFn K (.ref f)=true/\Fun K "__init__" q st f fd
def EaIn(K:D6)(x:y'):Prop:=∃ C,NsC K x C/\Ee K (.ref C) "__setattr__"=be (be (.builtin "object.__setattr__"))
def EgIn(K:D6)(x:y'):Prop:=∃ C,NsC K x C/\Ee K (.ref C) "__getattribute__"=be (be (.builtin "BaseException.__getattribute__"))/\Ee K (.ref C) "__getattr__"=be o_
def EiIn(K:D6)(x:y'):Prop:=∃ M,NsC K x M/\readsIn K M (.type "type")=true/\findCls K (.ref M) (.type "type") "__init__"=be (.val (.builtin "ValueError.__init__"))/\specialIn K (.ref M) "__getattribute__"=be (be (.builtin "type.__getattribute__"))
section
variable {B C D N:KF}{nm qn:y'}{bs:List KB}{sn:List y'}{sub:List KB}{ab:Bool}{col:Option Bool}{dd:Option KF}{k0 k1 k2 k3 k5:Option KB}{nc:KB}{nd:Option KF}{ne:Array DictEntry}{np:Nat}{nl:Array (Option KB)}
def ebIn_mk(a:nsIn K Pi "MotifError"=be (be (.ref C)))(kp:keepIn K (.ref C)=true)(o:K.lookup C=be (Qb nm qn C N bs Exc.veLine true sn sub ab col dd k0 k1 k2 k3 k5 "ValueError.__new__"))(nk:K.lookup N=be ⟨nc,nd,.dict ne np,nl⟩)(al:ne.toList.all (λe=>match e.key with| .str _ _=>true|_=>false)=true)(ni:nsIn K N "__init__"=be o_):EbIn K:=⟨C,N,⟨a,kp,_,_,_,_,_,_,_,_,_,_,_,_,_,o⟩,qI nk al,ni⟩
def e0In_mk(b:nsIn K Pi "MotifError"=be (be (.ref B)))(a:nsIn K Pi x=be (be (.ref C)))(kp:keepIn K (.ref C)=true)(o:K.lookup C=be (Qb nm qn C N bs (.ref B::Exc.veLine) true sn sub ab col dd k0 k1 k2 k3 k5 "ValueError.__new__"))(nk:K.lookup N=be ⟨nc,nd,.dict ne np,nl⟩)(al:ne.toList.all (λe=>match e.key with| .str _ _=>true|_=>false)=true)(ni:nsIn K N "__init__"=be o_):E0In K x:=⟨C,N,⟨B,b,a,kp,_,_,_,_,_,_,_,_,_,_,_,_,_,o⟩,qI nk al,ni⟩
def e1In_mk{f:KF}{oc:KB}{od an:Option KF}{sl:Array (Option KB)}{kV dc pm cd ct:KB}(b:nsIn K Pi "MotifError"=be (be (.ref B)))(a:nsIn K Pi x=be (be (.ref C)))(kp:keepIn K (.ref C)=true)(o:K.lookup C=be (Qb nm qn C N bs (.ref B::Exc.veLine) true sn sub ab col dd k0 k1 k2 k3 k5 "ValueError.__new__"))
  (j:Ee K (.ref C) "__init__"=be (be (.ref f))) (i:isFn K (.ref f)=true) (l:K.lookup f=be ⟨oc,od,.func (fnOf "__init__" q (bD st) (aI st) (ag st) .none kV dc pm an cd ct),sl⟩) (c:codeIn K cd q=true) (k:keepIn K (.ref f)=true):E1In K x q st:=⟨C,N,f,_,⟨B,b,a,kp,_,_,_,_,_,_,_,_,_,_,_,_,_,o⟩,j,i,gm l c k⟩
def eaIn_mk(a:nsIn K Pi x=be (be (.ref C)))(b:Ee K (.ref C) "__setattr__"=be (be (.builtin "object.__setattr__"))):EaIn K x:=⟨C,a,b⟩
def eiIn_mk(a:nsIn K Pi x=be (be (.ref C)))(b:readsIn K C (.type "type")=true)(c:findCls K (.ref C) (.type "type") "__init__"=be (.val (.builtin "ValueError.__init__")))(d:specialIn K (.ref C) "__getattribute__"=be (be (.builtin "type.__getattribute__"))):EiIn K x:=⟨C,a,b,c,d⟩
end
def EbIn.k(e:EbIn K)(X:K.In h)(G:h.Ns Pi mg):∃ C N bm,ErrK K mg "MotifError" C N bm/\ErrN K N:=by
 obtain⟨C,N,k,n⟩:=e;exact⟨C,N,_,⟨k.ns,mg_of X G k.ns,k.kp,k.ob,qH⟩,n.ok,n.no⟩
def EdIn.k{N:KF}(e:EdIn K x C N)(b:EbIn K)(X:K.In h)(G:h.Ns Pi mg):∃ bm,ErrK K mg x C N bm:=by
 obtain⟨B,hB,k⟩:=e;obtain⟨B',N',kb,n⟩:=b;cases NsC.uniq kb.ns hB;obtain⟨_,_,_,_,_,_,_,_,_,_,_,_,_,o⟩:=kb.ob;exact⟨_,k.ns,mg_of X G k.ns,k.kp,k.ob,xP o rfl n.ok n.no⟩
def E0In.k(e:E0In K x)(b:EbIn K)(X:K.In h)(G:h.Ns Pi mg):∃ C N bm,ErrK K mg x C N bm/\ErrN K N:=by
 obtain⟨C,N,k,n⟩:=e;obtain⟨bm,z⟩:=k.k b X G;exact⟨C,N,bm,z,n.ok,n.no⟩
def Txe(K:D6)(mg:y'->Option KB)(x q:y')(st:PL)(ps:List y'):Prop:=∃ C N bm f fd,ErrK K mg x C N bm/\Ee K (.ref C) "__init__"=be (be (.ref f))/\isFn K (.ref f)=true/\Fun K "__init__" q st f fd/\Binds K fd ps []
def E1In.txe(e:E1In K x q st)(b:EbIn K)(X:K.In h)(G:h.Ns Pi mg)(bi:BindA "__init__" q st ps):Txe K mg x q st ps:=by
 obtain⟨C,N,f,fd,k,i,j,F⟩:=e;obtain⟨bm,z⟩:=k.k b X G;exact⟨C,N,bm,f,fd,z,i,j,F,F.binds bi⟩
def ErrK.a'{N:KF}{bm:List KB}(k:ErrK K mg x C N bm)(a:EaIn K x):∃ C cd,ErrA K x C cd:=by
 obtain⟨D,hD,sa⟩:=a;cases NsC.uniq k.ns hD;exact⟨C,k.a sa⟩
def E1In.a(e:E1In K x q st)(b:EbIn K)(a:EaIn K x)(X:K.In h)(G:h.Ns Pi mg):∃ C cd,ErrA K x C cd:=by
 obtain⟨C,N,f,fd,k,_⟩:=e;obtain⟨bm,z⟩:=k.k b X G;exact z.a' a
def E1In.c(e:E1In K x q st)(b:EbIn K)(X:K.In h)(G:h.Ns Pi mg):∃ C N bm,ErrK K mg x C N bm:=by
 obtain⟨C,N,f,fd,k,_⟩:=e;obtain⟨bm,z⟩:=k.k b X G;exact⟨C,N,bm,z⟩
def EiIn.b(e:EiIn K x)(X:K.In h)(G:h.Ns Pi mg):∃ M,BaseK K mg x M:=by
 obtain⟨M,a,b,c,d⟩:=e;exact⟨M,mg_of X G a,b,c,d⟩
def EgIn.g(e:EgIn K x)(a:∃ C cd,ErrA K x C cd)(n:NoIn K x f):ErrG K f x:=by
 obtain⟨C,h1,h2,h3⟩:=e;obtain⟨D,cd,ea⟩:=a;cases NsC.uniq ea.ns h1;exact⟨C,cd,ea,h2,h3,n.all C h1⟩
def AllP(p:y'->Prop):List y'->Prop
 |[]=>True
 |a::l=>p a/\AllP p l
def AllP.mem{p:y'->Prop}:∀ {l:List y'},AllP p l->∀ x∈l,p x
 |_::_,h,_,.head _=>h.1
 |_::_,h,_,.tail _ m=>AllP.mem h.2 _ m
end
structure Bx where
 P:PH
 w:PP
 K:D6
 mg:y'->Option KB
 base:Heap
abbrev Bx.T(V:Bx)(x:y')(st:PL)(ps:List y'):Prop:=Tx V.K V.mg x st ps
abbrev Bx.Tm(V:Bx)(x m q:y')(st:PL)(ps:List y'):Prop:=Txm V.K x m q st ps
abbrev Bx.Ti(V:Bx)(x q:y')(st:PL)(ps:List y'):Prop:=Txi V.K V.mg x q st ps
abbrev Bx.Te(V:Bx)(x q:y')(st:PL)(ps:List y'):Prop:=Txe V.K V.mg x q st ps
abbrev Bx.m(V:Bx)(x:y'):Prop:=V.mg x=o_
abbrev Bx.gi(V:Bx)(x:y')(i:Int):Prop:=∃ t,V.mg x=be (.int i t)
abbrev Bx.gs(V:Bx)(x y:y'):Prop:=∃ t,V.mg x=be (.str y t)
abbrev Bx.a(V:Bx)(x f:y'):Prop:=ClsA V.K x f
abbrev Bx.i(V:Bx)(x:y'):Prop:=∃ C,ClsI V.K V.mg x C
abbrev Bx.D(V:Bx)(n:Nat)(x:y')(ps:List y')(S:SpD):Prop:=CalD V.P V.w V.K V.mg V.base n x ps S
abbrev Bx.X(V:Bx)(n:Nat)(x:y')(ps:List y')(S:SpX):Prop:=CalX V.P V.w V.K V.mg V.base n x ps S
abbrev Bx.MM(V:Bx)(n:Nat)(x:y')(ps:List y')(S:SpM):Prop:=CalMM V.P V.w V.K V.mg V.base n x ps S
abbrev Bx.M(V:Bx)(n:Nat)(x:y')(ps:List y')(S:SiD):Prop:=CalM V.P V.w V.K V.mg V.base n x ps S
abbrev Bx.E(V:Bx)(n:Nat)(x:y')(ps:List y')(S:SiD):Prop:=CalE V.P V.w V.K V.mg V.base n x ps S
abbrev Bx.Q(V:Bx)(n:Nat)(x m:y')(ps:List y')(S:SpM):Prop:=CalMth V.P V.w V.K V.mg V.base n x m ps (lSpM V.K S)
abbrev Bx.n(V:Bx)(x:y'):Prop:=∃ C N bm,ErrK V.K V.mg x C N bm/\ErrN V.K N
abbrev Bx.b(V:Bx)(x:y'):Prop:=∃ M,BaseK V.K V.mg x M
abbrev Bx.ea(V:Bx)(x:y'):Prop:=∃ C cd,ErrA V.K x C cd
abbrev Bx.xf(V:Bx)(x f:y'):Prop:=∀ C,nsIn V.K Pi x=be (be (.ref C))->Ee V.K (.ref C) f=be o_
abbrev Bx.x(V:Bx)(f:y')(ys:List y'):Prop:=∀ y∈ys,ErrG V.K f y
section
variable {P:PH}{w:PP}{K:D6}{mg:y'->Option KB}{base:Heap}
variable{x qual p0:y'}{st:PL}{N ps:List y'}{k:Nat}{S:SiD}
def Txi.okI(T:Txi K mg x qual st (p0::ps))(F:FnScope (p0::N) (p0::ps) (ag st))(len:∀ ds R,S ds R->ds.length=ps.length)
  (a9:∀ (f:KF) (cdv:KB) (A:PQ) (outer:List Qs) (s:KM) (H:Hp) (E:XK) (J:Jx),Room k (A.deeper (P2 qual (ag st) s.heap.objs.size f cdv))->
   ∃ t,WDI (cxOf (Exc.CX1 P w) P w K mg base (p0::N) qual (ag st) f cdv A outer s H E).nox x (aI st) t/\∀ ds R,S ds R->t (o_::startD N ds) [] R):CalM P w K mg base (k+1) x (p0::ps) S:=by
 obtain⟨C,f,fd,a,b,c,d,e⟩:=T;exact Cls.okIW d e F len a b c (a9 f)
def Txi.okIM(T:Txi K mg x qual st (p0::ps))(F:FnScope N (p0::ps) (ag st))(len:∀ ds R,S ds R->ds.length=ps.length)
  (a9:∀ (f:KF) (cdv:KB) (A:PQ) (outer:List Qs) (s:KM) (H:Hp) (E:XK) (J:Jm),Room k (A.deeper (P2 qual (ag st) s.heap.objs.size f cdv))->XOkM (cxOf (Exc.CX1 P w) P w K mg base N qual (ag st) f cdv A outer s H E).nox->
   ∃ t,MSs (cxOf (Exc.CX1 P w) P w K mg base N qual (ag st) f cdv A outer s H E).nox (aI st) t/\∀ a ds R,(∀ z M x fs,¬ J.RM z M x fs)->S ds R->t {nx:=λ_ M'=>∃ fs,M'=[(a,.ins x fs)]/\R fs,rt:=λ_ _=>False} (startD N (.ptr a::ds)) [(a,.ins x [])]):CalM P w K mg base (k+1) x (p0::ps) S:=by
 obtain⟨C,f,fd,a,b,c,d,e⟩:=T;exact Cls.okIM d e F len a b c (a9 f)
def Txe.okE(T:Txe K mg x qual st (p0::ps))(F:FnScope (p0::N) (p0::ps) (ag st))(len:∀ ds R,S ds R->ds.length=ps.length)
  (a9:∀ (f:KF) (cdv:KB) (A:PQ) (outer:List Qs) (s:KM) (H:Hp) (E:XK) (J:Jx),Room k (A.deeper (P2 qual (ag st) s.heap.objs.size f cdv))->
   ∃ t,WDX (cxOf (Exc.CX1 P w) P w K mg base (p0::N) qual (ag st) f cdv A outer s H E).nox x (aI st) t/\∀ ds R,S ds R->t (o_::startD N ds) [] R):CalE P w K mg base (k+1) x (p0::ps) S:=by
 obtain⟨C,N',bm,f,fd,a,b,c,d,e⟩:=T;exact Cls.okEW d e F len a b c (a9 f)
end
section
variable {X:Cx}[J:Jx]{a b c e o ge iter:PJ}{es:List PJ}{ta tb tc te to ti tj:TD}{tt:TDT}{t:TDA}{pos px:P0}{x:y'}{scope:Qf}
def rj(ix:Nat)(C_:TDI)(te:TD):TSD:=λE z=>C_ z (cmpP te z λd=>match d with| .lst ys=>E.nx (z.set ix (be (.own ys)))|_=>False)
variable{K:D6}{H:Hp}
def zp{E:Ends}{s:L2.St}{ix:Nat}{wi:TI}{C_:TDI}(hI:ItOk K wi C_)(q:lS K (rj ix C_ te) E s H):tAsg (fG wi (lT K dT1) (lE K te)) (fq ix) E s H:=by
 obtain⟨B,F0,F,z,k,rs,ED,h,e⟩:=q;refine hI k.kf rs h λitems J F1 H1 g1 hg it=>qp (Q:=λv H=>E.nx (s.set ix (be v)) H) k.kf g1 rs (λD ys us F' H' hH hF GG hu ry hR=>?_) it (cmpP.g hg);have r2:=(rs.grow GG).setOwn (i:=ix) (a:=D) (k.bh.free hH) hF ry λj dj _ q1 q2=>by
  obtain⟨a,vs,p1,p2,_⟩:=rs.own j dj q1;rw[p1] at q2;cases q2;rw[hH] at p2;cases p2
 rw[qD hu] at r2;exact e.nx _ _ F' H' (k.grow GG) hR r2
def zq(ix:Nat){y:y'}{py h_:P0}(hc:X.calm=true)(S:CompScope X scope x)(hN:X.N.Nodup)(hi:WDE X iter ti)(he:∀ cl s₀ H₀ fp,WDE (cf X scope cl x s₀ H₀ fp) ge te)(Jn:autoParam (X.N[ix]?=be y) zA0)(hy:autoParam (Loc X.env.scope y) zA4)
  (hf:autoParam (zFN X y) zA2) (z_:autoParam (P4 (.ListComp ge [⟨.Name x px,iter,[],0⟩] scope pos) (be (.Name y py)) h_.line X.env=pure true) zA0) (hs:autoParam (∀ y,zFS X iter y) zA3):
  WDS X (.Assign [.Name y py] (.ListComp ge [⟨.Name x px,iter,[],0⟩] scope pos) h_) (rj ix (dItS ti) te):=⟨(qo hc S (xY hi.out) (λ_ _ _ _=>jz) (λa b c d=>(he a b c d).out) hN Jn hy hf z_ hs).anti λE s H q=>zp itS q⟩
def intsAre_of:∀ {ns:List Int} {us:List KB},Vals (ns.map V.int) us->QL us ns:=by
 intro ns;induction ns with
 |nil=>intro us h;cases h;exact .nil
 |cons n ns e=>
  intro us h;cases h with
  |cons r t=>
   obtain⟨_,rfl⟩:=r;exact .cons _ _ (e t)
def D4:RDn:=λds R=>match ds with|[.lst xs]=>∃ ns:List Int,xs=ns.map D.int/\0<ns.length/\∀ m,m∈ns->(∀ a∈ns,m<=a)->R (.int m)|_=>False
def rSCount:RTx:=λy ds R=>match ds with|[.str p]=>R (.int (Builtin.Str.occurrences y p 0 y.length (y.length+1)).length)|_=>False
def zr:MtS X "str.count" rSCount:=by
 refine⟨λx vs H Q=>∃ y p,x= .str y/\vs=[.str p]/\Q (.int (Builtin.Str.occurrences y p 0 y.length (y.length+1)).length) H,?_,?_⟩
 .intro pins s σ H x vs v us Q I rx rv h;obtain⟨y,p,rfl,rfl,q⟩:=h;obtain⟨t,rfl⟩:=rx;obtain⟨u,rfl,t',rfl⟩:=bM rv;exact SC.count ⟨.int _,H,I.tok _,⟨_,rfl⟩,q⟩
 .intro y ds vs F H R Q r h q;unfold rSCount at h;split at h
  .obtain⟨v,vr,rfl,h1,h2⟩:=reps_cons.mp r;rw[reps_nil.mp h2,rep_str.mp h1];exact⟨_,_,rfl,rfl,q _ _ (λ_=>rep_int.mpr rfl) h⟩
  .exact h.elim
def rk{apos cpos:P0}(ho:WDE X o to)(ha:WDA X [e] t)(b_:autoParam (PV o "count" X.env (PX o X.env)=PX o X.env) zA0)
  (d_:autoParam (zHF X cpos [e]) zA0)
  (c8:autoParam ((apos.endLine==cpos.line)=true) zA0) (hs:autoParam (zSE X e []) zA0):WDE X (.Call (.Attribute o "count" apos) [e] [] cpos) (dTx rSCount to t):=⟨jI PySem.F.slot_str_count PySem.F.type_str_count zr ho.out ha.out b_ d_ c8 hs⟩
def zt(is:List Nat)(ti:TDI)(tb:TSD):TSD:=λE z=>ti z λds=>∃ W:Nat->SD->Prop,W 0 z/\(∀ (k:Nat) x z,ds[k]?=be x->W k z->tb {E with nx:=W (k+1),ct:=W (k+1),bk:=E.nx} (aW is [.int k,x] z))/\∀ z,W ds.length z->E.nx z
variable{is:List Nat}
def zu{B F0 F1 H1:Hp}{z:SD}{s:L2.St}{E:Ends}{ED:EndsD}{It':It}{g:TG}{tb:TSD}{Jy:TS}{ds:List D}(k1:Kept B F0 F1 H1)(t6:RepS K B F1 H1 z s)(e:EndsOk K B F0 ED E)
  (go:∀ k F' H',Same F1 F'->Same F' H'->k<ds.length->It'.go k H') (stop:∀ F' H',Same F1 F'->Same F' H'->It'.stop ds.length H')
  (yld:∀ k F' H' x H'',Same F1 F'->Same F' H'->k<ds.length->It'.yld k H' x H''->∃ T d v,H' T=o_/\x= .ref T/\H''=upd H' T (.tup [.int k,v])/\ds[k]?=be d/\Rep K F' d v)
  (hg:∀ (dd:List D) (vs:List V) (T:KF) (z:SD) (s:L2.St) (F H:Hp) (Q:L2.St->Hp->Prop),dd.length=2->H T=be (.tup vs)->Reps K F dd vs->RepS K B F H z s->(∀ s',RepS K B F H (aW is dd z) s'->Q s' H)->g (.ref T) s H Q)
  (Ln:∀ E s H,lS K tb E s H->Jy E s H)
  (hd:∃ W:Nat->SD->Prop,W 0 z/\(∀ (k:Nat) x z,ds[k]?=be x->W k z->tb {ED with nx:=W (k+1),ct:=W (k+1),bk:=ED.nx} (aW is [.int k,x] z))/\∀ z,W ds.length z->ED.nx z):
  ∃ W:Nat->Nat->L2.St->Hp->Prop,(∃ m,W 0 m s H1)/\∀ i m σ H,W i m σ H->
   (It'.stop i H/\E.nx σ H)\/(It'.go i H/\∃ N:L2.St->Hp->Prop,(∀ σ' H',N σ' H'->∃ m',m'<m/\W (i+1) m' σ' H')/\∀ x H',It'.yld i H x H'->g x σ H' λσ2 H2=>Jy {E with nx:=N,ct:=N,bk:=E.nx} σ2 H2):=by
 obtain⟨W,w0,c7,out⟩:=hd;refine⟨λk m s' H'=>m=ds.length - k/\k<=ds.length/\∃ F' z',Kept B F0 F' H'/\Same F1 F'/\RepS K B F' H' z' s'/\W k z',⟨ds.length,by simp,EA _,F1,z,k1,Same.refl F1,t6,w0⟩,?_⟩;rintro k m s' H' ⟨rfl,hk,F',z',k',g',r',w'⟩;by_cases g5:k<ds.length
 .refine .inr ⟨go k F' H' g' k'.fh g5,λs3 H3=>∃ F3 z3,Kept B F0 F3 H3/\Same F1 F3/\RepS K B F3 H3 z3 s3/\W (k+1) z3,λs3 H3 h3=>⟨ds.length - (k+1),by lia,rfl,g5,h3⟩,λx H'' hy=>?_⟩;obtain⟨T,d,v,hT,rfl,rfl,hd,rd⟩:=yld k F' H' x H'' g' k'.fh g5 hy;have gn:=Grow.new k'.fh hT (.tup [.int k,v]);have k2:=k'.grow gn;have rp:Reps K (upd F' T (.tup [.int k,v])) [.int k,d] [.int k,v]:=reps_cons.mpr ⟨_,_,rfl,rep_int.mpr rfl,eB (rd.mono gn.ff)⟩;refine hg [.int k,d] _ T z' s' _ _ _ rfl ax rp (r'.grow gn) λs2 Ir=>Ln _ _ _ ?_;have gF:Same F1 (upd F' T (.tup [.int k,v])):=g'.trans gn.ff;refine⟨B,upd F' T (.tup [.int k,v]),upd F' T (.tup [.int k,v]),_,⟨k2.bh,k2.fh,Same.refl _,λb h1 _=>h1,k2.eb,k2.jf.trans k2.f0,λb h1 h2=>k2.out b (k2.jo b h1 h2) h2⟩,Ir,_,c7 k d z' hd w',?_⟩;have up:∀ {F3 H3:Hp},Kept B (upd F' T (.tup [.int k,v])) F3 H3->Kept B F0 F3 H3:=λk3=>⟨k3.bh,k3.fh,k2.f0.trans k3.f0,λb h1 h2=>k3.out b (k2.out b h1 h2) h2,k2.eb,k2.jf,k2.jo⟩;exact⟨λz3 s3 F3 H3 k3 h3 r3=>⟨F3,z3,up k3,gF.trans k3.f0,r3,h3⟩,λd v F3 H3 k3=>e.rt d v F3 H3 (up k3),λz3 s3 F3 H3 k3=>e.nx z3 s3 F3 H3 (up k3),λz3 s3 F3 H3 k3 h3 r3=>⟨F3,z3,up k3,gF.trans k3.f0,r3,h3⟩⟩
 .have ek:k=ds.length:=by lia
  subst ek;exact .inl ⟨stop F' H' g' k'.fh,e.nx z' s' F' H' k' (out z' w') r'⟩
def zv{es:List PJ}{x1:Nat}{tp p1 p2:P0}{body:List PL}{tb:TSD}(hp:Qc (PM X.prog X.w) X.A X.env X.xe)(hc:X.calm=true)(hm:X.mg "enumerate"=o_)(he:WDE X e te)(hG:DGs X es is)(hb:WDSs X body tb)(b7:autoParam (is.length=2) zA0)(hg:autoParam (Gl X "enumerate") zA0)
  (hn:autoParam ((PU es X.env).length=2) zA0) (m4:autoParam ((PU es X.env).findIdx? (·.1)=none) zA0)
  (hs:autoParam (∀ y,zFS X (.Call (.Name "enumerate" p1) [e] [] p2) y) zA3) (q9:autoParam (zSE X e []) zA0) (f_:autoParam (PR [e] X.env=[(false,PX e X.env)]) zA0):
  WDS X (.For (.Tuple es x1 tp) (.Call (.Name "enumerate" p1) [e] [] p2) body [] pos) (zt is (dItS te) tb):=by
 obtain⟨ug,Jz,kk⟩:=hG;refine⟨(dm hp hc (qY hg hm (bw he.out pa_nil q9) f_) (gc hc Jz hn m4) hb.out hs).anti λE s H q=>?_⟩;obtain⟨B,F0,F,z,kp,rs,ED,h,e⟩:=q;refine⟨B,F,z,kp.kf,rs,_,h,λd v F1 H1 g1 hd rd=>?_⟩;split at hd
 .rename_i x;obtain⟨ha,hd⟩:=hd;have hl:=gI x;refine⟨x,by rw[rep_str.mp rd],ha,zu (It':=Ites x) (kp.grow g1) (rs.grow g1) e (λk F' H' s1 s2 hk=>?_) (λF' H' s1 s2=>?_) (λk F' H' x H'' s1 s2 hk hy=>?_) (λdd p8 T z s F H Q hl hT rp HB hQ=>?_) (λ_ _ _ h=>h) hd⟩
  .rw[hl] at hk;exact hk
  .exact hl
  .obtain⟨T,c,hT,e1,e2,hc⟩:=hy;exact⟨T,.str ⟨#[c]⟩,.str ⟨#[c]⟩,hT,e1,e2,jH hc,rep_str.mpr rfl⟩
  .exact⟨T,p8,rfl,SqT.of hT,by rw[rp.length];exact hl,kk dd p8 z s B F H Q (by rw[hl,b7]) rp HB hQ⟩
 .exact hd.elim
def zw(K:D6):R2:=λx y H Q=>∃ p xs i z,x= .ref p/\y= .int i/\0<=i/\SqL K H p xs/\xs[i.toNat]?=be z/\Q z H
def zx:PGet X (zw X.K):=by
 intro pins s σ H x y v u Q I rx ry h;obtain⟨p,xs,i,z,rfl,rfl,h0,hq,he,q⟩:=h;cases rx;obtain⟨t,rfl⟩:=ry;obtain⟨its,r,pl,hz⟩:=I.list hq;obtain⟨w,ew,g8⟩:=r.get he;have hl:=r.length;have hn:=line63;have hi:=(Em.mp he).1;exact wpAny_getItem_list pl.isList h0 (by lia) (by simpa using ew) ⟨z,H,I,g8,q⟩
def rl(i:Nat)(ti te:TD):TSD:=λE z=>match z[i]? with
 |some (be (.own ds))=>ti z λy=>(match y with| .int k=>∃ n,0<=k/\ds[k.toNat]?=be (.int n)/\te z λd=>(match d with| .int m=>E.nx (z.set i (be (.own (ds.set k.toNat (.int (n+m))))))|_=>False)|_=>False)
 |_=>False
def zy(i:Nat){x:y'}{p1 p2:P0}(hb:WDE X b tb)(he:WDE X e te)(hN:autoParam (X.N[i]?=be x) zA0)(hv:autoParam (Vis X.env.scope x) zA5)(hd:autoParam (zND x) zA1)
  (f8:autoParam (zNC x) zA1)
  (ha:autoParam (∀ ov iv new,augStore b ov iv new=(do Qh [new,ov,iv] (Q4 ov iv new);Rq [new,ov,iv] [];pure .next)) zA7):
  WDS X (.AugAssign (.Subscript (.Name x p1) b p2) .Add e pos) (rl i tb te):=⟨(ub (cL hN hv hd f8) hb.out zx he.out uc pw ha).anti λE s H q=>by
 obtain⟨B,F0,F,z,k,rs,ED,h,e⟩:=q;unfold rl at h;split at h
 .rename_i ds ez;obtain⟨a,vs,q1,q2,q3,q4,q5⟩:=rs.own i ds ez;refine⟨.ref a,q1,B,F,z,k.kf,rs,_,h,λy w F2 H2 g2 hy ry=>?_⟩;split at hy
  .rename_i k';obtain⟨n,k0,en,hn⟩:=hy;have B_:F2 a=none:=g2.out a q4 (by rw[q2];exact λz=>nomatch z);obtain⟨v,ev,rv⟩:=q5.get en;refine⟨a,vs,_,v,rfl,rep_int.mp ry,k0,SqL.of (g2.hh _ _ q2),ev,B,F2,z,k.kf.grow g2,rs.grow g2,_,hn,λd u F3 H3 g3 hd rd=>?_⟩;split at hd
   .have r2:=(rs.grow g2).grow g3;have k2:=(k.grow g2).grow g3;have J_:F3 a=none:=g3.out a B_ (by rw[g2.hh _ _ q2];exact λz=>nomatch z);rw[rep_int.mp rv,rep_int.mp rd];have g5:=(Em.mp en).1;refine⟨_,_,rfl,rfl,a,vs,_,k'.toNat,rfl,rep_int.mp ry,g3.hh _ _ (g2.hh _ _ q2),by unfold ixN;rw[q5.length,if_pos k0,if_pos (by lia)],?_⟩;obtain⟨k3,r3⟩:=r2.change k2 ez q1 q3 J_ (Reps.put (d:= .int _) (v:= .int _) (rep_int.mpr rfl) k'.toNat ((q5.mono g2.ff).mono g3.ff));exact e.nx _ s F3 _ k3 hd r3
   .exact hd.elim
  .exact hy.elim
 .exact h.elim⟩
def EqE(K:D6)(H:Hp)(x y:V)(b:Bool):Prop:=(bN x=true/\bN y=true/\b=eqV x y)\/∃ a a' xs ys,x= .ref a/\y= .ref a'/\((SqT K H a xs/\SqT K H a' ys)\/(SqL K H a xs/\SqL K H a' ys))/\xs.all bN=true/\ys.all bN=true/\b=eqVs xs ys
def sh2(x y:D):Bool:=(bp x && bp y)||match x,y with| .tup a,.tup b=>a.all bp && b.all bp| .lst a,.lst b=>a.all bp && b.all bp|_,_=>false
def eq2(x y:D):Bool:=match x,y with| .tup a,.tup b=>eqFs a b| .lst a,.lst b=>eqFs a b|x,y=>eqF x y
def EqE.of{F:Hp}(fh:Same F H){x y:D}{u v:V}(rx:Rep K F x u)(ry:Rep K F y v)(h:sh2 x y=true):EqE K H u v (eq2 x y):=by
 unfold sh2 at h;rw[Bool.or_eq_true,Ew] at h;rcases h with⟨f1,f2⟩|h
 .refine .inl ⟨eo rx f1,eo ry f2,?_⟩;rw[eqV_of rx ry f1 f2];unfold eq2;split
  .cases f1
  .cases f1
  .rfl
 .split at h
  .rw[Ew] at h;obtain⟨a,us,rfl,hq,rr⟩:=rep_tup_mp rx;obtain⟨b,vs,rfl,p_,td⟩:=rep_tup_mp ry;exact .inr ⟨a,b,us,vs,rfl,rfl,.inl ⟨fh.tup hq,fh.tup p_⟩,cP rr h.1,cP td h.2,(js rr td h.1 h.2).symm⟩
  .rw[Ew] at h;obtain⟨a,us,rfl,hq,rr⟩:=rep_lst.mp rx;obtain⟨b,vs,rfl,p_,td⟩:=rep_lst.mp ry;exact .inr ⟨a,b,us,vs,rfl,rfl,.inr ⟨SqL.of (fh _ _ hq),SqL.of (fh _ _ p_)⟩,cP rr h.1,cP td h.2,(js rr td h.1 h.2).symm⟩
  .cases h
def sh2s:List D->List D->Bool
 |[],[]=>true
 |x::xs,y::ys=>sh2 x y && sh2s xs ys
 |_,_=>false
def eq2s(xs ys:List D):List Bool:=List.zipWith eq2 xs ys
def EqE.all{F:Hp}(fh:Same F H):∀ {xs ys:List D} {us vs:List V},Reps K F xs us->Reps K F ys vs->sh2s xs ys=true->us.length=vs.length/\(eq2s xs ys).length=us.length/\∀ j,j<us.length->EqE K H (us.getD j .non) (vs.getD j .non) ((eq2s xs ys).getD j true):=by
 intro xs;induction xs with
 |nil=>
  intro ys us vs r1 r2 h;cases ys with
  |nil=>
   rw[reps_nil.mp r1,reps_nil.mp r2];exact⟨rfl,rfl,λj h=>absurd h (Gf j)⟩
  |cons y ys=>exact absurd h Ej
 |cons x xs ih=>
  intro ys us vs r1 r2 h;cases ys with
  |nil=>exact absurd h Ej
  |cons y ys=>
   obtain⟨u,ur,rfl,a1,a2⟩:=reps_cons.mp r1;obtain⟨v,vr,rfl,b1,b2⟩:=reps_cons.mp r2;rw[sh2s,Ew] at h;obtain⟨q1,q2,q3⟩:=ih a2 b2 h.2;refine⟨by rw[Eb,Eb,q1],by show(eq2s xs ys).length+1=_;rw[q2,Eb],λj hj=>?_⟩;cases j with
   |zero=>exact EqE.of fh a1 b1 h.1
   |succ j=>exact q3 j (Nat.lt_of_succ_lt_succ hj)
end
mutual
def noL:D->Bool
 | .non=>true| .bl _=>true| .int _=>true| .str _=>true| .ptr _=>true| .dti _=>true
 | .tup ds=>noLs ds
 | .obj _ fs=>noLF fs
 |_=>false
def noLs:List D->Bool
 |[]=>true
 |d::ds=>noL d && noLs ds
def noLF:List (y' × D)->Bool
 |[]=>true
 |(_,d)::ds=>noL d && noLF ds
end
def atom:D->Bool
 | .non=>true| .bl _=>true| .int _=>true| .str _=>true|_=>false
def nlF(F:Hp):Hp:=λb=>match F b with|some (.lst _)=>o_|o=>o
variable{F:Hp}
def jQ{b:KF}{o:HO}(e:F b=be o)(h:∀ vs,o≠.lst vs):nlF F b=be o:=by
 unfold nlF;rw[e];cases o with
 |lst vs=>exact absurd rfl (h vs)
 |_=>rfl
def nlF_le:Same (nlF F) F:=λb o e=>by
 unfold nlF at e;split at e
 .cases e
 .exact e
def nlF_no{b:KF}{vs:List V}:nlF F b≠be (.lst vs):=λe=>by
 unfold nlF at e;split at e
 .cases e
 .rename_i h;exact h vs e
mutual
def Rep.nl{K:D6}{F:Hp}:∀ (d:D) (v:V),noL d=true->Rep K F d v->Rep K (nlF F) d v
 | .non,v,_,h=>by unfold Rep at h ⊢;exact h
 | .bl b,v,_,h=>by unfold Rep at h ⊢;exact h
 | .int b,v,_,h=>by unfold Rep at h ⊢;exact h
 | .str b,v,_,h=>by unfold Rep at h ⊢;exact h
 | .ptr b,v,_,h=>by unfold Rep at h ⊢;exact h
 | .dti a8,v,_,h=>by
  unfold Rep at h ⊢;obtain⟨a,e,q⟩:=h;exact⟨a,e,jQ q λ_ z=>nomatch z⟩
 | .tup ds,v,n,h=>by
  unfold Rep at h ⊢;obtain⟨a,vs,e,q,r⟩:=h;exact⟨a,vs,e,jQ q (λ_ z=>nomatch z),Reps.nl ds vs (by unfold noL at n;exact n) r⟩
 | .obj x fs,v,n,h=>by
  unfold Rep at h ⊢;obtain⟨a,C,dx,vs,e,n1,q,r⟩:=h;exact⟨a,C,dx,vs,e,n1,jQ q (λ_ z=>nomatch z),RepF.nl fs vs (by unfold noL at n;exact n) r⟩
 | .lst _,_,n,_=>by unfold noL at n;cases n
 | .rol _,_,n,_=>by unfold noL at n;cases n
 | .exc _ _,_,n,_=>by unfold noL at n;cases n
 | .own _,_,n,_=>by unfold noL at n;cases n
def RepF.nl{K:D6}{F:Hp}:∀ (ds:List (y' × D)) (vs:List (y' × V)),noLF ds=true->RepF K F ds vs->RepF K (nlF F) ds vs
 |[],vs,_,h=>by unfold RepF at h ⊢;exact h
 |(f,d)::ds,vs,n,h=>by
  unfold noLF at n;rw[Ew] at n;unfold RepF at h ⊢;obtain⟨v,r,e,q1,q2⟩:=h;exact⟨v,r,e,Rep.nl d v n.1 q1,RepF.nl ds r n.2 q2⟩
def Reps.nl{K:D6}{F:Hp}:∀ (ds:List D) (vs:List V),noLs ds=true->Reps K F ds vs->Reps K (nlF F) ds vs
 |[],vs,_,h=>by unfold Reps at h ⊢;exact h
 |d::ds,vs,n,h=>by
  unfold noLs at n;rw[Ew] at n;unfold Reps at h ⊢;obtain⟨v,r,e,q1,q2⟩:=h;exact⟨v,r,e,Rep.nl d v n.1 q1,Reps.nl ds r n.2 q2⟩
end
def zz{K:D6}{G:Hp}{d:D}{v:V}(n:atom d=true)(h:Rep K F d v):Rep K G d v:=by
 cases d with
 |non=>exact rep_non.mpr (rep_non.mp h)
 |bl b=>exact rep_bl.mpr (rep_bl.mp h)
 |int i=>exact rep_int.mpr (rep_int.mp h)
 |str x=>exact rep_str.mpr (rep_str.mp h)
 |_=>cases n
def reps_atoms{K:D6}{G:Hp}{ds:List D}:∀ {vs:List V},ds.all atom=true->Reps K F ds vs->Reps K G ds vs:=by
 induction ds with
 |nil=>intro vs _ h;rw[reps_nil.mp h];exact reps_nil.mpr rfl
 |cons d ds ih=>
  intro vs n h;rw[Fh,Ew] at n;obtain⟨v,r,rfl,q1,q2⟩:=reps_cons.mp h;exact reps_cons.mpr ⟨v,r,rfl,zz n.1 q1,ih n.2 q2⟩
def zA{H F' H':Hp}{a:KF}{us:List V}(g:Grow (nlF F) H F' H')(e:F' a=be (.lst us)):H a=none:=by
 cases hH:H a with
 |none=>rfl
 |some o=>
  cases hF:nlF F a with
  |none=>
   have:=g.out a hF (by rw[hH];exact λz=>nomatch z);rw[this] at e;cases e
  |some o'=>
   have:=g.ff a o' hF;rw[e] at this;cases this;exact absurd hF nlF_no
def joF(F F':Hp)(a:KF):Hp:=λb=>match F b with|some o=>be o|none=>if b=a then o_ else F' b
def zB{H F' H':Hp}{a:KF}(fh:Same F H)(g:Grow (nlF F) H F' H'):Grow F H (joF F F' a) H' where
 ff:=λb o e=>by unfold joF;rw[e]
 fh:=λb o e=>by
  unfold joF at e;split at e
  .rename_i o' e';cases e;exact g.hh b o (fh b o e')
  .split at e
   .cases e
   .exact g.fh b o e
 hh:=g.hh
 out:=λb h1 h2=>by
  unfold joF;rw[h1];show(if b=a then o_ else F' b)=o_;split
  .rfl
  .refine g.out b ?_ h2;unfold nlF;rw[h1]
section
variable {X:Cx}[J:Jx]{a b c e o:PJ}{es:List PJ}{ta tb tc te to:TD}{t:TDA}{pos:P0}
def zC(i:Nat)(S:SpD)(t:TDA):TSD:=λE z=>t z λds=>noLs ds=true/\S ds λd=>match d with| .lst xs=>xs.all atom=true/\E.nx (z.set i (be (.own xs)))|_=>False
def zD(i:Nat){n m:Nat}{ps:List y'}{S:SpD}{x y:y'}{p py h_:P0}(C:CalD X.prog X.w X.K X.mg X.base n x ps S)(hr:Room m X.A)(hN:X.N.Nodup)(ha:WDA X (e::es) t)(hi:autoParam (X.N[i]?=be y) zA0)(hy:autoParam (Loc X.env.scope y) zA4)
  (hf:autoParam (zFN X y) zA2) (hs:autoParam (P4 (.Call (.Name x p) (e::es) [] pos) (be (.Name y py)) h_.line X.env=pure false) zA0) (hg:autoParam (Gl X x) zA0) (hn:autoParam (n<=m) zA1) (d7:autoParam (zND x) zA1)
  (he:autoParam (zSE X e es) zA0) (c5:autoParam (zPL X pos es) zA0):WDS X (.Assign [.Name y py] (.Call (.Name x p) (e::es) [] pos) h_) (zC i S t):=⟨(gf hN hi hy (pL C hr ha.out hg hn d7 he c5) hs hf).anti λE s H q=>by
 obtain⟨B,F0,F,z,k,rs,ED,h,ee⟩:=q;refine⟨B,F,z,k.kf,rs,_,h,λds vs F1 H1 g1 hx rx=>?_⟩;obtain⟨nl,hx⟩:=hx;refine⟨nlF F1,ds,nlF_le.trans g1.fh,by rw[EI];exact Reps.nl ds vs nl rx,_,hx,λd v F' H' g hd rd=>?_⟩;split at hd
 .rename_i xs;obtain⟨q,us,rfl,hq,rr⟩:=rep_lst.mp rd;have hp:H1 q=none:=zA g hq;have G:=zB (a:=q) g1.fh g;have k1:=(k.grow g1).grow G;have r1:=(rs.grow g1).grow G;have hB:B q=none:=(k.grow g1).bh.free hp;have hF:joF F1 F' q q=none:=by
   unfold joF;rw[g1.fh.free hp];exact if_pos rfl
  have hH:upd H' q (.lst us)=H':=by
   funext b;by_cases hb:b=q
   .subst hb;rw[ax,g.fh b _ hq]
   .rw[aq hb]
  have r2:=r1.setOwn (i:=i) (a:=q) (vs:=us) (ds:=xs) hB hF (reps_atoms hd.1 rr) λj dj hj e1 e2=>by
   obtain⟨a',Ob,q1,q2,_⟩:=(rs.grow g1).own j dj e1;rw[e2] at q1;cases q1;rw[hp] at q2;cases q2
  rw[hH] at r2;exact ee.nx _ _ _ _ k1 hd.2 r2
 .exact hd.elim⟩
def dLend(i:Nat)(te:TD):TD:=λz R=>match z[i]? with|some (be (.own ds))=>te (z.set i (be (.lst ds))) λd=>atom d=true/\R d|_=>False
def rn(i:Nat)(tt:TDT):TDT:=λz R=>match z[i]? with|some (be (.own ds))=>tt (z.set i (be (.lst ds))) R|_=>False
def zE{K:D6}{B F H:Hp}{z:SD}{s:L2.St}{i:Nat}{ds:List D}(k:Kept B J.F0 F H)(rs:RepS K B F H z s)(ez:z[i]?=be (be (.own ds))):∃ a vs,F a=o_/\H a=be (.lst vs)/\Kept B J.F0 (upd F a (.lst vs)) H/\RepS K B (upd F a (.lst vs)) H (z.set i (be (.lst ds))) s:=by
 obtain⟨a,vs,q1,q2,q3,q4,q5⟩:=rs.own i ds ez;have ff:Same F (upd F a (.lst vs)):=aQ q4 _;have fh:Same (upd F a (.lst vs)) H:=λb o e=>by
  by_cases hb:b=a
  .subst hb;rw[ax] at e;cases e;exact q2
  .rw[aq hb] at e;exact k.fh b o e
 refine⟨a,vs,q4,q2,⟨k.bh,fh,k.f0.trans ff,λb h1 h2=>?_,k.eb,k.jf,k.jo⟩,?_⟩
 .have ne:b≠a:=λz=>h2 (z ▸ q3);rw[aq ne];exact k.out b h1 h2
 .have get:∀ {j:Nat} {x:D},(z.set i (be (.lst ds)))[j]?=be (be x)->(j=i/\x= .lst ds)\/(j≠i/\z[j]?=be (be x)):=λ{j x} e=>by
   by_cases hj:i=j
   .subst hj;rw[EM (Em.mp ez).1] at e;cases e;exact .inl ⟨rfl,rfl⟩
   .rw[Et hj] at e;exact .inr ⟨λz=>hj z.symm,e⟩
  refine⟨by rw[rs.len,EZ],λj d e no=>?_,λj dj e=>?_,λj l dj dl b e1 e2 h1 h2=>?_⟩
  .rcases get e with⟨rfl,rfl⟩|⟨_,e⟩
   .exact⟨_,q1,rep_lst.mpr ⟨a,vs,rfl,ax,q5.mono ff⟩⟩
   .obtain⟨v,h1,h2⟩:=rs.val j d e no;exact⟨v,h1,h2.mono ff⟩
  .rcases get e with⟨_,z⟩|⟨hj,e⟩
   .cases z
   .obtain⟨b,us,p1,p2,p3,p4,p5⟩:=rs.own j dj e;have ne:b≠a:=λz=>hj (rs.apart j i dj ds a e ez (z ▸ p1) q1);exact⟨b,us,p1,p2,p3,by rw[aq ne];exact p4,p5.mono ff⟩
  .rcases get e1 with⟨_,z⟩|⟨_,e1⟩
   .cases z
   .rcases get e2 with⟨_,z⟩|⟨_,e2⟩
    .cases z
    .exact rs.apart j l dj dl b e1 e2 h1 h2
def lend_back{F H F' H':Hp}{a:KF}{vs:List V}(fa:F a=o_)(g:Grow (upd F a (.lst vs)) H F' H'):Grow F H (cutF F' a) H' where
 ff:=λb o e=>by
  have ne:b≠a:=λz=>by rw[z,fa] at e;cases e
  rw[fM ne];exact g.ff b o (by rw[aq ne];exact e)
 fh:=λb o e=>by
  by_cases hb:b=a
  .subst hb;unfold cutF at e;rw[if_pos rfl] at e;cases e
  .rw[fM hb] at e;exact g.fh b o e
 hh:=g.hh
 out:=λb h1 h2=>by
  by_cases hb:b=a
  .subst hb;exact if_pos rfl
  .rw[fM hb];exact g.out b (by rw[aq hb];exact h1) h2
def zF(i:Nat){tt:TDT}(h:WDT X e tt):WDT X e (rn i tt):=⟨PT.anti h.out λs H Q q=>by
 obtain⟨B,F,z,kf,rs,R,h1,h2⟩:=q;unfold rn at h1;split at h1
 .rename_i ds ez;obtain⟨a,vs,fa,ha,k1,r1⟩:=zE kf rs ez;exact⟨B,_,_,k1,r1,_,h1,λk F' H' g hd=>h2 k _ H' (lend_back fa g) hd⟩
 .exact h1.elim⟩
def rq(l:List Int)(j:Nat):preSum (λi=>l.getD i 0) j=(l.take j).sum:=by
 induction j with
 |zero=>rfl
 |succ j ih=>
  rw[preSum,ih,Gd,List.sum_append];congr 1;cases h:l[j]? with
  |none=>simp[EJ,h]
  |some x=>simp[EJ,h]
def zG{l:List Int}(h:∀ a∈l,0<=a/\a<=1000000000000):0<=l.sum/\l.sum<=1000000000000*l.length:=by
 induction l with
 |nil=>simp
 |cons a l ih=>
  have h1:=h a Ed;have h2:=ih λx q=>h x (Ec _ q);rw[Gg,Eb];lia
def zH(hc:X.calm=true):bA X (.builtin "sum") (λxs H Q=>∃ (p:KF) (ns:List Int),xs=[.ref p]/\SqL X.K H p (ns.map V.int)/\ns.length<=1000/\(∀ a∈ns,0<=a/\a<=1000000000000)/\Q (.int ns.sum) H):=by
 intro pins s σ H xs us Q I r h;obtain⟨p,ns,rfl,hq,j8,hb,q⟩:=h;obtain⟨u,rfl,rx⟩:=bM r;cases rx;obtain⟨its,r',pl,hz⟩:=I.list hq;have hi:=intsAre_of r';have hl:=pl.isList;obtain⟨xs,e⟩:=hi.allInts.items;have hns:ns=xs.toList.map (·.1):=by rw[<- hi.numsOf,<- nums_intItems,<- e]
 have g6:xs.size=ns.length:=by rw[hns,Ef,Fx]
 have nf:numAt xs=λi=>ns.getD i 0:=by funext i;rw[numAt_eq,hns]
 rw[e] at hl;refine sum_intList (I.ok.hd hc) hl (λj hj=>?_) λh' tk t' hk=>?_
 .rw[nf,rq];have b1:=hb (ns.getD j 0) (by rw[EJ,Es (by lia)];exact EK _);have b2:=zG (l:=ns.take (j+1)) λa q=>hb a (GV q);have b3:(ns.take (j+1)).length<=ns.length:=by rw[Fz];lia
  unfold InLong;constructor<;>constructor<;>lia
 .rw[nf,rq,g6,FF];exact⟨.int _,H,I.kept hk,⟨t',rfl⟩,q⟩
def rdSum:RDn:=λds R=>match ds with|[.lst xs]=>∃ ns:List Int,xs=ns.map D.int/\ns.length<=1000/\(∀ a∈ns,0<=a/\a<=1000000000000)/\R (.int ns.sum)|_=>False
def zI{K:D6}:bW K (λxs H Q=>∃ (p:KF) (ns:List Int),xs=[.ref p]/\SqL K H p (ns.map V.int)/\ns.length<=1000/\(∀ a∈ns,0<=a/\a<=1000000000000)/\Q (.int ns.sum) H) rdSum:=by
 intro ds vs F H R Q fh h rx q;unfold rdSum at h;split at h
 .obtain⟨ns,rfl,hl,hb,h⟩:=h;obtain⟨v,r,rfl,h1,h2⟩:=reps_cons.mp rx;rw[reps_nil.mp h2];obtain⟨a,us,rfl,hq,rs⟩:=rep_lst.mp h1;rw[Reps.ints.mp rs] at hq;exact⟨a,ns,rfl,fh.seq (SqL.of hq),hl,hb,q _ _ F H (Grow.refl fh) h (rep_int.mpr rfl)⟩
 .exact h.elim
def zJ{p:P0}(hc:X.calm=true)(hm:X.mg "sum"=o_)(ha:WDA X [e] t)(hg:autoParam (Gl X "sum") zA0)(he:autoParam (zSE X e []) zA0)(c5:autoParam (zPL X pos []) zA0):WDE X (.Call (.Name "sum" p) [e] [] pos) (dCB rdSum t):=⟨fB (zH hc) zI hm PyProof.Rows.boot_sum ha.out hg (by decide) (by decide) he c5⟩
end
end My
end
section
namespace My
open PySem PySem.Spec PyProof.Rows L2
variable{w:Int}
def b64B(h:0<w)(h':w<=33554432): -(2 ^ 64)<w/\w<2 ^ 64:=by lia
variable{s:Int}
def s64B(h:0<=s)(h':s<w)(Pk:w<=33554432): -(2 ^ 64)<s/\s<2 ^ 64:=by lia
def d30B(h:0<w)(h':w<=33554432):0<w/\w<1073741824:=by lia
variable{x y:Int}
def ab24(h:x.natAbs<=12)(h':y.natAbs<=12):(x+y).natAbs<=24:=by lia
def sq0(a:Int):0<=a*a:=(GW 0 a).elim (λq=>Gh q q) (λq=>Int.mul_nonneg_of_nonpos_of_nonpos q q)
def u64(h:w=1\/w=-1\/w=0): -(2 ^ 64)<w/\w<2 ^ 64:=by lia
def n64{k:Nat}(h:w.natAbs<=k)(hk:autoParam (k<=1073741823) zA1): -(2 ^ 64)<w/\w<2 ^ 64:=by lia
variable{a b:Int}
def i64(h:a<=w)(h':w<=b)(ha:autoParam ( -1000000000001<=a) zA1)(hb:autoParam (b<=1000000000001) zA1): -(2 ^ 64)<w/\w<2 ^ 64:=by lia
def fdm(a b:Int)(hb:b≠0):(a - a.fdiv b*b).natAbs<b.natAbs/\(a.fdiv b).natAbs<=a.natAbs+1:=by
 have e:=Int.fmod_def a b;have e2:a - a.fdiv b*b=a.fmod b:=by rw[e,Ey]
 rw[e2];have r:(a.fmod b).natAbs<b.natAbs:=by
  rcases(by lia:0<b\/b<0) with h|h
  .have h1:=GX a h;have h2:=GY a h;lia
  .have h1:=GX (-a) (show 0< -b by lia);have h2:=GY (-a) (show 0< -b by lia);rw[Int.neg_fmod_neg] at h1 h2;lia
 refine⟨r,?_⟩;have e3:(b*a.fdiv b).natAbs=b.natAbs*(a.fdiv b).natAbs:=Fd _ _;have e4:=Int.mul_fdiv_self a b;rcases Fl (a.natAbs+1) (a.fdiv b).natAbs with c|c
 .have h1:b.natAbs*(a.natAbs+2)<=b.natAbs*(a.fdiv b).natAbs:=Nat.mul_le_mul_left _ c;have h2:b.natAbs*(a.natAbs+2)=b.natAbs*a.natAbs+2*b.natAbs:=by rw[Nat.mul_add,Nat.mul_comm _ 2]
  have h3:1*a.natAbs<=b.natAbs*a.natAbs:=Nat.mul_le_mul_right _ (by lia);lia
 .exact c
def Uni(a b c d p0 p1 q0 q1:Int):Prop:=∃ m n k l:Int,(m*l - n*k=1\/m*l - n*k=-1)/\p0=m*a+n*c/\p1=m*b+n*d/\q0=k*a+l*c/\q1=k*b+l*d
def Uni.refl(a b c d:Int):Uni a b c d a b c d:=⟨1,0,0,1,.inl (by decide),by lia,by lia,by lia,by lia⟩
variable{c d p0 p1 q0 q1:Int}
def Uni.step(t:Int)(h:Uni a b c d p0 p1 q0 q1):Uni a b c d q0 q1 (p0 - t*q0) (p1 - t*q1):=by
 obtain⟨m,n,k,l,hd,rfl,rfl,rfl,rfl⟩:=h;refine⟨k,l,m - t*k,n - t*l,?_,rfl,rfl,by grind,by grind⟩;rcases hd with h|h
 .right;grind
 .left;grind
def Uni.neg(h:Uni a b c d p0 p1 q0 q1):Uni a b c d (-p0) (-p1) q0 q1:=by
 obtain⟨m,n,k,l,hd,rfl,rfl,rfl,rfl⟩:=h;refine⟨-m,-n,k,l,?_,by grind,by grind,rfl,rfl⟩;rcases hd with h|h
 .right;grind
 .left;grind
def Uni.inv(h:Uni a b c d p0 p1 q0 q1):Uni p0 p1 q0 q1 a b c d:=by
 obtain⟨m,n,k,l,hd,rfl,rfl,rfl,rfl⟩:=h;rcases hd with h|h
 .exact⟨l,-n,-k,m,.inl (by grind),by grind,by grind,by grind,by grind⟩
 .exact⟨-l,n,k,-m,.inr (by grind),by grind,by grind,by grind,by grind⟩
def Uni.det(h:Uni a b c d p0 p1 q0 q1):p0*q1 - p1*q0=a*d - b*c\/p0*q1 - p1*q0=-(a*d - b*c):=by
 obtain⟨m,n,k,l,hd,rfl,rfl,rfl,rfl⟩:=h;rcases hd with h|h
 .left;grind
 .right;grind
def Lev(a b c d p0 p1 q0:Int):Prop:=0<=p1/\Uni a b c d p0 p1 q0 0
def FamOf(a b c d w h s:Int):Prop:=0<w/\0<h/\0<=s/\s<w/\Uni a b c d w 0 s h
def zK(x:Int):(if x<0 then -x else x)=x\/(if x<0 then -x else x)=-x:=by
 split<;>simp
def zL(h:x≠0):0<(if x<0 then -x else x):=by split<;>lia
def fN(hn:¬ a*d=b*c)(h:Lev a b c d p0 p1 q0):FamOf a b c d (if q0<0 then -q0 else q0) p1 (p0 % (if q0<0 then -q0 else q0)):=by
 obtain⟨hp,hu⟩:=h;have dt:=hu.det;have Op:q0≠0:=by
  rintro rfl;simp at dt;lia
 have Pl:p1≠0:=by
  rintro rfl;simp at dt;lia
 have hw:=zL Op;have hs:=zK q0;generalize (if q0<0 then -q0 else q0)=w at hw hs;refine⟨hw,by lia,Fp _ (by lia),Fq _ hw,?_⟩;have em:=ES p0 w;generalize p0 % w=s at em;generalize p0 / w=t at em;obtain⟨m,n,k,l,hd,e1,e2,e3,e4⟩:=hu;rcases hs with e|e
 .refine⟨k,l,m - t*k,n - t*l,?_,by grind,by grind,by grind,by grind⟩;rcases hd with h|h
  .right;grind
  .left;grind
 .refine⟨-k,-l,m+t*k,n+t*l,?_,by grind,by grind,by grind,by grind⟩;rcases hd with h|h
  .left;grind
  .right;grind
variable{h i j:Int}
def in_fam(hh:0<h)(ex:x=i*w+j*s)(ey:y=j*h):y % h=0/\(x - y / h*s) % w=0:=by
 subst ex ey;rw[EG _ (by lia)];refine⟨Gi _ _,?_⟩;have e:i*w+j*s - j*s=i*w:=by lia
 rw[e];exact Gi _ _
def FamOf.first(f:FamOf a b c d w h s):b % h=0/\(a - b / h*s) % w=0:=by
 obtain⟨hw,hh,_,_,hu⟩:=f;obtain⟨m,n,k,l,_,e1,e2,e3,e4⟩:=hu.inv;exact in_fam (i:=m) (j:=n) hh e1 (by lia)
def FamOf.second(f:FamOf a b c d w h s):d % h=0/\(c - d / h*s) % w=0:=by
 obtain⟨hw,hh,_,_,hu⟩:=f;obtain⟨m,n,k,l,_,e1,e2,e3,e4⟩:=hu.inv;exact in_fam (i:=k) (j:=l) hh e3 (by lia)
variable{u v:Int}
def rz(eu:u=i*a+j*c)(ev:v=i*b+j*d):(u*d - v*c).fmod (a*d - b*c)=0/\(a*v - b*u).fmod (a*d - b*c)=0:=by
 subst eu ev;refine⟨Gj ⟨i,by grind⟩,Gj ⟨j,by grind⟩⟩
def FamOf.cells(f:FamOf a b c d w h s):w*h=a*d - b*c\/w*h=-(a*d - b*c):=by
 have:=f.2.2.2.2.det;simpa using this
def bz{A B:Nat}(h1:a.natAbs<=A)(h2:d.natAbs<=B):(a*d).natAbs<=A*B:=by
 rw[Fd];exact FS h1 h2
variable{g:Int}{N:Nat}
def zM{gap:Int}(hg:0<g)(c0:0<=c)(cg:c<=g)(h:gap.natAbs<=N):(c*gap / g).natAbs<=N:=by
 have h1:(c*gap).natAbs<=g.natAbs*N:=by rw[Fd];exact FS (by omega) h
 have e:((g.natAbs*N:Nat):Int)=N*g:=by rw[Int.natCast_mul,Int.natAbs_of_nonneg (by omega),Ey]
 have l1:=Int.le_ediv_of_mul_le (a:=-(N:Int)) (b:=c*gap) hg (by rw[E1];omega);have l2:=Int.ediv_le_of_le_mul (a:=c*gap) (b:=(N:Int)) hg (by omega);omega
def cF(hw:0<w)(hh:0<h):w<=w*h/\h<=w*h:=by
 have h1:=Gk (show 1<=h by lia) (show 0<=w by lia);have h2:=Ex (show 1<=w by lia) (show 0<=h by lia);lia
def FamOf.bd(f:FamOf a b c d w h s)(hN:(a*d - b*c).natAbs<=N):w<=N/\h<=N/\s<N:=by
 obtain⟨h1,h2⟩:=cF f.1 f.2.1;have h3:=f.cells;have h4:=f.2.2.2.1;lia
def Meas(x y g u:Int):Prop:=0<=g/\(∃ i,x=i*g)/\(∃ j,y=j*g)/\∃ n,g=u*x+n*y
def rA{q:Int}(h:0<=g/\∃ m n k l:Int,(m*l - n*k=1\/m*l - n*k=-1)/\u=m*1+n*0/\g=m*x+n*y/\q=k*1+l*0/\0=k*x+l*y):Meas x y g u:=by
 obtain⟨h0,m,n,k,l,hd,e1,e2,e3,e4⟩:=h;refine⟨h0,?_,?_,n,by grind⟩
 .rcases hd with h|h
  .exact⟨l,by grind⟩
  .exact⟨-l,by grind⟩
 .rcases hd with h|h
  .exact⟨-k,by grind⟩
  .exact⟨k,by grind⟩
def Meas.pos(h:Meas x y g u)(hx:0<x):0<g:=by
 obtain⟨h0,⟨i,hi⟩,_⟩:=h;rcases(by lia:g=0\/0<g) with e|e
 .subst e;simp at hi;lia
 .exact e
def Meas.le(h:Meas x y g u)(hx:0<x):g<=x:=by
 have hg:=h.pos hx;obtain⟨h0,⟨i,hi⟩,_⟩:=h;have Pm:0<i:=by
  rcases(by lia:i<=0\/0<i) with e|e
  .have:=E2 e h0;lia
  .exact e
 have:=Ex (show 1<=i by lia) h0;lia
structure MetR(w1 h1 s1 w2 h2 s2 w h s A:Int):Prop where
 w0:0<w
 h0:0<h
 s0:0<=s
 sw:s<w
 in1:∃ i,w=i*w1
 in2:∃ i,w=i*w2
 up1:∃ i j,s=i*w1+j*s1/\h=j*h1
 up2:∃ i j,s=i*w2+j*s2/\h=j*h2
 A0:0<A
 cells:w*h*A=w1*h1*w2*h2
 d11:A∣w1*h1
 d12:A∣w1*h2
 d21:A∣w2*h1
 d22:A∣w2*h2
 ds:A∣s1*h2 - h1*s2
 all:∀ x y:Int,(∃ i j,x=i*w1+j*s1/\y=j*h1)->(∃ i j,x=i*w2+j*s2/\y=j*h2)->∃ i j,x=i*w+j*s/\y=j*h
 comb:∀ G:Int,G∣w1*h1->G∣w1*h2->G∣w2*h1->G∣w2*h2->G∣s1*h2 - h1*s2->G∣A
def dG(h:0<x*y)(hy:0<y):0<x:=by
 rcases(by lia:x<=0\/0<x) with e|e
 .have:=E2 e (show 0<=y by lia);lia
 .exact e
def jR(ha:0<a)(h:a*b=a*c):b=c:=Gm (by lia) h
def r1(k j c:Int):k*(j*c)=j*(c*k):=by grind
def r2(j u c n d:Int):j*(u*c+n*d)=u*(j*c)+n*d*j:=by grind
def r3(u j d n j1:Int):u*(j*d)+n*d*j1=d*(u*j+n*j1):=by grind
def r4(j u c n d:Int):j*(u*c+n*d)=u*c*j+n*(j*d):=by grind
def r5(u c j n j1:Int):u*c*j+n*(j1*c)=c*(u*j+n*j1):=by grind
def r6(g e i1 a i2 b d T s1 c s2:Int)(q:i1*(a*(e*g))+d*T*s1=i2*(b*(e*g))+c*T*s2):g*(e*(i1*a - i2*b))=T*(c*s2 - d*s1):=by grind
def r7(g T f:Int):g*(T*f)=T*(f*g):=by grind
def r8(T v e q f:Int):T*(v*e+q*f)=v*T*e+q*(T*f):=by grind
def r9(v T e q m:Int):v*T*e+q*(e*m)=e*(v*T+q*m):=by grind
def r10(e r f:Int):e*r*f=e*(r*f):=by grind
def r11(i u a n b:Int):i*(u*a+n*b)=u*(i*a)+n*b*i:=by grind
def r12(u r f i2 b n i1:Int):u*(r*f+i2*b)+n*b*i1=u*(r*f)+b*(u*i2+n*i1):=by grind
def r13(u r f b M a e g d s1 t:Int):(u*(r*f)+b*M)*(a*(e*g))+d*(e*r)*s1=(M+r*t)*(a*b*(e*g))+r*(e*(d*s1)+f*u*(a*(e*g)) - a*b*(e*g)*t):=by grind
def r14(d e r c k:Int):d*(e*r)*(c*k)=r*(c*d*k*e):=by grind
variable{e f gg u' s1 s2:Int}
def zN{k n n' q t i1 j1 i2 j2:Int}(hk:0<k)(G':0<gg)(he:0<e)
  (s9:u*a+n*b=1) (n8:u'*c+n'*d=1) (gap:c*s2 - d*s1=f*gg) (s_:v*e+q*f=1)
  (hs:s=e*(d*s1)+f*u*(a*(e*gg)) - a*b*(e*gg)*t) (x1:x=i1*(a*(e*gg))+j1*s1) (y1:y=j1*(c*k)) (x2:x=i2*(b*(e*gg))+j2*s2) (y2:y=j2*(d*k)):
  ∃ i j,x=i*(a*b*(e*gg))+j*s/\y=j*(c*d*k*e):=by
 have h1:j1*c=j2*d:=jR hk (by rw[r1 k j1 c,r1 k j2 d,<- y1,<- y2]);have Kf:j1=d*(u'*j2+n'*j1):=by
  have p:=r2 j1 u' c n' d;rw[n8,h1,r3] at p;lia
 have M5:j2=c*(u'*j2+n'*j1):=by
  have p:=r4 j2 u' c n' d;rw[n8,<- h1,r5] at p;lia
 generalize u'*j2+n'*j1=T at Kf M5;have q1:i1*(a*(e*gg))+d*T*s1=i2*(b*(e*gg))+c*T*s2:=by rw[<- Kf,<- M5,<- x1,<- x2]
 have h2:e*(i1*a - i2*b)=T*f:=jR G' (by rw[r6 gg e i1 a i2 b d T s1 c s2 q1,r7,gap]);have eT:T=e*(v*T+q*(i1*a - i2*b)):=by
  have p:=r8 T v e q f;rw[s_,<- h2,r9] at p;lia
 generalize hr:v*T+q*(i1*a - i2*b)=r at eT;have h3:i1*a - i2*b=r*f:=jR he (by rw[h2,eT,r10]);have h4:i1=u*(r*f)+b*(u*i2+n*i1):=by
  have p:=r11 i1 u a n b;have q3:i1*a=r*f+i2*b:=by lia
  rw[s9,q3,r12] at p;lia
 generalize u*i2+n*i1=M at h4;refine⟨M+r*t,r,?_,?_⟩
 .rw[hs,x1,Kf,eT,<- r13,<- h4]
 .rw[y1,Kf,eT,r14]
def zO{k n n' q t:Int}(ha:0<a)(hb:0<b)(hc:0<c)(hd:0<d)(he:0<e)(hk:0<k)(G':0<gg)
  (s9:u*a+n*b=1) (n8:u'*c+n'*d=1) (gap:c*s2 - d*s1=f*gg) (s_:v*e+q*f=1)
  (hs:s=e*(d*s1)+f*u*(a*(e*gg)) - a*b*(e*gg)*t) (m1:0<=s) (m2:s<a*b*(e*gg)):
  MetR (a*(e*gg)) (c*k) s1 (b*(e*gg)) (d*k) s2 (a*b*(e*gg)) (c*d*k*e) s (k*gg):=by
 have hg:0<e*gg:=Ep he G';have hW:0<a*b*(e*gg):=Ep (Ep ha hb) hg;have Ls:d*s1=c*s2 - f*gg:=by lia
 have ua:u*a=1 - n*b:=by lia
 refine⟨hW,Ep (Ep (Ep hc hd) hk) he,m1,m2,⟨b,?_⟩,⟨a,?_⟩,⟨f*u - t*b,d*e,?_,?_⟩,⟨-(f*n) - t*a,c*e,?_,?_⟩,Ep hk G',?_,⟨a*e*c,?_⟩,⟨a*e*d,?_⟩,⟨b*e*c,?_⟩,⟨b*e*d,?_⟩,⟨-f,?_⟩,?_,?_⟩
 .grind
 .grind
 .grind
 .grind
 .rw[hs,Ls];have x2:f*u*(a*(e*gg))=f*(u*a)*(e*gg):=by grind
  rw[x2,ua];grind
 .grind
 .grind
 .grind
 .grind
 .grind
 .grind
 .have:s1*(d*k) - c*k*s2=-(k*(c*s2 - d*s1)):=by grind
  rw[this,gap];grind
 .rintro x y ⟨i1,j1,x1,z1⟩ ⟨i2,j2,x2,z2⟩;exact zN hk G' he s9 n8 gap s_ hs x1 z1 x2 z2
 .rintro G ⟨y1,z1⟩ ⟨y2,z2⟩ ⟨y3,z3⟩ ⟨y4,z4⟩ ⟨y5,z5⟩;refine⟨v*(u'*u*y1+n'*u*y2+u'*n*y3+n'*n*y4) - q*y5,?_⟩;have k1:k*(e*gg)=G*(u'*u*y1+n'*u*y2+u'*n*y3+n'*n*y4):=by
   have p1:k*(e*gg)=(u'*c+n'*d)*(u*a+n*b)*(k*(e*gg)):=by rw[s9,n8];grind
   have p2:(u'*c+n'*d)*(u*a+n*b)*(k*(e*gg))=u'*u*(a*(e*gg)*(c*k))+n'*u*(a*(e*gg)*(d*k))+u'*n*(b*(e*gg)*(c*k))+n'*n*(b*(e*gg)*(d*k)):=by grind
   rw[p1,p2,z1,z2,z3,z4];grind
  have k2:k*(f*gg)=-(G*y5):=by
   rw[<- z5,<- gap];grind
  have k3:k*gg=(v*e+q*f)*(k*gg):=by rw[s_];grind
  have k4:(v*e+q*f)*(k*gg)=v*(k*(e*gg))+q*(k*(f*gg)):=by grind
  rw[k3,k4,k1,k2];grind
variable{w1 h1 w2 h2:Int}
def jS{k t8:Int}(n9:0<w1)(v8:0<w2)(M6:0<h1)(x_:0<h2)
  (M1:Meas w1 w2 g u) (M2:Meas h1 h2 k u')
  (M3:Meas g (h1*h2 / k / h2*s2 - h1*h2 / k / h1*s1) gg t8):
  MetR w1 h1 s1 w2 h2 s2 (w1*w2 / g) (h1*h2 / k*(g / gg)) ((g / gg*(h1*h2 / k / h1*s1)+g / gg*(h1*h2 / k / h2*s2 - h1*h2 / k / h1*s1) / g*u*w1) % (w1*w2 / g)) (k*gg):=by
 have hg:=M1.pos n9;have hk:=M2.pos M6;have G':=M3.pos hg;obtain⟨_,⟨a,ea⟩,⟨b,eb⟩,n,en⟩:=M1;obtain⟨_,⟨c,ec⟩,⟨d,ed⟩,n',Pn⟩:=M2;have ha:0<a:=dG (ea ▸ n9) hg;have hb:0<b:=dG (eb ▸ v8) hg;have hc:0<c:=dG (ec ▸ M6) hk;have hd:0<d:=dG (ed ▸ x_) hk;have s9:u*a+n*b=1:=by
  have p:(u*a+n*b)*g=1*g:=by
   have:(u*a+n*b)*g=u*(a*g)+n*(b*g):=by grind
   rw[this,<- ea,<- eb];lia
  exact Fs (by lia) p
 have n8:u'*c+n'*d=1:=by
  have p:(u'*c+n'*d)*k=1*k:=by
   have:(u'*c+n'*d)*k=u'*(c*k)+n'*(d*k):=by grind
   rw[this,<- ec,<- ed];lia
  exact Fs (by lia) p
 have eW:w1*w2 / g=a*b*g:=by
  have:w1*w2=(a*b*g)*g:=by rw[ea,eb];grind
  rw[this];exact EG _ (by lia)
 have eR:h1*h2 / k=c*d*k:=by
  have:h1*h2=(c*d*k)*k:=by rw[ec,ed];grind
  rw[this];exact EG _ (by lia)
 have Oq:h1*h2 / k / h1=d:=by
  rw[eR];have:c*d*k=d*h1:=by rw[ec];grind
  rw[this];exact EG _ (by lia)
 have Ot:h1*h2 / k / h2=c:=by
  rw[eR];have:c*d*k=c*h2:=by rw[ed];grind
  rw[this];exact EG _ (by lia)
 rw[Oq,Ot] at M3 ⊢;obtain⟨_,⟨e,ee⟩,⟨f,ef⟩,q,eq⟩:=M3;have he:0<e:=dG (ee ▸ hg) G';have s_:t8*e+q*f=1:=by
  have p:(t8*e+q*f)*gg=1*gg:=by
   have:(t8*e+q*f)*gg=t8*(e*gg)+q*(f*gg):=by grind
   rw[this,<- ee,<- ef];lia
  exact Fs (by lia) p
 have eC:g / gg=e:=by rw[ee];exact EG _ (by lia)
 have eS:e*(c*s2 - d*s1) / g=f:=by
  have:e*(c*s2 - d*s1)=f*g:=by rw[ef,ee];grind
  rw[this];exact EG _ (by lia)
 rw[eC,eS,eW,eR];have hW:0<a*b*g:=Ep (Ep ha hb) hg;have em:=ES (e*(d*s1)+f*u*w1) (a*b*g);have m1:=Fp (e*(d*s1)+f*u*w1) (show a*b*g≠0 by lia);have m2:=Fq (e*(d*s1)+f*u*w1) hW;generalize (e*(d*s1)+f*u*w1) % (a*b*g)=s at em m1 m2 ⊢;generalize (e*(d*s1)+f*u*w1) / (a*b*g)=t at em;subst ea eb ec ed;subst ee;exact zO ha hb hc hd he hk G' s9 n8 ef s_ em m1 m2
def jT(hx:0<x)(hy:0<y)(M:Meas x y g u):0<x*y / g/\x*y / g<=x*y/\x*y / g / x*1<=y/\0<=x*y / g / x/\x*y / g / y<=x/\0<=x*y / g / y:=by
 have hg:=M.pos hx;obtain⟨_,⟨a,ea⟩,⟨b,eb⟩,_⟩:=M;have ha:0<a:=dG (ea ▸ hx) hg;have hb:0<b:=dG (eb ▸ hy) hg;have e1:x*y / g=a*b*g:=by
  have:x*y=(a*b*g)*g:=by rw[ea,eb];grind
  rw[this];exact EG _ (by lia)
 have e2:a*b*g / x=b:=by
  have:a*b*g=b*x:=by rw[ea];grind
  rw[this];exact EG _ (by lia)
 have e3:a*b*g / y=a:=by
  have:a*b*g=a*y:=by rw[eb];grind
  rw[this];exact EG _ (by lia)
 have p1:0<a*b*g:=Ep (Ep ha hb) hg;have q1:=(cF (w:=b) (h:=g) hb hg).1;have q2:=(cF (w:=a) (h:=g) ha hg).1;have q3:x*y=a*b*g*g:=by rw[ea,eb];grind
 have q4:=(cF (w:=a*b*g) (h:=g) p1 hg).1;rw[e1,e2,e3];lia
def cell(ns:List Int)(k:Int):Int:=ns.getD k.toNat 0
variable{ns:List Int}
def rB{k:Int}(h0:0<=k)(h1:k<(ns.length:Int)):atI (ns.map D.int) k=be (.int (cell ns k)):=by
 obtain⟨j,rfl⟩:∃ j:Nat,k=(j:Int):=⟨k.toNat,by lia⟩;have hk:j<ns.length:=by lia
 refine ce ?_;rw[Eo,Es hk];simp[cell,EJ,Es hk]
def zP{k:Int}(h1:(ns.length:Int)<=k):cell ns k=0:=by
 have hk:ns.length<=k.toNat:=by lia
 simp[cell,EJ,E3 hk]
def D5(k:Int):∃ m,atI [D.int 12,D.int 720] (k % 2)=be (.int m)/\(m=12\/m=720):=by
 rcases(by lia:k % 2=0\/k % 2=1) with e|e
 .rw[e];exact⟨12,rfl,.inl rfl⟩
 .rw[e];exact⟨720,rfl,.inr rfl⟩
def cm(h:0<b):0<=a % b:=Fp a (by lia)
def cn(h:0<b):a % b<b:=Fq a h
def zQ:SpD:=λds R=>∃ (ns:List Int) (k:Int),ds=[.rol (ns.map D.int),.int k]/\0<=k/\R (.int (cell ns k))
def zR:SpD:=λds R=>∃ i:Int,ds=[.int i]/\R (.bl true)
def zS:SpD:=λds R=>∃ w h s x y:Int,ds=[.tup [.int w,.int h,.int s],.int x,.int y]/\0<w/\0<h/\h<1073741824/\0<=s/\s<1073741824/\
 R (.bl (decide (y % h=0/\(x - y / h*s) % w=0)))
def zT:SpD:=λds R=>∃ a b c d u v:Int,ds=[.tup [.int a,.int b],.tup [.int c,.int d],.int u,.int v]/\a.natAbs<1073741824/\b.natAbs<1073741824/\c.natAbs<1073741824/\d.natAbs<1073741824/\
 ¬ a*d=b*c/\R (.bl (decide ((u*d - v*c).fmod (a*d - b*c)=0/\(a*v - b*u).fmod (a*d - b*c)=0)))
def zU:SpD:=λds R=>∃ x y:Int,ds=[.int x,.int y]/\∀ g:Int,0<=g->g∣x->g∣y->(∀ e,e∣x->e∣y->e∣g)->R (.int g)
def rC:e∣(if x<0 then -x else x)↔e∣x:=by
 split
 .exact Int.dvd_neg
 .exact Iff.rfl
def rD(hb:e∣b):e∣a % b↔e∣a:=by
 have e1:=ES a b;rw[e1];constructor
 .intro h;have:=Gn h (GZ (c:=a / b) hb);simpa using this
 .intro h;exact Int.dvd_sub h (GZ hb)
def zV:SpD:=λds R=>∃ w h s x y:Int,ds=[.tup [.int w,.int h,.int s],.int x,.int y]/\0<w/\0<h/\h<1073741824/\0<=s/\s<1073741824/\
 R (.tup [.int ((x - y / h*s) % w),.int (y % h)])
def zW:SpD:=λds R=>∃ a b c d:Int,ds=[.tup [.int a,.int b],.tup [.int c,.int d]]/\b.natAbs<4611686018427387904/\d.natAbs<4611686018427387904/\
 ∀ p0 p1 q0,Lev a b c d p0 p1 q0->R (.tup [.tup [.int p0,.int p1],.tup [.int q0,.int 0]])
def zX:SpD:=λds R=>∃ a b c d:Int,ds=[.tup [.int a,.int b],.tup [.int c,.int d]]/\a.natAbs<4611686018427387904/\b.natAbs<4611686018427387904/\c.natAbs<4611686018427387904/\d.natAbs<4611686018427387904/\
 (a*d=b*c->R .non)/\(¬ a*d=b*c->∀ w h s,FamOf a b c d w h s->R (.tup [.int w,.int h,.int s]))
def zY:SpD:=λds R=>∃ w h s:Int,ds=[.tup [.int w,.int h,.int s]]/\0<w/\R (.tup [.int w,.int h,.int (-s % w)])
def zZ:SpD:=λds R=>∃ w h s:Int,ds=[.tup [.int w,.int h,.int s]]/\0<w/\0<h/\w<4611686018427387904/\h<4611686018427387904/\0<=s/\s<4611686018427387904/\
 ∀ w' h' s',FamOf 0 w (-h) s w' h' s'->R (.tup [.int w',.int h',.int s'])
def Aa:SpD:=λds R=>∃ x y:Int,ds=[.int x,.int y]/\x.natAbs<4611686018427387904/\y.natAbs<4611686018427387904/\∀ g u,Meas x y g u->R (.tup [.int g,.int u])
def Ab:SpD:=λds R=>∃ w1 h1 s1 w2 h2 s2:Int,ds=[.tup [.int w1,.int h1,.int s1],.tup [.int w2,.int h2,.int s2]]/\0<w1/\w1<=33554432/\0<h1/\h1<=33554432/\0<=s1/\s1<w1/\0<w2/\w2<=33554432/\0<h2/\h2<=33554432/\0<=s2/\s2<w2/\
 ∀ w h s A,MetR w1 h1 s1 w2 h2 s2 w h s A->R (.tup [.int w,.int h,.int s])
def Drawn(xs:List Int):Prop:=∀ x∈xs,0<=x/\x<5040
variable{xs:List Int}
def Drawn.at(h:Drawn xs)(k:Int):0<=cell xs k/\cell xs k<5040:=by
 by_cases hk:k.toNat<xs.length
 .have:cell xs k=xs[k.toNat]:=by simp[cell,EJ,Es hk]
  rw[this];exact h _ (EK hk)
 .have:cell xs k=0:=by simp[cell,EJ,E3 (F7 hk)]
  lia
def cw{k:Int}(h0:0<=k)(h:k.toNat<xs.length):atI (xs.map D.int) k=be (.int (cell xs k)):=rB h0 (by lia)
def rE:xs.map D.int++[D.int v]=(xs++[v]).map D.int:=by simp
def rF(h:Drawn xs)(h1:0<=v)(h2:v<5040):Drawn (xs++[v]):=by
 intro x hx;rcases EC.mp hx with q|q
 .exact h x q
 .rw[D8.mp q];exact⟨h1,h2⟩
def Ac:SpD:=λds R=>∃ (ns:List Int) (k:Int) (n:Nat),ds=[.rol (ns.map D.int),.int k,.int n]/\0<=k/\n<=100/\∀ xs:List Int,xs.length=n->Drawn xs->R (.lst (xs.map D.int))
def Ad:SpD:=λds R=>∃ xs:List Int,ds=[.lst (xs.map D.int)]/\8<=xs.length/\Drawn xs/\
 ∀ a b c d:Int,(-12<=a/\a<=12)->(-12<=b/\b<=12)->(-12<=c/\c<=12)->(-12<=d/\d<=12)->¬ a*d=b*c->R (.lst [.tup [.int a,.int b],.tup [.int c,.int d]])
abbrev cs(x:y'):List Nat:=x.cps.toList
def bt(x:y'):(cs x).length=x.length:=by simp[Str.length]
def rG:cs ""=[]:=rfl
def bG(x y:y'):cs (x++y)=cs x++cs y:=by
 show((x++y:y')).cps.toList=_;rw[show(x++y:y').cps=x.cps++y.cps from rfl,Array.toList_append]
def aC(x y:y'):(x++y).length=x.length+y.length:=by rw[<- bt,bG,Eg,bt,bt]
def aG(c:Nat):Prop:=c=46\/(49<=c/\c<=54)
def jU:∀ (L:List y'),cR (L.map D.str)=be L
 |[]=>rfl
 |x::L=>by simp[cR,jU L]
def eM(x:y'):Prop:=0<x.length/\x.length<=7/\∀ c∈cs x,aG c
def Ae{x:y'}(h:eM x)(v:Int):∃ c,(x.length<=1000000/\atI (cs x) (v % (x.length:Int))=be c)/\aG c:=by
 have h1:=cm (a:=v) (show 0<(x.length:Int) by have:=h.1;lia);have h2:=cn (a:=v) (show 0<(x.length:Int) by have:=h.1;lia);obtain⟨j,ej⟩:∃ j:Nat,v % (x.length:Int)=(j:Int):=⟨(v % (x.length:Int)).toNat,by lia⟩;have hj:j<(cs x).length:=by rw[bt];lia
 refine⟨(cs x)[j],⟨by have:=h.2.1;lia,?_⟩,h.2.2 _ (EK hj)⟩;rw[ej];exact ce (Es hj)
def Af:eM "1.23456":=⟨by decide+kernel,by decide+kernel,by unfold aG;decide+kernel⟩
def Ag:eM "12":=⟨by decide+kernel,by decide+kernel,by unfold aG;decide+kernel⟩
def Ah:eM "1.":=⟨by decide+kernel,by decide+kernel,by unfold aG;decide+kernel⟩
def Ai:eM "...2":=⟨by decide+kernel,by decide+kernel,by unfold aG;decide+kernel⟩
def Aj(k:Int):∃ x,atI [D.str "1.23456",D.str "12",D.str "1.",D.str "...2"] (k % 4)=be (.str x)/\eM x:=by
 rcases(by lia:k % 4=0\/k % 4=1\/k % 4=2\/k % 4=3) with e|e|e|e<;>rw[e]
 .exact⟨_,rfl,Af⟩
 .exact⟨_,rfl,Ag⟩
 .exact⟨_,rfl,Ah⟩
 .exact⟨_,rfl,Ai⟩
def Ak(k:Int):∃ m,atI [D.int 1,D.int 70] (k % 2)=be (.int m)/\(m=1\/m=70):=by
 rcases(by lia:k % 2=0\/k % 2=1) with e|e<;>rw[e]
 .exact⟨1,rfl,.inl rfl⟩
 .exact⟨70,rfl,.inr rfl⟩
structure Rows(L:List Str):Prop where
 many:1<=L.length/\L.length<=8
 wide:∃ w,(1<=w/\w<=8)/\∀ l∈L,l.length=w/\∀ c∈cs l,aG c
variable{L:List y'}
def Rows.of{w t:Nat}(h1:1<=t)(h2:t<=8)(hl:L.length=t)(w1:1<=w)(w2:w<=8)(h:∀ l∈L,l.length=w/\∀ c∈cs l,aG c):Rows L:=⟨by lia,w,⟨w1,w2⟩,h⟩
def Al{x:y'}{c:Nat}{i:Nat}(h1:x.length=i)(h2:∀ c∈cs x,aG c)(hc:aG c):(x++⟨#[c]⟩:y').length=i+1/\∀ c'∈cs (x++⟨#[c]⟩),aG c':=by
 refine⟨by rw[aC,h1];rfl,λc' q=>?_⟩;rw[bG] at q;rcases EC.mp q with q|q
 .exact h2 _ q
 .have:c'=c:=by simpa[cs] using q
  rw[this];exact hc
def Am{x:y'}:L.map D.str++[D.str x]=(L++[x]).map D.str:=by simp
def cG(L:List y')(a b c d:Int):Str:=("["++Txt.join "/" L)++((((((((";":y')++(toString a:String))++",")++(toString b:String))++";")++(toString c:String))++",")++(toString d:String))++"]"
def bv(h: -12<=a/\a<=12):((toString a:String):y').length<=3:=by
 have key:∀ k:Fin 25,((toString (((k.val:Nat):Int) - 12):String):y').length<=3:=by decide+kernel
 have:=key ⟨(a+12).toNat,by lia⟩;have e:(((a+12).toNat:Nat):Int) - 12=a:=by lia
 rw[e] at this;exact this
def B12(a:Int):Prop:=-12<=a/\a<=12
def B12.lt(h:B12 a):a.natAbs<1073741824:=by unfold B12 at h;lia
def rH{w:Nat}(h:∀ l∈L,l.length=w):(L.map (·.length)).sum=L.length*w:=by
 induction L with
 |nil=>simp
 |cons x L ih=>
  rw[En,Gg,ih (λl hl=>h l (Ec _ hl)),h x Ed,Eb,Nat.succ_mul,Go]
def rJ(h:Rows L):(L.map (·.length)).sum+L.length*("/":y').length<=72:=by
 obtain⟨h1,w,hw,h2⟩:=h;rw[rH (λl hl=>(h2 l hl).1)];have e:("/":y').length=1:=rfl;rw[e];have:=FS h1.2 hw.2;lia
def An:SpD:=λds R=>∃ xs:List Int,ds=[.lst (xs.map D.int)]/\40<=xs.length/\Drawn xs/\∀ L:List y',Rows L->R (.lst (L.map D.str))
def Ao:SpD:=λds R=>∃ (L:List y') (a b c d:Int),ds=[.lst (L.map D.str),.tup [.int a,.int b],.tup [.int c,.int d]]/\Rows L/\B12 a/\B12 b/\B12 c/\B12 d/\R (.str (cG L a b c d))
structure Leaf where
 rows:List y'
 a:Int
 b:Int
 c:Int
 d:Int
 w0:Int
 w1:Int
 w2:Int
 w3:Int
 w4:Int
 w5:Int
 hues:List Int
def Leaf.D(l:Leaf):My.D:= .tup [.lst (l.rows.map D.str),.tup [.int l.a,.int l.b],.tup [.int l.c,.int l.d],.tup [.int l.w0,.int l.w1,.int l.w2,.int l.w3,.int l.w4,.int l.w5],.lst (l.hues.map D.int)]
structure Leaf.Ok(l:Leaf):Prop where
 rows:Rows l.rows
 a:B12 l.a
 b:B12 l.b
 c:B12 l.c
 d:B12 l.d
 ne:¬ l.a*l.d=l.b*l.c
 w0:l.w0.natAbs<=1
 w1:l.w1.natAbs<=1
 w2:l.w2.natAbs<=1
 w3:l.w3.natAbs<=1
 w4:l.w4.natAbs<=1000
 w5:l.w5.natAbs<=1000
 many:l.hues.length=7
 hue:∀ h∈l.hues,0<=h/\h<=6
def onB(a b c d u v:Int):Bool:=decide ((u*d - v*c).fmod (a*d - b*c)=0/\(a*v - b*u).fmod (a*d - b*c)=0)
def scanRow(f:Int->Bool):Nat->List Nat->Option Nat
 |_,[]=>o_
 |i,c::r=>if c≠46/\f i=true then be c else scanRow f (i+1) r
def bH(f:Int->Int->Bool):Nat->List y'->Option Nat
 |_,[]=>o_
 |j,l::r=>match scanRow (λi=>f i j) 0 (cs l) with|some c=>be c|none=>bH f (j+1) r
def Leaf.hit(l:Leaf)(x y:Int):Option Nat:=bH (λi j=>onB l.a l.b l.c l.d (l.w0*x+l.w1*y+l.w4 - i) (l.w2*x+l.w3*y+l.w5 - j)) 0 l.rows
def Leaf.shows(l:Leaf)(x y:Int):Int:=match l.hit x y with|some c=>cell l.hues ((c:Int) - 48)|none=>0
def one_sign{c:Nat}:(⟨#[c]⟩:y')="."↔c=46:=by
 constructor
 .intro h;have:(#[c]:Array Nat)=(".":y').cps:=congrArg Str.cps h;have e:(#[c]:Array Nat).toList=(".":y').cps.toList:=by rw[this]
  have e2:(".":y').cps.toList=[46]:=rfl;rw[e2] at e;simpa using e
 .rintro rfl;rfl
def digit_of{c:Nat}(h:49<=c/\c<=54):PySem.intText? (⟨#[c]⟩:y')=be ((c:Int) - 48):=by
 rcases(by lia:c=49\/c=50\/c=51\/c=52\/c=53\/c=54) with e|e|e|e|e|e<;>subst e<;>decide+kernel
def at_str{j:Nat}{x:y'}(h:L[j]?=be x):atI (L.map D.str) (j:Int)=be (.str x):=ce (by rw[Eo,h];rfl)
def cS{n:Int}{k:Nat}{x:D}(h:((D9 n.toNat).map λk=>D.int ((k:Nat):Int))[k]?=be x):k<n.toNat/\x= .int (k:Int):=by
 have hk:k<n.toNat:=by simpa using(Em.mp h).1
 refine⟨hk,?_⟩;simp[hk] at h;exact h.symm
def cT{n:Int}:((D9 n.toNat).map λk=>D.int ((k:Nat):Int)).length=n.toNat:=by simp
def aU:List Leaf->Int->Int->Int
 |[],_,_=>0
 |l::r,x,y=>if l.shows x y≠0 then l.shows x y else aU r x y
variable{hs:List Int}
def Ap(h:∀ h∈hs,0<=h/\h<=6)(k:Int):0<=cell hs k/\cell hs k<=6:=by
 by_cases hk:k.toNat<hs.length
 .have:cell hs k=hs[k.toNat]:=by simp[cell,EJ,Es hk]
  rw[this];exact h _ (EK hk)
 .have:cell hs k=0:=by simp[cell,EJ,E3 (F7 hk)]
  lia
def Leaf.shows_le{l:Leaf}(h:l.Ok)(x y:Int):0<=l.shows x y/\l.shows x y<=6:=by
 unfold Leaf.shows;split
 .exact Ap h.hue _
 .lia
def rK:∀ {ls:List Leaf} (x y:Int),(∀ l∈ls,l.Ok)->0<=aU ls x y/\aU ls x y<=6
 |[],_,_,_=>by simp[aU]
 |l::r,x,y,h=>by
  unfold aU;split
  .exact Leaf.shows_le (h l Ed) x y
  .exact rK x y λl' q=>h l' (Ec _ q)
def br(L:List y')(a b c d:Int):Leaf:=⟨L,a,b,c,d,1,0,0,1,0,0,[0,1,2,3,4,5,6]⟩
def Aq:SpD:=λds R=>∃ (ns:List Int) (k:Int),ds=[.rol (ns.map D.int),.int k]/\0<=k/\
 ∀ (L:List y') (a b c d:Int),Rows L->B12 a->B12 b->B12 c->B12 d->¬ a*d=b*c->R (.lst [.str (cG L a b c d),.int 0,.lst [(br L a b c d).D]])
def Ar:SpD:=λds R=>∃ (l:Leaf) (x y:Int),ds=[l.D,.int x,.int y]/\l.Ok/\R (.int (l.shows x y))
def As:SpD:=λds R=>∃ (ls:List Leaf) (x y:Int),ds=[.lst (ls.map Leaf.D),.int x,.int y]/\(∀ l∈ls,l.Ok)/\R (.int (aU ls x y))
def Au:SpD:=λds R=>∃ v:Int,ds=[.int v]/\∀ c:Int,-1000000000000<=c->c<=1000000000000->R (.int c)
def Av(k:Int):∃ c,atI [D.int (-(10 ^ Ft 12)),D.int (1 - 10 ^ Ft 12),D.int (10 ^ Ft 12 - 1),D.int (10 ^ Ft 12)] (k % 4)=be (.int c)/\-1000000000000<=c/\c<=1000000000000:=by
 rcases(by lia:k % 4=0\/k % 4=1\/k % 4=2\/k % 4=3) with e|e|e|e<;>rw[e]
 .exact⟨_,rfl,by decide,by decide⟩
 .exact⟨_,rfl,by decide,by decide⟩
 .exact⟨_,rfl,by decide,by decide⟩
 .exact⟨_,rfl,by decide,by decide⟩
inductive Pat where
 |mot (L:List Str) (a b c d:Int)
 |over (p q:Pat)
 |sh (a b:Int) (p:Pat)
 |mir (p:Pat)
 |tur (p:Pat)
 |hue (f g:Int) (p:Pat)
def Pat.text:Pat->y'
 | .mot L a b c d=>cG L a b c d
 | .over p q=>(((("(":y')++p.text)++"|")++q.text)++")"
 | .sh a b p=>((((("s":y')++(toString a:String))++",")++(toString b:String))++":")++p.text
 | .mir p=>("m":y')++p.text
 | .tur p=>("t":y')++p.text
 | .hue f g p=>((("h":y')++(toString f:String))++(toString g:String))++p.text
def Pat.depth:Pat->Nat
 | .mot ..=>0
 | .over p q=>1+max p.depth q.depth
 | .sh _ _ p=>p.depth+1
 | .mir p=>p.depth+1
 | .tur p=>p.depth+1
 | .hue _ _ p=>p.depth+1
def Leaf.by(l:Leaf)(b0 b1 b2 b3 b4 b5:Int):Leaf:=
 {l with w0:=l.w0*b0+l.w1*b2,w1:=l.w0*b1+l.w1*b3,w2:=l.w2*b0+l.w3*b2,w3:=l.w2*b1+l.w3*b3,w4:=l.w4+l.w0*b4+l.w1*b5,w5:=l.w5+l.w2*b4+l.w3*b5}
def bB(f g h:Int):Int:=if h=f then g else h
def Leaf.dye(l:Leaf)(f g:Int):Leaf:={l with hues:=l.hues.map (bB f g)}
def Pat.leaves:Pat->List Leaf
 | .mot L a b c d=>[br L a b c d]
 | .over p q=>p.leaves++q.leaves
 | .sh a b p=>p.leaves.map (λl=>l.by 1 0 0 1 (-a) (-b))
 | .mir p=>p.leaves.map (λl=>l.by (-1) 0 0 1 0 0)
 | .tur p=>p.leaves.map (λl=>l.by 0 1 (-1) 0 0 0)
 | .hue f g p=>p.leaves.map (λl=>(l.by 1 0 0 1 0 0).dye f g)
def Pat.show:Pat->Int->Int->Int
 | .mot L a b c d,x,y=>(br L a b c d).shows x y
 | .over p q,x,y=>if p.show x y≠0 then p.show x y else q.show x y
 | .sh a b p,x,y=>p.show (x - a) (y - b)
 | .mir p,x,y=>p.show (-x) y
 | .tur p,x,y=>p.show y (-x)
 | .hue f g p,x,y=>bB f g (p.show x y)
def Pat.Wf:Pat->Prop
 | .mot L a b c d=>Rows L/\B12 a/\B12 b/\B12 c/\B12 d/\¬ a*d=b*c
 | .over p q=>p.Wf/\q.Wf
 | .sh a b p=>B12 a/\B12 b/\p.Wf
 | .mir p=>p.Wf
 | .tur p=>p.Wf
 | .hue f g p=>(1<=f/\f<=6)/\(1<=g/\g<=6)/\p.Wf
def Leaf.by_shows(l:Leaf)(b0 b1 b2 b3 b4 b5 x y:Int):(l.by b0 b1 b2 b3 b4 b5).shows x y=l.shows (b0*x+b1*y+b4) (b2*x+b3*y+b5):=by
 have e1:(l.w0*b0+l.w1*b2)*x+(l.w0*b1+l.w1*b3)*y+(l.w4+l.w0*b4+l.w1*b5)=l.w0*(b0*x+b1*y+b4)+l.w1*(b2*x+b3*y+b5)+l.w4:=by grind
 have e2:(l.w2*b0+l.w3*b2)*x+(l.w2*b1+l.w3*b3)*y+(l.w5+l.w2*b4+l.w3*b5)=l.w2*(b0*x+b1*y+b4)+l.w3*(b2*x+b3*y+b5)+l.w5:=by grind
 simp only[Leaf.shows,Leaf.hit,Leaf.by,e1,e2]
def fO(b0 b1 b2 b3 b4 b5 x y:Int):∀ ls:List Leaf,aU (ls.map (λl=>l.by b0 b1 b2 b3 b4 b5)) x y=aU ls (b0*x+b1*y+b4) (b2*x+b3*y+b5)
 |[]=>rfl
 |l::r=>by
  rw[En,aU,aU,Leaf.by_shows,fO b0 b1 b2 b3 b4 b5 x y r]
def scanRow_sign{f:Int->Bool}:∀ {cs:List Nat} {i c:Nat},(∀ c∈cs,aG c)->scanRow f i cs=be c->49<=c/\c<=54
 |[],_,_,_,h=>by cases h
 |a::r,i,c,hs,h=>by
  rw[scanRow] at h;split at h
  .rename_i q;cases h;have:=hs a Ed;unfold aG at this;have:=q.1;lia
  .exact scanRow_sign (λc q=>hs c (Ec _ q)) h
def jV{f:Int->Int->Bool}:∀ {L:List y'} {j c:Nat},(∀ l∈L,∀ c∈cs l,aG c)->bH f j L=be c->49<=c/\c<=54
 |[],_,_,_,h=>by cases h
 |a::r,j,c,hs,h=>by
  rw[bH] at h;split at h
  .rename_i q;cases h;exact scanRow_sign (hs a Ed) q
  .exact jV (λl q=>hs l (Ec _ q)) h
def Aw{k:Int}(h:k.toNat<hs.length):cell (hs.map (bB f g)) k=bB f g (cell hs k):=by
 simp[cell,EJ,Eo,Es h]
def Leaf.dye_shows{l:Leaf}(ok:l.Ok)(hf:1<=f)(x y:Int):(l.dye f g).shows x y=bB f g (l.shows x y):=by
 have e:(l.dye f g).hit x y=l.hit x y:=rfl;unfold Leaf.shows;rw[e];cases h:l.hit x y with
 |none=>simp[bB];lia
 |some c=>
  have hc:49<=c/\c<=54:=jV (λl' q=>let ⟨_,_,_,h⟩:=ok.rows;(h l' q).2) h;exact Aw (by rw[ok.many];lia)
def rL(hf:1<=f)(hg:1<=g):bB f g h=0↔h=0:=by
 unfold bB;split<;>lia
def rM{f g:Int}(hf:1<=f)(hg:1<=g)(x y:Int):∀ ls:List Leaf,(∀ l∈ls,l.Ok)->aU (ls.map (λl=>l.dye f g)) x y=bB f g (aU ls x y)
 |[],_=>by simp[aU,bB];lia
 |l::r,h=>by
  rw[En,aU,aU,Leaf.dye_shows (h l Ed) hf,rM hf hg x y r λl q=>h l (Ec _ q)];by_cases z:l.shows x y=0
  .rw[if_neg (λq=>q ((rL hf hg).mpr z)),if_neg (λq=>q z)]
  .rw[if_pos (λq=>z ((rL hf hg).mp q)),if_pos z]
def rN(x y:Int):∀ (a b:List Leaf),aU (a++b) x y=if aU a x y≠0 then aU a x y else aU b x y
 |[],b=>by simp[aU]
 |l::r,b=>by
  rw[ER,aU,aU];by_cases z:l.shows x y≠0
  .rw[if_pos z,if_pos z,if_pos z]
  .rw[if_neg z,if_neg z,rN x y r b]
structure Leaf.Near(l:Leaf)(n:Nat):Prop where
 u0:(l.w0.natAbs=1/\l.w1=0/\l.w2=0/\l.w3.natAbs=1)\/(l.w0=0/\l.w1.natAbs=1/\l.w2.natAbs=1/\l.w3=0)
 w4:l.w4.natAbs<=24*n
 w5:l.w5.natAbs<=24*n
variable{n:Nat}
def Leaf.Near.mono{l:Leaf}{m:Nat}(h:l.Near n)(k:n<=m):l.Near m:=⟨h.u0,by have:=h.w4;lia,by have:=h.w5;lia⟩
def Leaf.Near.unit{l:Leaf}(h:l.Near n):(l.w0=1\/l.w0=-1\/l.w0=0)/\(l.w1=1\/l.w1=-1\/l.w1=0)/\(l.w2=1\/l.w2=-1\/l.w2=0)/\(l.w3=1\/l.w3=-1\/l.w3=0):=by
 have:=h.u0;lia
def rO(h:e.natAbs<=24*n)(hw:w=1\/w=-1\/w=0)(hv:v=1\/v=-1\/v=0)(ha:B12 a)(hb:B12 b):(e+w* -a+v* -b).natAbs<=24*(n+1):=by
 have m:∀ {w a:Int},(w=1\/w=-1\/w=0)->B12 a->(w* -a).natAbs<=12:=λhw ha=>by
  unfold B12 at ha;rcases hw with rfl|rfl|rfl<;>lia
 have:=m hw ha;have:=m hv hb;generalize w* -a=x at*;generalize v* -b=y at*;clear m hw hv ha hb;lia
def Ax{l:Leaf}(h:l.Near n)(ha:B12 a)(hb:B12 b):(l.by 1 0 0 1 (-a) (-b)).Near (n+1):=by
 obtain⟨h0,h1,h2,h3⟩:=h.unit;exact⟨by simpa[Leaf.by] using h.u0,rO h.w4 h0 h1 ha hb,rO h.w5 h2 h3 ha hb⟩
def Ay{l:Leaf}(h:l.Near n):(l.by (-1) 0 0 1 0 0).Near (n+1):=by
 have p:=h.w4;have q:=h.w5;exact⟨by simpa[Leaf.by] using h.u0,by simp[Leaf.by];lia,by simp[Leaf.by];lia⟩
def Az{l:Leaf}(h:l.Near n):(l.by 0 1 (-1) 0 0 0).Near (n+1):=by
 have p:=h.w4;have q:=h.w5;refine⟨?_,by simp[Leaf.by];lia,by simp[Leaf.by];lia⟩;rcases h.u0 with⟨a,b,c,d⟩|⟨a,b,c,d⟩
 .exact .inr (by simp[Leaf.by,a,b,c,d])
 .exact .inl (by simp[Leaf.by,a,b,c,d])
def rP{l:Leaf}(h:l.Near n):((l.by 1 0 0 1 0 0).dye f g).Near (n+1):=by
 have p:=h.w4;have q:=h.w5;exact⟨by simpa[Leaf.by,Leaf.dye] using h.u0,by simp[Leaf.by,Leaf.dye];lia,by simp[Leaf.by,Leaf.dye];lia⟩
structure Leaf.Good(l:Leaf):Prop where
 rows:Rows l.rows
 a:B12 l.a
 b:B12 l.b
 c:B12 l.c
 d:B12 l.d
 ne:¬ l.a*l.d=l.b*l.c
 many:l.hues.length=7
 hue:∀ h∈l.hues,0<=h/\h<=6
def Leaf.ok_of{l:Leaf}(g:l.Good)(h:l.Near n)(hn:n<=40):l.Ok:=by
 have:=h.u0;have:=h.w4;have:=h.w5;exact⟨g.rows,g.a,g.b,g.c,g.d,g.ne,by lia,by lia,by lia,by lia,by lia,by lia,g.many,g.hue⟩
def Pat.leaf_good:∀ {p:Pat},p.Wf->∀ l∈p.leaves,l.Good/\l.Near p.depth
 | .mot L a b c d,h,l,q=>by
  have:l=br L a b c d:=by simpa[Pat.leaves] using q
  subst this;obtain⟨h1,h2,h3,h4,h5,h6⟩:=h;exact⟨⟨h1,h2,h3,h4,h5,h6,rfl,by intro h q;simp[br] at q;lia⟩,⟨by simp[br],by simp[br],by simp[br]⟩⟩
 | .over p r,h,l,q=>by
  rcases EC.mp q with q|q
  .obtain⟨g,n⟩:=Pat.leaf_good h.1 l q;exact⟨g,n.mono (by simp only[Pat.depth];lia)⟩
  .obtain⟨g,n⟩:=Pat.leaf_good h.2 l q;exact⟨g,n.mono (by simp only[Pat.depth];lia)⟩
 | .sh a b p,h,l,q=>by
  obtain⟨l',q',rfl⟩:=EB.mp q;obtain⟨g,n⟩:=Pat.leaf_good h.2.2 l' q';exact⟨⟨g.rows,g.a,g.b,g.c,g.d,g.ne,g.many,g.hue⟩,Ax n h.1 h.2.1⟩
 | .mir p,h,l,q=>by
  obtain⟨l',q',rfl⟩:=EB.mp q;obtain⟨g,n⟩:=Pat.leaf_good (p:=p) h l' q';exact⟨⟨g.rows,g.a,g.b,g.c,g.d,g.ne,g.many,g.hue⟩,Ay n⟩
 | .tur p,h,l,q=>by
  obtain⟨l',q',rfl⟩:=EB.mp q;obtain⟨g,n⟩:=Pat.leaf_good (p:=p) h l' q';exact⟨⟨g.rows,g.a,g.b,g.c,g.d,g.ne,g.many,g.hue⟩,Az n⟩
 | .hue f k p,h,l,q=>by
  obtain⟨l',q',rfl⟩:=EB.mp q;obtain⟨g,n⟩:=Pat.leaf_good (p:=p) h.2.2 l' q';refine⟨⟨g.rows,g.a,g.b,g.c,g.d,g.ne,?_,λv hv=>?_⟩,rP n⟩
  .show(l'.hues.map _).length=7;rw[Ef];exact g.many
  .obtain⟨u,hu,rfl⟩:=EB.mp hv;have:=g.hue u hu;have:=h.2.1;unfold bB;split<;>lia
variable{p:Pat}
def Pat.leaf_ok(h:p.Wf)(hd:p.depth<=40):∀ l∈p.leaves,l.Ok:=λl q=>Leaf.ok_of (Pat.leaf_good h l q).1 (Pat.leaf_good h l q).2 hd
def Pat.show_leaves:∀ {p:Pat},p.Wf->p.depth<=40->∀ x y,aU p.leaves x y=p.show x y
 | .mot L a b c d,_,_,x,y=>by
  simp only[Pat.leaves,Pat.show,aU];split
  .rfl
  .lia
 | .over p q,h,hd,x,y=>by
  simp only[Pat.depth] at hd;rw[Pat.leaves,rN,Pat.show_leaves h.1 (by lia),Pat.show_leaves h.2 (by lia),Pat.show]
 | .sh a b p,h,hd,x,y=>by
  simp only[Pat.depth] at hd;rw[Pat.leaves,fO,Pat.show_leaves h.2.2 (by lia),Pat.show];congr 1<;>lia
 | .mir p,h,hd,x,y=>by
  simp only[Pat.depth] at hd;rw[Pat.leaves,fO,Pat.show_leaves (p:=p) h (by lia),Pat.show];congr 1<;>lia
 | .tur p,h,hd,x,y=>by
  simp only[Pat.depth] at hd;rw[Pat.leaves,fO,Pat.show_leaves (p:=p) h (by lia),Pat.show];congr 1<;>lia
 | .hue f g p,h,hd,x,y=>by
  simp only[Pat.depth] at hd;have e:p.leaves.map (λl=>(l.by 1 0 0 1 0 0).dye f g)=(p.leaves.map (λl=>l.by 1 0 0 1 0 0)).map (λl=>l.dye f g):=by rw[Fu];rfl
  rw[Pat.leaves,e,rM h.1.1 h.2.1.1,fO,Pat.show_leaves h.2.2 (by lia),Pat.show]
  .congr 2<;>lia
  .intro l q;obtain⟨l',q',rfl⟩:=EB.mp q;obtain⟨g',n⟩:=Pat.leaf_good h.2.2 l' q';have n':=rP (f:=f) (g:=g) n;have:(l'.by 1 0 0 1 0 0).Near (p.depth+1):=⟨n'.u0,n'.w4,n'.w5⟩;exact Leaf.ok_of ⟨g'.rows,g'.a,g'.b,g'.c,g'.d,g'.ne,g'.many,g'.hue⟩ this (by lia)
def Pat.D(p:Pat):My.D:= .lst [.str p.text,.int p.depth,.lst (p.leaves.map Leaf.D)]
def Leaf.T(dy:Bool)(d8 new b0 b1 b2 b3 b4 b5:Int)(l:Leaf):Leaf:=if dy then(l.by b0 b1 b2 b3 b4 b5).dye d8 new else l.by b0 b1 b2 b3 b4 b5
def cU(h:1<=a/\a<=6):((toString a:String):y').length<=3:=bv (by lia)
def Wraps(p:Pat)(H:Prop)(R:My.D->Prop):Prop:=(5<=p.depth->R p.D)/\(p.depth<5->R (Pat.mir p).D/\R (Pat.tur p).D/\(∀ a b,B12 a->B12 b->R (Pat.sh a b p).D)/\(H->∀ f g:Int,(1<=f/\f<=6)->(1<=g/\g<=6)->R (Pat.hue f g p).D))
variable{A:Int}
def AA{R:My.D->Prop}(h:Wraps p (j=3) R)(hd:p.depth<5){k B d8 new:Int}(hA:B12 A)(hB:B12 B)(ho:1<=d8/\d8<=6)(hn:1<=new/\new<=6)(hj:0<=j/\j<4):
  ∃ (hs:y') (b0 b1 b2 b3 b4 b5:Int),atI [D.str "m",D.str "t",D.str ((((("s":y')++(toString A:String))++",")++(toString B:String))++":"),D.str ((("h":y')++(toString d8:String))++(toString new:String))] j=be (.str hs)/\
   atI ([D.tup [.int (-1),.int 0,.int 0,.int 1,.int 0,.int 0],D.tup [.int 0,.int 1,.int (-1),.int 0,.int 0,.int 0]]++[D.tup [.int 1,.int 0,.int 0,.int 1,.int (-A),.int (-B)],D.tup [.int 1,.int 0,.int 0,.int 1,.int 0,.int 0]]) j=be (.tup [.int b0,.int b1,.int b2,.int b3,.int b4,.int b5])/\
   (b0.natAbs<=1/\b1.natAbs<=1/\b2.natAbs<=1/\b3.natAbs<=1/\b4.natAbs<=12/\b5.natAbs<=12)/\hs.length<=20/\
   R (.lst [.str (hs++p.text),.int (p.depth+1),.lst ((p.leaves.map (Leaf.T (decide (j=3)) d8 new b0 b1 b2 b3 b4 b5)).map Leaf.D)]):=by
 obtain⟨h1,h2,h3,h4⟩:=h.2 hd;have l1:("s":y').length=1:=rfl;have l2:(",":y').length=1:=rfl;have l3:(":":y').length=1:=rfl;have l4:("h":y').length=1:=rfl;have lA:=bv hA;have lB:=bv hB;have lo:=cU ho;have ln:=cU hn;have eD:∀ n:Nat,D.int ((n+1:Nat):Int)=D.int ((n:Int)+1):=λn=>by congr 1
 unfold B12 at hA hB;rcases(by lia:j=0\/j=1\/j=2\/j=3) with rfl|rfl|rfl|rfl
 .exact⟨_,_,_,_,_,_,_,rfl,rfl,by lia,by decide,h1⟩
 .exact⟨_,_,_,_,_,_,_,rfl,rfl,by lia,by decide,h2⟩
 .refine⟨_,_,_,_,_,_,_,rfl,rfl,by lia,?_,h3 A B hA hB⟩
  repeat rw[aC]
  lia
 .refine⟨_,_,_,_,_,_,_,rfl,rfl,by lia,?_,h4 rfl d8 new ho hn⟩
  repeat rw[aC]
  lia
def AB(h d8 new:Int):atI [D.int h,D.int new] (if decide (h=d8)=true then(1:Int) else 0)=be (.int (bB d8 new h)):=by
 unfold bB;by_cases e:h=d8
 .rw[if_pos e,if_pos (by simpa using e)];rfl
 .rw[if_neg e,if_neg (by simpa using e)];rfl
def jW{α:Type}{xs:List α}{k:Nat}{x:α}(h:xs[k]?=be x):xs.take (k+1)=xs.take k++[x]:=by
 have hk:k<xs.length:=(Em.mp h).1;rw[Gd,h];rfl
def Pat.leaves_len:∀ (p:Pat),p.leaves.length<=2 ^ p.depth
 | .mot ..=>D7 _
 | .over p q=>by
  have h1:=p.leaves_len;have h2:=q.leaves_len;have m1:2 ^ p.depth<=2 ^ (max p.depth q.depth):=ET (by decide) (Gp _ _);have m2:2 ^ q.depth<=2 ^ (max p.depth q.depth):=ET (by decide) (Gq _ _);rw[Pat.leaves,Eg,Pat.depth,Gr];lia
 | .sh a b p=>by rw[Pat.leaves,Ef,Pat.depth,EH];have:=p.leaves_len;lia
 | .mir p=>by rw[Pat.leaves,Ef,Pat.depth,EH];have:=p.leaves_len;lia
 | .tur p=>by rw[Pat.leaves,Ef,Pat.depth,EH];have:=p.leaves_len;lia
 | .hue f g p=>by rw[Pat.leaves,Ef,Pat.depth,EH];have:=p.leaves_len;lia
def Pat.leaves_32(h:p.depth<=5):p.leaves.length<=32:=Ei p.leaves_len (ET (by decide) h)
def AC:SpD:=λds R=>∃ (p:Pat) (draw:Int),ds=[p.D,.int draw]/\p.Wf/\p.depth<=5/\p.text.length<=100000/\Wraps p (draw % 4=3) R
def rQ(hn:¬ a*d=b*c)(h:(u*d - v*c).fmod (a*d - b*c)=0/\(a*v - b*u).fmod (a*d - b*c)=0):∃ i j,u=i*a+j*c/\v=i*b+j*d:=by
 have hz:a*d - b*c≠0:=by omega
 obtain⟨i,ei⟩:(a*d - b*c)∣(u*d - v*c):=⟨_,(G0 h.1).symm⟩;obtain⟨j,ej⟩:(a*d - b*c)∣(a*v - b*u):=⟨_,(G0 h.2).symm⟩;refine⟨i,j,?_,?_⟩
 .have:(a*d - b*c)*u=(a*d - b*c)*(i*a+j*c):=by
   have q1:(a*d - b*c)*u=a*(u*d - v*c)+c*(a*v - b*u):=by grind
   rw[q1,ei,ej];grind
  exact Gm hz this
 .have:(a*d - b*c)*v=(a*d - b*c)*(i*b+j*d):=by
   have q1:(a*d - b*c)*v=b*(u*d - v*c)+d*(a*v - b*u):=by grind
   rw[q1,ei,ej];grind
  exact Gm hz this
def Uni.trans{x0 x1 y0 y1:Int}(h:Uni a b c d p0 p1 q0 q1)(k:Uni p0 p1 q0 q1 x0 x1 y0 y1):Uni a b c d x0 x1 y0 y1:=by
 obtain⟨m,n,k1,l,hd,rfl,rfl,rfl,rfl⟩:=h;obtain⟨m',n',k',l',j3,rfl,rfl,rfl,rfl⟩:=k;have dt:(m'*m+n'*k1)*(k'*n+l'*l) - (m'*n+n'*l)*(k'*m+l'*k1)=(m'*l' - n'*k')*(m*l - n*k1):=by grind
 refine⟨m'*m+n'*k1,m'*n+n'*l,k'*m+l'*k1,k'*n+l'*l,?_,by grind,by grind,by grind,by grind⟩;rw[dt];rcases hd with e|e<;>rcases j3 with e'|e'<;>rw[e,e']<;>decide
def eN:∀ (n:Nat) (a b c d:Int),d.natAbs<=n->∃ p0 p1 q0,Lev a b c d p0 p1 q0
 |n,a,b,c,d,hn=>by
  by_cases hd:d=0
  .subst hd;by_cases hb:0<=b
   .exact⟨a,b,c,hb,Uni.refl a b c 0⟩
   .exact⟨-a,-b,c,by lia,(Uni.refl a b c 0).neg⟩
  .match n,hn with
   |0,hn=>exact absurd (by lia:d=0) hd
   |n+1,hn=>
    have lt:=(fdm b d hd).1;obtain⟨p0,p1,q0,h0,hu⟩:=eN n c d (a - b.fdiv d*c) (b - b.fdiv d*d) (by lia);exact⟨p0,p1,q0,h0,((Uni.refl a b c d).step (b.fdiv d)).trans hu⟩
def AD(hn:¬ a*d=b*c)(g0:0<=g)(g1:g∣b)(g2:g∣d)(g3:∀ e,e∣b->e∣d->e∣g):
  ∃ w s,FamOf a b c d w g s:=by
 obtain⟨p0,p1,q0,hL⟩:=eN d.natAbs a b c d (D7 _);have hF:=fN hn hL;have hp:=hF.2.1;obtain⟨m,n,k,l,_,e1,e2,e3,e4⟩:=hL.2;obtain⟨m',n',k',l',_,f1,f2,f3,f4⟩:=hL.2.inv;have d1:p1∣g:=g3 p1 ⟨m',by rw[f2];grind⟩ ⟨k',by rw[f4];grind⟩;have d2:g∣p1:=by
  rw[e2];exact Gn (FT g1) (FT g2)
 have:p1=g:=G1 (by lia) g0 d1 d2;subst this;exact⟨_,_,hF⟩
def FamOf.uniq_lean(f:FamOf a b c d w h s)(e1:x=i*a+j*c)(e2:h=i*b+j*d)(h0:0<=x)(h1:x<=s):x=s:=by
 obtain⟨hw,hh,hs,z_,hu⟩:=f;obtain⟨m,n,k,l,_,f1,f2,f3,f4⟩:=hu.inv;have ex:x=(i*m+j*k)*w+(i*n+j*l)*s:=by rw[e1,f1,f3];grind
 have eh:h=(i*n+j*l)*h:=by
  have:i*b+j*d=(i*n+j*l)*h:=by rw[f2,f4];grind
  rw[<- this];exact e2
 have one:i*n+j*l=1:=by
  have:(i*n+j*l)*h=1*h:=by lia
  exact Fs (by lia) this
 rw[one] at ex;generalize i*m+j*k=t at ex;have:t*w=x - s:=by lia
 rcases(by lia:t<=-1\/t=0\/1<=t) with z|z|z
 .have:=Ex z (show 0<=w by lia);lia
 .subst z;lia
 .have:=Ex z (show 0<=w by lia);lia
def notT{c:Prop}[Decidable c](h:(!decide c)=true):¬ c:=by
 intro q;rw[decide_eq_true q] at h;cases h
def notF{c:Prop}[Decidable c](h:¬ (!decide c)=true):c:=by
 rcases Classical.em c with q|q
 .exact q
 .rw[decide_eq_false q] at h;exact absurd rfl h
def Leaf.o0(l:Leaf):Int:=l.w0*l.a+l.w2*l.b
def Leaf.o1(l:Leaf):Int:=l.w1*l.a+l.w3*l.b
def Leaf.t0(l:Leaf):Int:=l.w0*l.c+l.w2*l.d
def Leaf.t1(l:Leaf):Int:=l.w1*l.c+l.w3*l.d
def cV(h:w=1\/w=-1\/w=0)(ha:B12 a):(w*a).natAbs<=12:=by
 unfold B12 at ha;rcases h with e|e|e<;>rw[e]<;>lia
def mul12(ha:B12 a)(hb:B12 b):(a*b).natAbs<=144:=by
 unfold B12 at ha hb;rw[Fd];exact Ei (FS (show a.natAbs<=12 by lia) (show b.natAbs<=12 by lia)) (by decide)
def Leaf.sizes{l:Leaf}(g:l.Good)(h:l.Near n):l.o0.natAbs<=24/\l.o1.natAbs<=24/\l.t0.natAbs<=24/\l.t1.natAbs<=24/\¬ l.o0*l.t1=l.o1*l.t0/\(l.o0*l.t1 - l.o1*l.t0).natAbs<=288:=by
 obtain⟨h0,h1,h2,h3⟩:=h.unit;have a0:=cV h0 g.a;have a1:=cV h1 g.a;have b2:=cV h2 g.b;have b3:=cV h3 g.b;have c0:=cV h0 g.c;have c1:=cV h1 g.c;have d2:=cV h2 g.d;have d3:=cV h3 g.d;have dt:l.o0*l.t1 - l.o1*l.t0=(l.w0*l.w3 - l.w1*l.w2)*(l.a*l.d - l.b*l.c):=by unfold Leaf.o0 Leaf.o1 Leaf.t0 Leaf.t1;grind
 have dw:(l.w0*l.w3 - l.w1*l.w2).natAbs=1:=by
  rcases h.u0 with⟨p,q,r,t⟩|⟨p,q,r,t⟩
  .rw[q,FU,G2,Fd,p,t]
  .rw[p,FU,Int.zero_sub,Int.natAbs_neg,Fd,q,r]
 have da:(l.o0*l.t1 - l.o1*l.t0).natAbs=(l.a*l.d - l.b*l.c).natAbs:=by rw[dt,Fd,dw,Nat.one_mul]
 refine⟨ab24 a0 b2,ab24 a1 b3,ab24 c0 d2,ab24 c1 d3,λz=>g.ne ?_,?_⟩
 .rw[z,Int.sub_self] at da;exact Int.sub_eq_zero.mp (GN.mp da.symm)
 .rw[da];have m1:=mul12 g.a g.d;have m2:=mul12 g.b g.c;generalize l.a*l.d=x at*;generalize l.b*l.c=y at*;clear da dw dt d3 d2 c1 c0 b3 b2 a1 a0 h3 h2 h1 h0 h g;lia
def AE:SpD:=λds R=>∃ (l:Leaf) (n:Nat),ds=[l.D]/\l.Good/\l.Near n/\∀ w h s:Int,FamOf l.o0 l.o1 l.t0 l.t1 w h s->w*h<=288->R (.tup [.int w,.int h,.int s])
def AF(h1:y % h=0/\(x - y / h*s) % w=0):∃ i j,x=i*w+j*s/\y=j*h:=by
 refine⟨(x - y / h*s) / w,y / h,?_,?_⟩
 .have:=Fv (x - y / h*s) w;rw[h1.2] at this;rw[Ey w] at this;lia
 .have:=Fv y h;rw[h1.1,Ey h] at this;lia
def eO(x y:Int):∃ g u,Meas x y g u:=by
 obtain⟨p0,p1,q0,hL⟩:=eN y.natAbs 1 x 0 y (D7 _);exact⟨p1,p0,rA ⟨hL.1,hL.2⟩⟩
def Meas.gcd{G:Int}(h:Meas x y g u)(g0:0<=G)(g1:G∣x)(g2:G∣y)(g3:∀ e,e∣x->e∣y->e∣G):G=g:=by
 obtain⟨h0,⟨i,ei⟩,⟨j,ej⟩,n,en⟩:=h;refine G1 g0 h0 ?_ (g3 g ⟨i,by rw[ei,Ey]⟩ ⟨j,by rw[ej,Ey]⟩);rw[en];exact Gn (FT g1) (FT g2)
structure Fm(w h s:Int):Prop where
 w0:0<w
 w1:w<=720
 h0:0<h
 h1:h<=720
 s0:0<=s
 sw:s<w
def AG(f:Fm w1 h1 s1)(k:Fm w2 h2 s2):∃ g u w h s A,Meas w1 w2 g u/\w=w1*w2 / g/\MetR w1 h1 s1 w2 h2 s2 w h s A:=by
 obtain⟨g,u,M1⟩:=eO w1 w2;obtain⟨k',u',M2⟩:=eO h1 h2;obtain⟨gg,t8,M3⟩:=eO g (h1*h2 / k' / h2*s2 - h1*h2 / k' / h1*s1);exact⟨g,u,_,_,_,_,M1,rfl,jS f.w0 k.w0 f.h0 k.h0 M1 M2 M3⟩
def MetR.high(M:MetR w1 h1 s1 w2 h2 s2 w h s A)(hh:0<h1)(hj:1<=j)(e1:∃ i,x=i*w1+j*s1)(e2:∃ i k,x=i*w2+k*s2/\j*h1=k*h2):h<=j*h1/\(j*h1=h->0<=x->x<w->x=s):=by
 obtain⟨i,e1⟩:=e1;obtain⟨i',k,e3,e4⟩:=e2;obtain⟨a,b,e5,e6⟩:=M.all x (j*h1) ⟨i,j,e1,rfl⟩ ⟨i',k,e3,e4⟩;have hp:0<j*h1:=Ep (by lia) hh;have hb:1<=b:=by
  rcases(by lia:b<=0\/1<=b) with z|z
  .have:=E2 z (show 0<=h by have:=M.h0;lia);lia
  .exact z
 refine⟨?_,λe x0 x1=>?_⟩
 .have:=Ex hb (show 0<=h by have:=M.h0;lia);lia
 .have ob:b=1:=by
   have:b*h=1*h:=by lia
   exact Fs (by have:=M.h0;lia) this
  rw[ob] at e5;have s0:=M.s0;have sw:=M.sw;have:a*w=x - s:=by lia
  rcases(by lia:a<=-1\/a=0\/1<=a) with z|z|z
  .have:=Ex z (show 0<=w by lia);lia
  .subst z;lia
  .have:=Ex z (show 0<=w by lia);lia
def AH:SpD:=λds R=>∃ w1 h1 s1 w2 h2 s2:Int,ds=[.tup [.int w1,.int h1,.int s1],.tup [.int w2,.int h2,.int s2]]/\Fm w1 h1 s1/\Fm w2 h2 s2/\
 ∀ w h s A,MetR w1 h1 s1 w2 h2 s2 w h s A->(w*h<=720->R (.tup [.int w,.int h,.int s]))/\(720<w*h->R .non)
def AI{S:Int}(hw:0<w1)(hx:x<w1)(x0:0<=x)(hS:0<=S)(e:S=i*w1+s)(e2:∃ i',x=i'*w1+s):∃ k,S=x+k*w1/\0<=k:=by
 obtain⟨i',e2⟩:=e2;refine⟨i - i',by grind,?_⟩;rcases(by lia:i - i'<=-1\/0<=i - i') with z|z
 .have:=Ex z (show 0<=w1 by lia);have:(i - i')*w1=S - x:=by grind
  lia
 .exact z
def InF(w h s x y:Int):Prop:=∃ i j,x=i*w+j*s/\y=j*h
def Leaf.Lat(l:Leaf)(x y:Int):Prop:=∃ i j,x=i*l.o0+j*l.t0/\y=i*l.o1+j*l.t1
def FamOf.lat(f:FamOf a b c d w h s)(x y:Int):InF w h s x y↔∃ i j,x=i*a+j*c/\y=i*b+j*d:=by
 obtain⟨_,_,_,_,hu⟩:=f;obtain⟨m,n,k,l,_,e1,e2,e3,e4⟩:=id hu;obtain⟨m',n',k',l',_,f1,f2,f3,f4⟩:=hu.inv;constructor
 .rintro⟨i,j,rfl,rfl⟩;refine⟨i*m+j*k,i*n+j*l,by rw[e1,e3];grind,?_⟩;have z:i*0+j*h=(i*m+j*k)*b+(i*n+j*l)*d:=by rw[e2,e4];grind
  lia
 .rintro⟨i,j,rfl,rfl⟩;refine⟨i*m'+j*k',i*n'+j*l',by rw[f1,f3];grind,by rw[f2,f4];grind⟩
def MetR.lat(M:MetR w1 h1 s1 w2 h2 s2 w h s A)(x y:Int):InF w h s x y↔InF w1 h1 s1 x y/\InF w2 h2 s2 x y:=by
 constructor
 .rintro⟨i,j,rfl,rfl⟩;obtain⟨a1,e1⟩:=M.in1;obtain⟨a2,e2⟩:=M.in2;obtain⟨b1,c1,e3,e4⟩:=M.up1;obtain⟨b2,c2,e5,e6⟩:=M.up2;refine⟨⟨i*a1+j*b1,j*c1,?_,?_⟩,⟨i*a2+j*b2,j*c2,?_,?_⟩⟩
  .rw[e1,e3];grind
  .rw[e4];grind
  .rw[e2,e5];grind
  .rw[e6];grind
 .rintro⟨h1,h2⟩;exact M.all x y h1 h2
variable{w' h' s':Int}
def InF.le(hw:0<w)(hh:0<h)(Lu:0<w')(Lv:0<h')(sub:∀ x y,InF w' h' s' x y->InF w h s x y):w*h<=w'*h'/\w<=w'/\h<=h':=by
 obtain⟨i,j,e1,e2⟩:=sub w' 0 ⟨1,0,by lia,by lia⟩;have j0:j=0:=by
  rcases FG.mp e2.symm with z|z
  .exact z
  .lia
 subst j0;have i1:1<=i:=by
  rcases(by lia:i<=0\/1<=i) with z|z
  .have:=E2 z (show 0<=w by lia);lia
  .exact z
 obtain⟨i',j',e3,e4⟩:=sub s' h' ⟨0,1,by lia,by lia⟩;have j1:1<=j':=by
  rcases(by lia:j'<=0\/1<=j') with z|z
  .have:=E2 z (show 0<=h by lia);lia
  .exact z
 have a1:=Ex i1 (show 0<=w by lia);have a2:=Ex j1 (show 0<=h by lia);have b1:w<=w':=by lia
 have b2:h<=h':=by lia
 exact⟨Int.mul_le_mul b1 b2 (by lia) (by lia),b1,b2⟩
def InF.uniq(hw:0<w)(hh:0<h)(hs:0<=s)(z_:s<w)(Lu:0<w')(Lv:0<h')(Iq:0<=s')(Ou:s'<w')(e:∀ x y,InF w h s x y↔InF w' h' s' x y):w=w'/\h=h'/\s=s':=by
 obtain⟨_,a1,a2⟩:=InF.le hw hh Lu Lv (λx y q=>(e x y).mpr q);obtain⟨_,b1,b2⟩:=InF.le Lu Lv hw hh (λx y q=>(e x y).mp q);have ew:w=w':=by lia
 have eh:h=h':=by lia
 subst ew eh;refine⟨rfl,rfl,?_⟩;obtain⟨i,j,e1,e2⟩:=(e s h).mp ⟨0,1,by lia,by lia⟩;have j1:j=1:=by
  have:j*h=1*h:=by lia
  exact Fs (by lia) this
 subst j1;have:i*w=s - s':=by lia
 rcases(by lia:i<=-1\/i=0\/1<=i) with z|z|z
 .have:=Ex z (show 0<=w by lia);lia
 .subst z;lia
 .have:=Ex z (show 0<=w by lia);lia
structure Fam0(w h s:Int):Prop where
 w0:0<w
 h0:0<h
 s0:0<=s
 sw:s<w
def rR(f:Fam0 w1 h1 s1)(k:Fam0 w2 h2 s2):∃ w h s,Fam0 w h s/\∀ x y,InF w h s x y↔InF w1 h1 s1 x y/\InF w2 h2 s2 x y:=by
 obtain⟨g,u,M1⟩:=eO w1 w2;obtain⟨k',u',M2⟩:=eO h1 h2;obtain⟨gg,t8,M3⟩:=eO g (h1*h2 / k' / h2*s2 - h1*h2 / k' / h1*s1);have M:=jS f.w0 k.w0 f.h0 k.h0 M1 M2 M3;exact⟨_,_,_,⟨M.w0,M.h0,M.s0,M.sw⟩,M.lat⟩
def Leaf.fam_ex{l:Leaf}(g:l.Good)(h:l.Near n):∃ w k s,Fam0 w k s/\∀ x y,InF w k s x y↔l.Lat x y:=by
 obtain⟨_,_,_,_,ne,_⟩:=Leaf.sizes g h;obtain⟨p0,p1,q0,hL⟩:=eN l.t1.natAbs l.o0 l.o1 l.t0 l.t1 (D7 _);have f:=fN ne hL;exact⟨_,_,_,⟨f.1,f.2.1,f.2.2.1,f.2.2.2.1⟩,f.lat⟩
def bI(ls:List Leaf)(x y:Int):Prop:=∀ l∈ls,l.Lat x y
def rS{n:Nat}:∀ (ls:List Leaf) (w h s:Int),Fam0 w h s->(∀ l∈ls,l.Good/\l.Near n)->∃ w' h' s',Fam0 w' h' s'/\∀ x y,InF w' h' s' x y↔InF w h s x y/\bI ls x y
 |[],w,h,s,f,_=>⟨w,h,s,f,λx y=>⟨λq=>⟨q,λl z=>by cases z⟩,λq=>q.1⟩⟩
 |l::r,w,h,s,f,g=>by
  obtain⟨w1,h1,s1,f1,e1⟩:=Leaf.fam_ex (g l Ed).1 (g l Ed).2;obtain⟨w2,h2,s2,f2,e2⟩:=rR f f1;obtain⟨w3,h3,s3,f3,e3⟩:=rS r w2 h2 s2 f2 λl' q=>g l' (Ec _ q);refine⟨w3,h3,s3,f3,λx y=>?_⟩;rw[e3,e2,e1];constructor
  .rintro⟨⟨a,b⟩,c⟩;exact⟨a,λl' q=>(Ea.mp q).elim (λz=>z ▸ b) (c l')⟩
  .rintro⟨a,b⟩;exact⟨⟨a,b l Ed⟩,λl' q=>b l' (Ec _ q)⟩
def cut1(d:D)(ds:List D):cutD (d::ds) (be 1) o_=ds:=by
 unfold cutD;have e1:HT.sIx (d::ds).length 0 (be 1)=1:=by simp[HT.sIx]
 have e2:HT.sIx (d::ds).length (d::ds).length o_=(d::ds).length:=by simp[HT.sIx]
 rw[e1,e2,List.drop_one,List.tail_cons,Eb,G3,FF]
def AJ:SpD:=λds R=>∃ (ls:List Leaf) (n:Nat),ds=[.lst (ls.map Leaf.D)]/\ls≠[]/\(∀ l∈ls,l.Good/\l.Near n)/\
 ∀ w h s:Int,Fam0 w h s->(∀ x y,InF w h s x y↔bI ls x y)->(w*h<=720->R (.tup [.int w,.int h,.int s]))/\(720<w*h->R .non)
def Pat.Lat:Pat->Int->Int->Prop
 | .mot _ a b c d,x,y=>∃ i j,x=i*a+j*c/\y=i*b+j*d
 | .over p q,x,y=>p.Lat x y/\q.Lat x y
 | .sh _ _ p,x,y=>p.Lat x y
 | .mir p,x,y=>p.Lat (-x) y
 | .tur p,x,y=>p.Lat y (-x)
 | .hue _ _ p,x,y=>p.Lat x y
def Leaf.by_lat(l:Leaf)(b0 b1 b2 b3 b4 b5 x y:Int):(l.by b0 b1 b2 b3 b4 b5).Lat x y↔∃ u v,l.Lat u v/\x=b0*u+b2*v/\y=b1*u+b3*v:=by
 have e0:(l.by b0 b1 b2 b3 b4 b5).o0=b0*l.o0+b2*l.o1:=by simp only[Leaf.o0,Leaf.o1,Leaf.by];grind
 have e1:(l.by b0 b1 b2 b3 b4 b5).o1=b1*l.o0+b3*l.o1:=by simp only[Leaf.o0,Leaf.o1,Leaf.by];grind
 have e2:(l.by b0 b1 b2 b3 b4 b5).t0=b0*l.t0+b2*l.t1:=by simp only[Leaf.t0,Leaf.t1,Leaf.by];grind
 have e3:(l.by b0 b1 b2 b3 b4 b5).t1=b1*l.t0+b3*l.t1:=by simp only[Leaf.t0,Leaf.t1,Leaf.by];grind
 unfold Leaf.Lat;rw[e0,e1,e2,e3];generalize l.o0=o0;generalize l.o1=o1;generalize l.t0=t0;generalize l.t1=t1;constructor
 .rintro⟨i,j,rfl,rfl⟩;exact⟨_,_,⟨i,j,rfl,rfl⟩,by grind,by grind⟩
 .rintro⟨_,_,⟨i,j,rfl,rfl⟩,rfl,rfl⟩;exact⟨i,j,by grind,by grind⟩
def Leaf.dye_lat(l:Leaf)(f g x y:Int):(l.dye f g).Lat x y↔l.Lat x y:=Iff.rfl
def AK(a b:List Leaf)(x y:Int):bI (a++b) x y↔bI a x y/\bI b x y:=by
 constructor
 .intro h;exact⟨λl q=>h l (EV _ q),λl q=>h l (Ek _ q)⟩
 .rintro⟨h1,h2⟩ l q;rcases EC.mp q with q|q
  .exact h1 l q
  .exact h2 l q
def latAll_map{f:Leaf->Leaf}(hf:∀ l:Leaf,(f l).Lat x y↔l.Lat u v)(ls:List Leaf):bI (ls.map f) x y↔bI ls u v:=by
 constructor
 .intro h l q;exact(hf l).mp (h _ (EB.mpr ⟨l,q,rfl⟩))
 .intro h l q;obtain⟨l',q',rfl⟩:=EB.mp q;exact(hf l').mpr (h l' q')
def rT(l:Leaf)(e f x y:Int):(l.by 1 0 0 1 e f).Lat x y↔l.Lat x y:=by
 rw[Leaf.by_lat];constructor
 .rintro⟨u,v,h,e1,e2⟩;have e1:x=u:=by lia
  have e2:y=v:=by lia
  rw[e1,e2];exact h
 .intro h;exact⟨x,y,h,by lia,by lia⟩
def Pat.lat_leaves:∀ (p:Pat) (x y:Int),bI p.leaves x y↔p.Lat x y
 | .mot L a b c d,x,y=>by
  have e0:(br L a b c d).o0=a:=by simp[Leaf.o0,br]
  have e1:(br L a b c d).o1=b:=by simp[Leaf.o1,br]
  have e2:(br L a b c d).t0=c:=by simp[Leaf.t0,br]
  have e3:(br L a b c d).t1=d:=by simp[Leaf.t1,br]
  have e:(br L a b c d).Lat x y↔(Pat.mot L a b c d).Lat x y:=by
   unfold Leaf.Lat;rw[e0,e1,e2,e3];exact Iff.rfl
  rw[<- e];constructor
  .intro h;exact h _ Ed
  .intro h l q;rw[D8.mp q];exact h
 | .over p q,x,y=>by rw[Pat.leaves,AK,Pat.lat_leaves p,Pat.lat_leaves q,Pat.Lat]
 | .sh a b p,x,y=>by rw[Pat.leaves,latAll_map (λl=>rT l _ _ x y),Pat.lat_leaves p,Pat.Lat]
 | .mir p,x,y=>by
  have e:∀ l:Leaf,(l.by (-1) 0 0 1 0 0).Lat x y↔l.Lat (-x) y:=λl=>by
   rw[Leaf.by_lat];constructor
   .rintro⟨u,v,h,e1,e2⟩;have e1: -x=u:=by lia
    have e2:y=v:=by lia
    rw[e1,e2];exact h
   .intro h;exact⟨-x,y,h,by lia,by lia⟩
  rw[Pat.leaves,latAll_map e,Pat.lat_leaves p,Pat.Lat]
 | .tur p,x,y=>by
  have e:∀ l:Leaf,(l.by 0 1 (-1) 0 0 0).Lat x y↔l.Lat y (-x):=λl=>by
   rw[Leaf.by_lat];constructor
   .rintro⟨u,v,h,e1,e2⟩;have e1: -x=v:=by lia
    have e2:y=u:=by lia
    rw[e1,e2];exact h
   .intro h;exact⟨y,-x,h,by lia,by lia⟩
  rw[Pat.leaves,latAll_map e,Pat.lat_leaves p,Pat.Lat]
 | .hue f g p,x,y=>by
  rw[Pat.leaves,latAll_map (λl=>(Leaf.dye_lat _ f g x y).trans (rT l _ _ x y)),Pat.lat_leaves p,Pat.Lat]
structure Pat.Fam(p:Pat)(w h s:Int):Prop where
 f:Fam0 w h s
 lat:∀ x y,InF w h s x y↔p.Lat x y
def Pat.Fam.uniq(a:p.Fam w h s)(b:p.Fam w' h' s'):w=w'/\h=h'/\s=s':=
 InF.uniq a.f.w0 a.f.h0 a.f.s0 a.f.sw b.f.w0 b.f.h0 b.f.s0 b.f.sw λx y=>(a.lat x y).trans (b.lat x y).symm
def Pat.Fam.mot(k:FamOf a b c d w h s):(Pat.mot L a b c d).Fam w h s:=⟨⟨k.1,k.2.1,k.2.2.1,k.2.2.2.1⟩,k.lat⟩
def Pat.Fam.sh(a b:Int)(k:p.Fam w h s):(Pat.sh a b p).Fam w h s:=⟨k.f,k.lat⟩
def Pat.Fam.hue(a b:Int)(k:p.Fam w h s):(Pat.hue a b p).Fam w h s:=⟨k.f,k.lat⟩
def Pat.Fam.mir(k:p.Fam w h s):(Pat.mir p).Fam w h (-s % w):=by
 refine⟨⟨k.f.w0,k.f.h0,cm k.f.w0,cn k.f.w0⟩,λx y=>?_⟩;show _↔p.Lat (-x) y;rw[<- k.lat];have e:=ES (-s) w;generalize -s % w=r at e;generalize -s / w=t at e;constructor
 .rintro⟨i,j,rfl,rfl⟩;exact⟨j*t - i,j,by rw[e];grind,rfl⟩
 .rintro⟨i,j,ex,rfl⟩;exact⟨j*t - i,j,by rw[e];grind,rfl⟩
def Pat.Fam.tur(k:p.Fam w h s)(f:FamOf 0 w (-h) s w' h' s'):(Pat.tur p).Fam w' h' s':=by
 refine⟨⟨f.1,f.2.1,f.2.2.1,f.2.2.2.1⟩,λx y=>?_⟩;show _↔p.Lat y (-x);rw[<- k.lat,f.lat];constructor
 .rintro⟨i,j,rfl,rfl⟩;exact⟨i,j,by grind,by grind⟩
 .rintro⟨i,j,ex,ey⟩;exact⟨i,j,by grind,by grind⟩
variable{q:Pat}
def Pat.Fam.over(k1:p.Fam w1 h1 s1)(k2:q.Fam w2 h2 s2)(M:MetR w1 h1 s1 w2 h2 s2 w h s A):(Pat.over p q).Fam w h s:=by
 refine⟨⟨M.w0,M.h0,M.s0,M.sw⟩,λx y=>?_⟩;rw[M.lat,k1.lat,k2.lat];exact Iff.rfl
def fP(hw:0<w)(hh:0<h):∃ w' h' s',FamOf 0 w (-h) s w' h' s'/\w'*h'=w*h:=by
 have hp:0<w*h:=Ep hw hh;have hn:¬ 0*s=w* -h:=by rw[E4];lia
 obtain⟨p0,p1,q0,hL⟩:=eN s.natAbs 0 w (-h) s (D7 _);have f:=fN hn hL;refine⟨_,_,_,f,?_⟩;have Le:=Ep f.1 f.2.1;have c:=f.cells;rw[E4] at c;lia
def rV(hn:¬ a*d=b*c):∃ w h s,FamOf a b c d w h s/\(Pat.mot L a b c d).Fam w h s:=by
 obtain⟨p0,p1,q0,hL⟩:=eN d.natAbs a b c d (D7 _);have f:=fN hn hL;exact⟨_,_,_,f,.mot f⟩
def Pat.fam_ex:∀ {p:Pat},p.Wf->∃ w h s,p.Fam w h s
 | .mot L a b c d,h=>by
  obtain⟨w,k,s,_,f⟩:=rV (L:=L) h.2.2.2.2.2;exact⟨w,k,s,f⟩
 | .over p q,h=>by
  obtain⟨w1,h1,s1,f1⟩:=Pat.fam_ex h.1;obtain⟨w2,h2,s2,f2⟩:=Pat.fam_ex h.2;obtain⟨w,k,s,f,e⟩:=rR f1.f f2.f;refine⟨w,k,s,f,λx y=>?_⟩;rw[e,f1.lat,f2.lat];exact Iff.rfl
 | .sh a b p,h=>by
  obtain⟨w,k,s,f⟩:=Pat.fam_ex h.2.2;exact⟨w,k,s,f.sh a b⟩
 | .mir p,h=>by
  obtain⟨w,k,s,f⟩:=Pat.fam_ex (p:=p) h;exact⟨w,k,_,f.mir⟩
 | .tur p,h=>by
  obtain⟨w,k,s,f⟩:=Pat.fam_ex (p:=p) h;obtain⟨w',k',s',f',_⟩:=fP (s:=s) f.f.w0 f.f.h0;exact⟨w',k',s',f.tur f'⟩
 | .hue a b p,h=>by
  obtain⟨w,k,s,f⟩:=Pat.fam_ex h.2.2;exact⟨w,k,s,f.hue a b⟩
def Pat.Fits(p:Pat):Prop:=∃ w h s,p.Fam w h s/\w*h<=720
def Pat.fits_mot(ha:B12 a)(hb:B12 b)(hc:B12 c)(hd:B12 d)(hn:¬ a*d=b*c):(Pat.mot L a b c d).Fits:=by
 obtain⟨w,h,s,k,f⟩:=rV (L:=L) hn;refine⟨w,h,s,f,?_⟩;have kc:=k.cells;unfold B12 at*;have m1:=bz (a:=a) (d:=d) (A:=12) (B:=12) (by lia) (by lia);have m2:=bz (a:=b) (d:=c) (A:=12) (B:=12) (by lia) (by lia);lia
def Pat.Fits.sh(a b:Int)(k:p.Fits):(Pat.sh a b p).Fits:=by
 obtain⟨w,h,s,f,q⟩:=k;exact⟨w,h,s,f.sh a b,q⟩
def Pat.Fits.hue(a b:Int)(k:p.Fits):(Pat.hue a b p).Fits:=by
 obtain⟨w,h,s,f,q⟩:=k;exact⟨w,h,s,f.hue a b,q⟩
def Pat.Fits.mir(k:p.Fits):(Pat.mir p).Fits:=by
 obtain⟨w,h,s,f,q⟩:=k;exact⟨w,h,_,f.mir,q⟩
def Pat.Fits.tur(k:p.Fits):(Pat.tur p).Fits:=by
 obtain⟨w,h,s,f,q⟩:=k;obtain⟨w',k',s',f',e⟩:=fP (s:=s) f.f.w0 f.f.h0;exact⟨w',k',s',f.tur f',by lia⟩
def rW(hL:Rows L)(ha:B12 a)(hb:B12 b)(hc:B12 c)(hd:B12 d):(cG L a b c d).length<=100:=by
 have la:=bv ha;have lb:=bv hb;have lc:=bv hc;have ld:=bv hd;have l1:(";":y').length=1:=rfl;have l2:(",":y').length=1:=rfl;have l3:("[":y').length=1:=rfl;have l4:("]":y').length=1:=rfl;have ls:=rJ hL;have lj:=StrLaws.join_length_le "/" L;have lg:(Txt.join "/" L).length<=72:=by
  have e:Txt.join "/" L=Str.join "/" L:=StrLaws.glued_eq_join _ _;rw[e];exact Ei lj ls
 unfold cG
 repeat rw[aC]
 lia
def Pat.text_len:∀ {p:Pat},p.Wf->p.text.length+10<=110*2 ^ p.depth
 | .mot L a b c d,h=>by
  have:=rW h.1 h.2.1 h.2.2.1 h.2.2.2.1 h.2.2.2.2.1;show(cG L a b c d).length+10<=110*2 ^ 0;lia
 | .over p q,h=>by
  have h1:=Pat.text_len h.1;have h2:=Pat.text_len h.2;have m1:2 ^ p.depth<=2 ^ (max p.depth q.depth):=ET (by decide) (Gp _ _);have m2:2 ^ q.depth<=2 ^ (max p.depth q.depth):=ET (by decide) (Gq _ _);have l1:("(":y').length=1:=rfl;have l2:("|":y').length=1:=rfl;have l3:(")":y').length=1:=rfl;rw[Pat.text,Pat.depth,Gr]
  repeat rw[aC]
  lia
 | .sh a b p,h=>by
  have h1:=Pat.text_len h.2.2;have la:=bv h.1;have lb:=bv h.2.1;have l1:("s":y').length=1:=rfl;have l2:(",":y').length=1:=rfl;have l3:(":":y').length=1:=rfl;have:0<2 ^ p.depth:=E5 (by decide);rw[Pat.text,Pat.depth,EH]
  repeat rw[aC]
  lia
 | .mir p,h=>by
  have h1:=Pat.text_len (p:=p) h;have l1:("m":y').length=1:=rfl;have:0<2 ^ p.depth:=E5 (by decide);rw[Pat.text,Pat.depth,EH,aC];lia
 | .tur p,h=>by
  have h1:=Pat.text_len (p:=p) h;have l1:("t":y').length=1:=rfl;have:0<2 ^ p.depth:=E5 (by decide);rw[Pat.text,Pat.depth,EH,aC];lia
 | .hue f g p,h=>by
  have h1:=Pat.text_len h.2.2;have la:=cU h.1;have lb:=cU h.2.1;have l1:("h":y').length=1:=rfl;have:0<2 ^ p.depth:=E5 (by decide);rw[Pat.text,Pat.depth,EH]
  repeat rw[aC]
  lia
def Pat.leaves_pos:∀ p:Pat,0<p.leaves.length
 | .mot ..=>Nat.zero_lt_one
 | .over p q=>by rw[Pat.leaves,Eg];have:=p.leaves_pos;lia
 | .sh _ _ p=>by rw[Pat.leaves,Ef];exact p.leaves_pos
 | .mir p=>by rw[Pat.leaves,Ef];exact p.leaves_pos
 | .tur p=>by rw[Pat.leaves,Ef];exact p.leaves_pos
 | .hue _ _ p=>by rw[Pat.leaves,Ef];exact p.leaves_pos
def Pat.text_short(h:p.Wf)(hd:p.depth<=5):p.text.length<=3510:=by
 have h1:=Pat.text_len h;have h2:2 ^ p.depth<=2 ^ 5:=ET (by decide) hd;lia
structure Pat.Ok(p:Pat):Prop where
 wf:p.Wf
 deep:p.depth<=5
 fits:p.Fits
def Wraps.of{H:Prop}{R:My.D->Prop}(h:p.Ok)(hR:∀ q:Pat,q.Ok->R q.D):Wraps p H R:=by
 refine⟨λ_=>hR p h,λhd=>⟨hR _ ⟨h.wf,?_,h.fits.mir⟩,hR _ ⟨h.wf,?_,h.fits.tur⟩,λa b ha hb=>hR _ ⟨⟨ha,hb,h.wf⟩,?_,h.fits.sh a b⟩,λ_ f g hf hg=>hR _ ⟨⟨hf,hg,h.wf⟩,?_,h.fits.hue f g⟩⟩⟩<;>(simp only[Pat.depth];lia)
def AL:SpD:=λds R=>∃ p q:Pat,ds=[p.D,q.D]/\p.Wf/\q.Wf/\p.depth<=5/\q.depth<=5/\R p.D/\(p.depth<5->q.depth<5->(Pat.over p q).Fits->R (Pat.over p q).D)
def AM:SpD:=λds R=>∃ (ns:List Int) (k:Int),ds=[.rol (ns.map D.int),.int k]/\0<=k/\∀ p:Pat,p.Ok->R p.D
inductive Wt where
 |sign (c:Nat)|pat (d:Nat)|lin (w h k:Nat)|hue|num|fig|more
 deriving DecidableEq
abbrev isSg(c:Nat):Bool:=c==46||(49<=c && c<=54)
def motW(r:List Wt):List Wt:= .lin 0 0 0:: .num:: .sign 44:: .num:: .sign 59:: .num:: .sign 44:: .num:: .sign 93::r
def bJ(d c:Nat)(r:List Wt):Option (List Wt):=
 if c=91 then be (motW r)
 else if d=5 then o_
 else if c=40 then be (.pat (d+1):: .sign 124:: .pat (d+1):: .sign 41::r)
 else if c=115 then be (.num:: .sign 44:: .num:: .sign 58:: .pat (d+1)::r)
 else if c=104 then be (.hue:: .hue:: .pat (d+1)::r)
 else if c=109\/c=116 then be (.pat (d+1)::r)
 else o_
def cH(w h k c:Nat)(r:List Wt):Option (List Wt):=
 if isSg c then(if h<(if 0<k then w else 8) then be (.lin w (h+1) k::r) else o_)
 else if h=0\/(0<k/\h<w) then o_
 else if c=47 then(if k<7 then be (.lin h 0 (k+1)::r) else o_)
 else if c=59 then be r
 else o_
def aJ:List Wt->Nat->Option (List Wt)
 |[],_=>o_
 | .sign s::r,c=>if c=s then be r else o_
 | .pat d::r,c=>bJ d c r
 | .lin w h k::r,c=>cH w h k c r
 | .hue::r,c=>if 49<=c/\c<=54 then be r else o_
 | .more::r,_=>be r
 | .num::r,c=>if c=49 then be (.more::r) else if c=45 then be (.fig::r) else if 48<=c/\c<=57 then be r else o_
 | .fig::r,c=>if c=49 then be (.more::r) else if 50<=c/\c<=57 then be r else o_
def aH(st:List Wt)(c:Nat):List Wt:=match st with
 | .more::r=>if 48<=c/\c<=50 then st else r
 |_=>st
def step(st:List Wt)(c:Nat):Option (List Wt):=aJ (aH st c) c
def walk:List Wt->List Nat->Nat->Option Nat
 |st,[],k=>if st=[] then o_ else be k
 |st,c::l,k=>match step st c with
  |none=>be k
  |some st'=>walk st' l (k+1)
def cX(t:y'):Option Nat:=walk [.pat 0] (cs t) 0
def Pat.Syn:Pat->Prop
 | .mot L a b c d=>Rows L/\B12 a/\B12 b/\B12 c/\B12 d
 | .over p q=>p.Syn/\q.Syn
 | .sh a b p=>B12 a/\B12 b/\p.Syn
 | .mir p=>p.Syn
 | .tur p=>p.Syn
 | .hue f g p=>(1<=f/\f<=6)/\(1<=g/\g<=6)/\p.Syn
def Pat.Wf.syn:∀ {p:Pat},p.Wf->p.Syn
 | .mot ..,h=>⟨h.1,h.2.1,h.2.2.1,h.2.2.2.1,h.2.2.2.2.1⟩
 | .over p q,h=>⟨Pat.Wf.syn h.1,Pat.Wf.syn h.2⟩
 | .sh a b p,h=>⟨h.1,h.2.1,Pat.Wf.syn h.2.2⟩
 | .mir p,h=>Pat.Wf.syn (p:=p) h
 | .tur p,h=>Pat.Wf.syn (p:=p) h
 | .hue f g p,h=>⟨h.1,h.2.1,Pat.Wf.syn h.2.2⟩
variable{l:List Nat}{st:List Wt}
def aF{st':List Wt}{c:Nat}{k:Nat}(h:step st c=be st'):walk st (c::l) k=walk st' l (k+1):=by
 rw[walk,h]
def numL(a:Int):List Nat:=cs (toString a:String)
def rX(h:B12 a){P:Int->Prop}(hP:∀ k:Fin 25,P (((k.val:Nat):Int) - 12)):P a:=by
 unfold B12 at h;have:=hP ⟨(a+12).toNat,by lia⟩;have e:(((a+12).toNat:Nat):Int) - 12=a:=by lia
 rw[e] at this;exact this
def isNumL(l:List Nat):Prop:=(∃ c,(48<=c/\c<=57)/\l=[c])\/(∃ c,(48<=c/\c<=50)/\l=[49,c])\/(∃ c,(49<=c/\c<=57)/\l=[45,c])\/∃ c,(48<=c/\c<=50)/\l=[45,49,c]
def numL_is(h:B12 a):isNumL (numL a):=by
 have key:∀ k:Fin 25,(numL (((k.val:Nat):Int) - 12))∈([[45,49,50],[45,49,49],[45,49,48],[45,57],[45,56],[45,55],[45,54],[45,53],[45,52],[45,51],[45,50],[45,49],[48],[49],[50],[51],[52],[53],[54],[55],[56],[57],[49,48],[49,49],[49,50]]:List (List Nat)):=by decide+kernel
 have h1:=rX (P:=λa=>numL a∈([[45,49,50],[45,49,49],[45,49,48],[45,57],[45,56],[45,55],[45,54],[45,53],[45,52],[45,51],[45,50],[45,49],[48],[49],[50],[51],[52],[53],[54],[55],[56],[57],[49,48],[49,49],[49,50]]:List (List Nat))) h key;revert h1;generalize numL a=l;intro h1;unfold isNumL;simp only[Ea,E6,or_false] at h1;rcases h1 with e|e|e|e|e|e|e|e|e|e|e|e|e|e|e|e|e|e|e|e|e|e|e|e|e<;>subst e
 all_goals first
  |exact .inl ⟨_,by decide,rfl⟩
  |exact .inr (.inl ⟨_,by decide,rfl⟩)
  |exact .inr (.inr (.inl ⟨_,by decide,rfl⟩))
  |exact .inr (.inr (.inr ⟨_,by decide,rfl⟩))
def AN(h:isNumL l):∃ a,B12 a/\numL a=l:=by
 have key:∀ c:Fin 58,(48<=c.val->∃ k:Fin 25,numL (((k.val:Nat):Int) - 12)=[c.val])/\(48<=c.val->c.val<=50->∃ k:Fin 25,numL (((k.val:Nat):Int) - 12)=[49,c.val])/\(49<=c.val->∃ k:Fin 25,numL (((k.val:Nat):Int) - 12)=[45,c.val])/\(48<=c.val->c.val<=50->∃ k:Fin 25,numL (((k.val:Nat):Int) - 12)=[45,49,c.val]):=by decide+kernel
 have d6:∀ k:Fin 25,B12 (((k.val:Nat):Int) - 12):=λk=>by unfold B12;have:=k.isLt;lia
 rcases h with⟨c,hc,rfl⟩|⟨c,hc,rfl⟩|⟨c,hc,rfl⟩|⟨c,hc,rfl⟩
 .obtain⟨k,e⟩:=(key ⟨c,by lia⟩).1 (by show 48<=c;lia);exact⟨_,d6 k,e⟩
 .obtain⟨k,e⟩:=(key ⟨c,by lia⟩).2.1 (by show 48<=c;lia) (by show c<=50;lia);exact⟨_,d6 k,e⟩
 .obtain⟨k,e⟩:=(key ⟨c,by lia⟩).2.2.1 (by show 49<=c;lia);exact⟨_,d6 k,e⟩
 .obtain⟨k,e⟩:=(key ⟨c,by lia⟩).2.2.2 (by show 48<=c;lia) (by show c<=50;lia);exact⟨_,d6 k,e⟩
def endS(c:Nat):Prop:=c=44\/c=59\/c=58\/c=93
def eQ(h:isNumL l){c:Nat}(hc:endS c)(r:List Wt)(t:List Nat)(k:Nat):walk (.num:: .sign c::r) (l++c::t) k=walk r t (k+l.length+1):=by
 unfold endS at hc;have Ov:¬ (48<=c/\c<=50):=by lia
 have d6:∀ k,walk (.sign c::r) (c::t) k=walk r t (k+1):=λk=>aF (by simp[step,aH,aJ]);have JA:∀ k,walk (.more:: .sign c::r) (c::t) k=walk r t (k+1):=λk=>aF (by simp[step,aH,aJ,Ov]);rcases h with⟨x,hx,rfl⟩|⟨x,hx,rfl⟩|⟨x,hx,rfl⟩|⟨x,hx,rfl⟩
 .by_cases e:x=49
  .subst e;show walk _ (49::c::t) k=_;rw[aF (st':= .more:: .sign c::r) (by simp[step,aH,aJ]),JA];simp
  .show walk _ (x::c::t) k=_;rw[aF (st':= .sign c::r) (by simp[step,aH,aJ,e,hx,show¬ x=45 by lia]),d6];simp
 .show walk _ (49::x::c::t) k=_;rw[aF (st':= .more:: .sign c::r) (by simp[step,aH,aJ]),aF (st':= .sign c::r) (by simp[step,aH,aJ,hx]),d6];simp
 .show walk _ (45::x::c::t) k=_;rw[aF (st':= .fig:: .sign c::r) (by simp[step,aH,aJ])];by_cases e:x=49
  .subst e;rw[aF (st':= .more:: .sign c::r) (by simp[step,aH,aJ]),JA];simp
  .rw[aF (st':= .sign c::r) (by simp[step,aH,aJ,e,show 50<=x/\x<=57 by lia]),d6];simp
 .show walk _ (45::49::x::c::t) k=_;rw[aF (st':= .fig:: .sign c::r) (by simp[step,aH,aJ]),aF (st':= .more:: .sign c::r) (by simp[step,aH,aJ]),aF (st':= .sign c::r) (by simp[step,aH,aJ,hx]),d6];simp
def rowsL:List (List Nat)->List Nat
 |[]=>[]
 |[x]=>x
 |x::y::r=>x++47::rowsL (y::r)
def AO{c:Nat}(h:aG c):isSg c=true:=by
 unfold aG at h;unfold isSg;rcases h with h|h
 .subst h;rfl
 .have:(decide (49<=c) && decide (c<=54))=true:=by simp[h]
  rw[this,F9]
def isSign_of{c:Nat}(h:isSg c=true):aG c:=by
 unfold isSg at h;unfold aG;simp at h;lia
variable{r:List Wt}
def dH{w h k c:Nat}:step (.lin w h k::r) c=cH w h k c r:=by simp[step,aH,aJ]
def eU{w k:Nat}{r:List Wt}:∀ (x:List Nat) (h:Nat) (t:List Nat) (j:Nat),(∀ c∈x,aG c)->h+x.length<=(if 0<k then w else 8)->walk (.lin w h k::r) (x++t) j=walk (.lin w (h+x.length) k::r) t (j+x.length)
 |[],h,t,j,_,_=>rfl
 |c::x,h,t,j,hs,hl=>by
  rw[Eb] at hl ⊢;have h1:step (.lin w h k::r) c=be (.lin w (h+1) k::r):=by
   rw[dH];unfold cH;rw[if_pos (AO (hs c Ed)),if_pos (by lia)]
  rw[ER,aF h1,eU x (h+1) t (j+1) (λc q=>hs c (Ec _ q)) (by lia)];rw[show h+1+x.length=h+(x.length+1) by lia,show j+1+x.length=j+(x.length+1) by lia]
def rY{wd:Nat}(hw:1<=wd/\wd<=8){r:List Wt}:∀ (L:List (List Nat)) (w0 k:Nat) (t:List Nat) (j:Nat),L≠[]->(∀ x∈L,x.length=wd/\∀ c∈x,aG c)->k+L.length<=8->(0<k->w0=wd)->walk (.lin w0 0 k::r) (rowsL L++59::t) j=walk r t (j+(rowsL L).length+1)
 |[],_,_,_,_,ne,_,_,_=>absurd rfl ne
 |[x],w0,k,t,j,_,hs,hl,hk=>by
  obtain⟨h1,h2⟩:=hs x Ed;have hb:0+x.length<=(if 0<k then w0 else 8):=by split<;>lia
  have ns:isSg 59=false:=rfl;have h3:step (.lin w0 (0+x.length) k::r) 59=be r:=by
   rw[dH];unfold cH;rw[ns,if_neg Ej,if_neg (by lia),if_neg (by decide),if_pos rfl]
  show walk (.lin w0 0 k::r) (x++59::t) j=walk r t (j+x.length+1);rw[eU x 0 _ j h2 hb,aF h3]
 |x::y::L,w0,k,t,j,_,hs,hl,hk=>by
  obtain⟨h1,h2⟩:=hs x Ed;rw[Eb,Eb] at hl;have hb:0+x.length<=(if 0<k then w0 else 8):=by split<;>lia
  have ns:isSg 47=false:=rfl;have h3:step (.lin w0 (0+x.length) k::r) 47=be (.lin (0+x.length) 0 (k+1)::r):=by
   rw[dH];unfold cH;rw[ns,if_neg Ej,if_neg (by lia),if_pos rfl,if_pos (by lia)]
  show walk (.lin w0 0 k::r) ((x++47::rowsL (y::L))++59::t) j=walk r t (j+(x++47::rowsL (y::L)).length+1);rw[EL,ER,eU x 0 _ j h2 hb,aF h3,rY hw (y::L) (0+x.length) (k+1) t _ (λz=>nomatch z) (λz q=>hs z (Ec _ q)) (by rw[Eb];lia) (λ_=>by lia)];rw[Eg,Eb];congr 1;lia
def motL(L:List (List Nat))(a b c d:Int):List Nat:=91::(rowsL L++59::(numL a++44::(numL b++59::(numL c++44::(numL d++[93])))))
def Pat.tl:Pat->List Nat
 | .mot L a b c d=>motL (L.map cs) a b c d
 | .over p q=>40::(p.tl++124::(q.tl++[41]))
 | .sh a b p=>115::(numL a++44::(numL b++58::p.tl))
 | .mir p=>109::p.tl
 | .tur p=>116::p.tl
 | .hue f g p=>104::(numL f++(numL g++p.tl))
def rZ:∀ L:List y',cs (Str.join "/" L)=rowsL (L.map cs)
 |[]=>rfl
 |[x]=>rfl
 |x::y::L=>by
  show cs (x++"/"++Str.join "/" (y::L))=cs x++47::rowsL ((y::L).map cs);rw[bG,bG,rZ (y::L),EL];rfl
def cY:∀ p:Pat,cs p.text=p.tl
 | .mot L a b c d=>by
  show cs (cG L a b c d)=motL (L.map cs) a b c d;unfold cG motL;have e:Txt.join "/" L=Str.join "/" L:=StrLaws.glued_eq_join _ _;rw[e]
  repeat rw[bG]
  rw[rZ];simp only[EL];rfl
 | .over p q=>by
  rw[Pat.text,Pat.tl]
  repeat rw[bG]
  rw[cY p,cY q];simp only[EL];rfl
 | .sh a b p=>by
  rw[Pat.text,Pat.tl]
  repeat rw[bG]
  rw[cY p];simp only[EL];rfl
 | .mir p=>by
  rw[Pat.text,Pat.tl,bG,cY p];rfl
 | .tur p=>by
  rw[Pat.text,Pat.tl,bG,cY p];rfl
 | .hue f g p=>by
  rw[Pat.text,Pat.tl]
  repeat rw[bG]
  rw[cY p];simp only[EL];rfl
def hueL(h:1<=f/\f<=6):numL f=[(48+f).toNat]:=by
 have key:∀ k:Fin 6,numL (((k.val:Nat):Int)+1)=[49+k.val]:=by decide+kernel
 have:=key ⟨(f - 1).toNat,by lia⟩;have e:(((f - 1).toNat:Nat):Int)+1=f:=by lia
 rw[e] at this;rw[this];congr 1;show 49+(f - 1).toNat=(48+f).toNat;lia
def bK{d c:Nat}:step (.pat d::r) c=bJ d c r:=by simp[step,aH,aJ]
def se(h:1<=f/\f<=6)(r:List Wt)(t:List Nat)(k:Nat):walk (.hue::r) (numL f++t) k=walk r t (k+1):=by
 rw[hueL h];show walk (.hue::r) ((48+f).toNat::t) k=_;exact aF (by simp[step,aH,aJ];lia)
def AQ(hL:Rows L)(ha:B12 a)(hb:B12 b)(hc:B12 c)(hd:B12 d)(n:Nat)(r:List Wt)(t:List Nat)(k:Nat):walk (.pat n::r) (motL (L.map cs) a b c d++t) k=walk r t (k+(motL (L.map cs) a b c d).length):=by
 obtain⟨h1,w,hw,hs⟩:=hL;have Iq:∀ x∈L.map cs,x.length=w/\∀ c∈x,aG c:=λx hx=>by
  obtain⟨l,q1,q2⟩:=EB.mp hx;subst q2;exact⟨by rw[bt];exact(hs l q1).1,(hs l q1).2⟩
 have j8:L.map cs≠[]:=λz=>by have:=congrArg Fy z;simp at this;subst this;simp at h1
 unfold motL;simp only[ER,EL,G4];have d6:∀ k,walk (.sign 93::r) (93::t) k=walk r t (k+1):=λk=>aF (by simp[step,aH,aJ]);rw[aF (st':=motW r) (by rw[bK];simp[bJ])];unfold motW;rw[rY hw (L.map cs) 0 0 _ _ j8 Iq (by rw[Ef];lia) (λz=>absurd z (by lia))];rw[eQ (numL_is ha) (.inl rfl),eQ (numL_is hb) (.inr (.inl rfl)),eQ (numL_is hc) (.inl rfl),eQ (numL_is hd) (.inr (.inr (.inr rfl)))];congr 1;simp only[Eb,Eg,FB];lia
def cx:∀ {p:Pat},p.Syn->∀ (d:Nat) (r:List Wt) (t:List Nat) (k:Nat),p.depth+d<=5->walk (.pat d::r) (p.tl++t) k=walk r t (k+p.tl.length)
 | .mot L a b c e,h,d,r,t,k,_=>AQ h.1 h.2.1 h.2.2.1 h.2.2.2.1 h.2.2.2.2 d r t k
 | .over p q,h,d,r,t,k,hd=>by
  rw[Pat.depth] at hd;have h1:step (.pat d::r) 40=be (.pat (d+1):: .sign 124:: .pat (d+1):: .sign 41::r):=by rw[bK];simp[bJ,show¬ d=5 by lia]
  rw[Pat.tl];simp only[ER,EL,G4];rw[aF h1,cx h.1 (d+1) _ _ _ (by lia),aF (st':= .pat (d+1):: .sign 41::r) (by simp[step,aH,aJ]),cx h.2 (d+1) _ _ _ (by lia),aF (st':=r) (by simp[step,aH,aJ])];congr 1;simp only[Eb,Eg,FB];lia
 | .sh a b p,h,d,r,t,k,hd=>by
  rw[Pat.depth] at hd;have h1:step (.pat d::r) 115=be (.num:: .sign 44:: .num:: .sign 58:: .pat (d+1)::r):=by rw[bK];simp[bJ,show¬ d=5 by lia]
  rw[Pat.tl];simp only[ER,EL];rw[aF h1,eQ (numL_is h.1) (.inl rfl),eQ (numL_is h.2.1) (.inr (.inr (.inl rfl))),cx h.2.2 (d+1) _ _ _ (by lia)];congr 1;simp only[Eb,Eg];lia
 | .mir p,h,d,r,t,k,hd=>by
  rw[Pat.depth] at hd;have h1:step (.pat d::r) 109=be (.pat (d+1)::r):=by rw[bK];simp[bJ,show¬ d=5 by lia]
  rw[Pat.tl,ER,aF h1,cx (p:=p) h (d+1) _ _ _ (by lia),Eb];congr 1;lia
 | .tur p,h,d,r,t,k,hd=>by
  rw[Pat.depth] at hd;have h1:step (.pat d::r) 116=be (.pat (d+1)::r):=by rw[bK];simp[bJ,show¬ d=5 by lia]
  rw[Pat.tl,ER,aF h1,cx (p:=p) h (d+1) _ _ _ (by lia),Eb];congr 1;lia
 | .hue f g p,h,d,r,t,k,hd=>by
  rw[Pat.depth] at hd;have h1:step (.pat d::r) 104=be (.hue:: .hue:: .pat (d+1)::r):=by rw[bK];simp[bJ,show¬ d=5 by lia]
  rw[Pat.tl];simp only[ER,EL];rw[aF h1,se h.1,se h.2.1,cx h.2.2 (d+1) _ _ _ (by lia)];rw[hueL h.1,hueL h.2.1];congr 1;simp only[Eb,Eg,FB];lia
def sf(h:p.Syn)(hd:p.depth<=5):cX p.text=none:=by
 unfold cX;rw[cY];have:=cx h 0 [] [] 0 (by lia);rw[EI] at this;rw[this];rfl
def fQ{x y:y'}(h:cs x=cs y):x=y:=by
 obtain⟨a⟩:=x;obtain⟨b⟩:=y;have:a=b:=G5.mp h;rw[this]
def Pat.lineAt:Pat->Nat->Option Nat
 | .mot _ a b c d,k=>if a*d=b*c then be k else o_
 | .over p q,k=>match p.lineAt (k+1) with
  |some j=>be j
  |none=>q.lineAt (k+1+p.tl.length+1)
 | .sh a b p,k=>p.lineAt (k+1+(numL a).length+1+(numL b).length+1)
 | .mir p,k=>p.lineAt (k+1)
 | .tur p,k=>p.lineAt (k+1)
 | .hue _ _ p,k=>p.lineAt (k+3)
def Pat.line_wf:∀ {p:Pat} (k:Nat),p.Syn->p.lineAt k=o_->p.Wf
 | .mot L a b c d,k,h,e=>by
  refine⟨h.1,h.2.1,h.2.2.1,h.2.2.2.1,h.2.2.2.2,λz=>?_⟩;rw[Pat.lineAt,if_pos z] at e;cases e
 | .over p q,k,h,e=>by
  rw[Pat.lineAt] at e;cases hp:p.lineAt (k+1) with
  |some j=>rw[hp] at e;cases e
  |none=>rw[hp] at e;exact⟨Pat.line_wf _ h.1 hp,Pat.line_wf _ h.2 e⟩
 | .sh a b p,k,h,e=>⟨h.1,h.2.1,Pat.line_wf _ h.2.2 (by rw[Pat.lineAt] at e;exact e)⟩
 | .mir p,k,h,e=>Pat.line_wf (p:=p) (k+1) h (by rw[Pat.lineAt] at e;exact e)
 | .tur p,k,h,e=>Pat.line_wf (p:=p) (k+1) h (by rw[Pat.lineAt] at e;exact e)
 | .hue f g p,k,h,e=>⟨h.1,h.2.1,Pat.line_wf _ h.2.2 (by rw[Pat.lineAt] at e;exact e)⟩
def Pat.wf_line:∀ {p:Pat} (k:Nat),p.Wf->p.lineAt k=o_
 | .mot L a b c d,k,h=>by rw[Pat.lineAt,if_neg h.2.2.2.2.2]
 | .over p q,k,h=>by
  rw[Pat.lineAt,Pat.wf_line (p:=p) _ h.1];exact Pat.wf_line (p:=q) _ h.2
 | .sh a b p,k,h=>by rw[Pat.lineAt];exact Pat.wf_line (p:=p) _ h.2.2
 | .mir p,k,h=>by rw[Pat.lineAt];exact Pat.wf_line (p:=p) _ h
 | .tur p,k,h=>by rw[Pat.lineAt];exact Pat.wf_line (p:=p) _ h
 | .hue f g p,k,h=>by rw[Pat.lineAt];exact Pat.wf_line (p:=p) _ h.2.2
def Pat.syn_len:∀ {p:Pat},p.Syn->p.text.length+10<=110*2 ^ p.depth
 | .mot L a b c d,h=>by
  have:=rW h.1 h.2.1 h.2.2.1 h.2.2.2.1 h.2.2.2.2;show(cG L a b c d).length+10<=110*2 ^ 0;lia
 | .over p q,h=>by
  have h1:=Pat.syn_len h.1;have h2:=Pat.syn_len h.2;have m1:2 ^ p.depth<=2 ^ (max p.depth q.depth):=ET (by decide) (Gp _ _);have m2:2 ^ q.depth<=2 ^ (max p.depth q.depth):=ET (by decide) (Gq _ _);have l1:("(":y').length=1:=rfl;have l2:("|":y').length=1:=rfl;have l3:(")":y').length=1:=rfl;rw[Pat.text,Pat.depth,Gr]
  repeat rw[aC]
  lia
 | .sh a b p,h=>by
  have h1:=Pat.syn_len h.2.2;have la:=bv h.1;have lb:=bv h.2.1;have l1:("s":y').length=1:=rfl;have l2:(",":y').length=1:=rfl;have l3:(":":y').length=1:=rfl;have:0<2 ^ p.depth:=E5 (by decide);rw[Pat.text,Pat.depth,EH]
  repeat rw[aC]
  lia
 | .mir p,h=>by
  have h1:=Pat.syn_len (p:=p) h;have l1:("m":y').length=1:=rfl;have:0<2 ^ p.depth:=E5 (by decide);rw[Pat.text,Pat.depth,EH,aC];lia
 | .tur p,h=>by
  have h1:=Pat.syn_len (p:=p) h;have l1:("t":y').length=1:=rfl;have:0<2 ^ p.depth:=E5 (by decide);rw[Pat.text,Pat.depth,EH,aC];lia
 | .hue f g p,h=>by
  have h1:=Pat.syn_len h.2.2;have la:=cU h.1;have lb:=cU h.2.1;have l1:("h":y').length=1:=rfl;have:0<2 ^ p.depth:=E5 (by decide);rw[Pat.text,Pat.depth,EH]
  repeat rw[aC]
  lia
def Pat.syn_short(h:p.Syn)(hd:p.depth<=5):p.text.length<=3510:=by
 have h1:=Pat.syn_len h;have h2:2 ^ p.depth<=2 ^ 5:=ET (by decide) hd;lia
variable{B:Prop}
def ifT{c A:Prop}[Decidable c](h:c)(a:A):if c then A else B:=by rw[if_pos h];exact a
def ifdT{p A:Prop}[Decidable p](h:p)(a:A):if decide p=true then A else B:=by rw[if_pos (decide_eq_true h)];exact a
def ifdF{p A:Prop}[Decidable p](h:¬ p)(b:B):if decide p=true then A else B:=by rw[if_neg (by simpa using h)];exact b
def rdF(t:y')(k:Nat):List (y' × D):=[("text",.str t),("place",.int k)]
def RdM(a:KF)(t:y')(k:Nat):MS:=[(a,.ins "Reading" (rdF t k))]
variable{o:MO}
def cy{a:KF}:mget [(a,o)] a=be o:=by unfold mget;rw[if_pos rfl]
def eV{a:KF}{o':MO}:mput [(a,o)] a o'=[(a,o')]:=by unfold mput;rw[if_pos rfl]
variable{t:y'}
def aN{a:KF}{k:Nat}:mget (RdM a t k) a=be (.ins "Reading" (rdF t k)):=cy
def jX{k:Nat}:(rdF t k).lookup ("text":y')=be (.str t):=rfl
def cZ{k:Nat}:(rdF t k).lookup ("place":y')=be (.int k):=by
 unfold rdF;rw[Er,show(("place":y')==("text":y'))=false by decide+kernel];rfl
def AR{k:Nat}:putD ("place":y') (.int ((k:Int)+1)) (rdF t k)=rdF t (k+1):=by
 unfold rdF putD;rw[if_neg (by decide+kernel)];unfold putD;rw[if_pos rfl];rfl
def cI{k:Nat}:(rdF t k).lookup ("may_take":y')=none:=by
 unfold rdF;rw[Er,show(("may_take":y')==("text":y'))=false by decide+kernel,Er,show(("may_take":y')==("place":y'))=false by decide+kernel];rfl
def bT{k:Nat}:(rdF t k).lookup ("take":y')=none:=by
 unfold rdF;rw[Er,show(("take":y')==("text":y'))=false by decide+kernel,Er,show(("take":y')==("place":y'))=false by decide+kernel];rfl
structure At(t:Str)(k:Nat)(l:List Nat):Prop where
 eq:(cs t).drop k=l
 le:k<=t.length
 sz:t.length<=100000
def At.nil{k:Nat}(h:At t k []):k=t.length:=by
 have h1:=congrArg Fy h.eq;rw[FA,bt] at h1;have:=h.le;simp at h1;lia
def At.lt{k c:Nat}(h:At t k (c::l)):k<t.length:=by
 have h1:=congrArg Fy h.eq;rw[FA,bt] at h1;simp at h1;lia
def At.get{k c:Nat}(h:At t k (c::l)):(cs t)[k]?=be c:=by
 have h1:=congrArg (·[0]?) h.eq;simpa using h1
def At.next{k c:Nat}(h:At t k (c::l)):At t (k+1) l:=by
 refine⟨?_,h.lt,h.sz⟩;have h1:=congrArg (Ge 1) h.eq;rw[List.drop_drop] at h1;simpa using h1
def At.app{t:y'}:∀ {x l:List Nat} {k:Nat},At t k (x++l)->At t (k+x.length) l
 |[],_,_,h=>h
 |c::x,l,k,h=>by
  have h1:At t (k+1+x.length) l:=At.app (At.next h);have e:k+1+x.length=k+(c::x).length:=by rw[Eb];lia
  rw[e] at h1;exact h1
variable{al:y'}
def si{c:Nat}:(!(!(Builtin.Str.occurrences al ⟨#[c]⟩ 0 al.length 1).isEmpty))=!decide (c∈cs al):=by
 rw[StrLaws.found_one]
def mayS(al:y'):List Nat->y'|c::_=>if c∈cs al then⟨#[c]⟩ else ""|[]=>""
def mayN(al:y'):List Nat->Nat|c::_=>if c∈cs al then 1 else 0|[]=>0
def dI{c:Nat}(h:c∈cs al):mayS al (c::l)=⟨#[c]⟩:=if_pos h
def dJ{c:Nat}(h:c∈cs al):mayN al (c::l)=1:=if_pos h
def db{c:Nat}(h:c ∉ cs al):mayS al (c::l)="":=if_neg h
def de{c:Nat}(h:c ∉ cs al):mayN al (c::l)=0:=if_neg h
def AS:SiD:=λds R=>∃ t:y',ds=[.str t]/\R (rdF t 0)
def AT:SpM:=λds M R RX=>∃ (a:KF) (t:y') (k:Nat) (l:List Nat) (al:y'),ds=[.ptr a,.str al]/\M=RdM a t k/\At t k l/\R (.str (mayS al l)) (RdM a t (k+mayN al l))
def AU:SpM:=λds M R RX=>∃ (a:KF) (t:y') (k:Nat) (l:List Nat) (al:y'),ds=[.ptr a,.str al]/\M=RdM a t k/\At t k l/\
 (∀ c l',l=c::l'->c∈cs al->R (.str ⟨#[c]⟩) (RdM a t (k+1)))/\((∀ c l',l=c::l'->c ∉ cs al)->∀ M',RX "WrongSign" [("place",.int k)] M')
def walk_bad{k:Nat}(h1:st≠[])(h:∀ c l',l=c::l'->step st c=o_):walk st l k=be k:=by
 cases l with
 |nil=>rw[walk,if_neg h1]
 |cons c l=>rw[walk,h c l rfl]
def dL{e:Nat}{k:Nat}(h:∀ l',l≠e::l'):walk (.sign e::r) l k=be k:=
 walk_bad (λz=>nomatch z) λc l' q=>by
  have:c≠e:=λz=>h l' (z ▸ q);simp[step,aH,aJ,this]
def dM{e:Nat}{k:Nat}:walk (.sign e::r) (e::l) k=walk r l (k+1):=aF (by simp[step,aH,aJ])
def AV{e:Nat}{k:Nat}(h:∀ d l',l=d::l'->¬ (48<=d/\d<=50)):walk (.more:: .sign e::r) l k=walk (.sign e::r) l k:=by
 cases l with
 |nil=>simp[walk]
 |cons d l=>
  have:step (.more:: .sign e::r) d=step (.sign e::r) d:=by simp[step,aH,h d l rfl]
  rw[walk,walk,this]
variable{pre:List Nat}
def AW(hp:pre=[]\/pre=[45]){c:Nat}(hc:49<=c/\c<=57){x l3:List Nat}(hx:(c=49/\∃ d,(48<=d/\d<=50)/\x=[d])\/(x=[]/\(c=49->∀ d l',l3=d::l'->¬ (48<=d/\d<=50))))(k e:Nat)(r:List Wt)(hl:l=pre++c::(x++l3)):
  walk (.num:: .sign e::r) l k=walk (.sign e::r) l3 (k+(pre++c::x).length):=by
 subst hl;have fig:∀ k,walk (.fig:: .sign e::r) (c::(x++l3)) k=walk (.sign e::r) l3 (k+(c::x).length):=λk=>by
  rcases hx with⟨rfl,d,hd,rfl⟩|⟨rfl,h⟩
  .rw[aF (st':= .more:: .sign e::r) (by simp[step,aH,aJ])];show walk _ (d::l3) _=_;rw[aF (st':= .sign e::r) (by simp[step,aH,aJ,hd])];rfl
  .by_cases e1:c=49
   .subst e1;rw[aF (st':= .more:: .sign e::r) (by simp[step,aH,aJ])];show walk _ l3 _=_;rw[AV (h rfl)];rfl
   .rw[aF (st':= .sign e::r) (by simp[step,aH,aJ,e1,show 50<=c/\c<=57 by lia])];rfl
 rcases hp with rfl|rfl
 .have Q6:step (.num:: .sign e::r) c=step (.fig:: .sign e::r) c:=by
   by_cases e1:c=49
   .subst e1;simp[step,aH,aJ]
   .simp[step,aH,aJ,e1,show¬ c=45 by lia,show 48<=c/\c<=57 by lia,show 50<=c/\c<=57 by lia]
  have:=fig k;rw[walk] at this;show walk _ (c::(x++l3)) k=_;rw[walk,Q6,this];simp
 .show walk _ (45::c::(x++l3)) k=_;rw[aF (st':= .fig:: .sign e::r) (by simp[step,aH,aJ]),fig];congr 1;simp only[Eg,Eb,FB];lia
def AX(hp:pre=[]\/pre=[45]){l1:List Nat}(hl:l=pre++l1)(h:∀ c l',l1=c::l'->¬ (49<=c/\c<=57))(h0:pre=[]->∀ c l',l1=c::l'->c≠48/\c≠45)(k:Nat)(r:List Wt):walk (.num::r) l k=be (k+pre.length):=by
 subst hl;rcases hp with rfl|rfl
 .refine walk_bad (λz=>nomatch z) λc l' q=>?_;have h1:=h c l' q;have h2:=h0 rfl c l' q;simp[step,aH,aJ,h2.2,show¬ c=49 by lia,show¬ (48<=c/\c<=57) by lia]
 .show walk _ (45::l1) k=_;rw[aF (st':= .fig::r) (by simp[step,aH,aJ])];refine walk_bad (λz=>nomatch z) λc l' q=>?_;have h1:=h c l' q;simp[step,aH,aJ,show¬ c=49 by lia,show¬ (50<=c/\c<=57) by lia]
def jY(h:B12 x):PySem.intText? ⟨(numL x).toArray⟩=be x:=
 rX (P:=λx=>PySem.intText? ⟨(numL x).toArray⟩=be x) h (by decide+kernel)
def eX(x y:List Nat):((⟨x.toArray⟩:y')++⟨y.toArray⟩:y')=⟨(x++y).toArray⟩:=by
 apply fQ;rw[bG]
def digits19{c:Nat}:c∈cs "123456789"↔49<=c/\c<=57:=by
 have e:cs "123456789"=[49,50,51,52,53,54,55,56,57]:=rfl;rw[e];simp;lia
def digits02{c:Nat}:c∈cs "012"↔48<=c/\c<=50:=by
 have e:cs "012"=[48,49,50]:=rfl;rw[e];simp;lia
def AY(w:List Nat)(c:Nat):Txt.endswith ⟨(w++[c]).toArray⟩ "1"=decide (c=49):=by
 unfold Txt.endswith;have e1:("1":y').length=1:=rfl;have e2:(⟨(w++[c]).toArray⟩:y').length=w.length+1:=by simp[Str.length]
 rw[e1,e2];have e3:decide (0+1<=w.length+1)=true:=by simp
 rw[e3,Bool.true_and,G3];unfold Builtin.Str.subAt;have e4:(⟨(w++[c]).toArray⟩:y').cps.extract w.length (w.length+("1":y').length)=#[c]:=by
  apply G5.mp;simp[Array.toList_extract,e1]
 rw[e4];have e5:("1":y').cps=#[49]:=rfl;rw[e5];by_cases h:c=49
 .subst h;rfl
 .simp[h]
def AZ:SpM:=λds M R RX=>∃ (a:KF) (t:y') (k:Nat) (l:List Nat),ds=[.ptr a]/\M=RdM a t k/\At t k l/\
 (∀ x l',B12 x->l=numL x++l'->(∀ e r,walk (.num:: .sign e::r) l k=walk (.sign e::r) l' (k+(numL x).length))->R (.int x) (RdM a t (k+(numL x).length)))/\
 (∀ j:Nat,(∀ r,walk (.num::r) l k=be j)->∀ M',RX "WrongSign" [("place",.int j)] M')
def A1:SpM:=λds M R RX=>∃ (a:KF) (t:y') (k:Nat) (l:List Nat),ds=[.ptr a]/\M=RdM a t k/\At t k l/\
 (∀ x y l',B12 x->B12 y->l=numL x++44::(numL y++l')->(∀ e r,walk (.num:: .sign 44:: .num:: .sign e::r) l k=walk (.sign e::r) l' (k+(numL x).length+1+(numL y).length))->R (.tup [.int x,.int y]) (RdM a t (k+(numL x).length+1+(numL y).length)))/\
 (∀ j:Nat,(∀ r,walk (.num:: .sign 44:: .num::r) l k=be j)->∀ M',RX "WrongSign" [("place",.int j)] M')
def sgPre:Nat->List Nat->List Nat
 |0,_=>[]
 |_+1,[]=>[]
 |n+1,c::l=>if isSg c=true then c::sgPre n l else[]
def eY(n c:Nat)(l:List Nat):sgPre (n+1) (c::l)=if isSg c=true then c::sgPre n l else[]:=rfl
def sgPre_succ:∀ (n:Nat) (l:List Nat),(∃ c l',l=sgPre n l++c::l'/\(sgPre n l).length=n/\isSg c=true/\sgPre (n+1) l=sgPre n l++[c])\/(∃ l',l=sgPre n l++l'/\(∀ c Lw,l'=c::Lw->isSg c=false)/\∀ m,n<=m->sgPre m l=sgPre n l)
 |0,[]=> .inr ⟨[],rfl,(λ_ _ q=>nomatch q),λm _=>by cases m<;>rfl⟩
 |0,c::l=>by
  by_cases h:isSg c=true
  .exact .inl ⟨c,l,rfl,rfl,h,by rw[eY,if_pos h];rfl⟩
  .refine .inr ⟨c::l,rfl,λ_ _ q=>?_,λm _=>?_⟩
   .cases q;simpa using h
   .cases m with
    |zero=>rfl
    |succ m=>rw[eY,if_neg h];rfl
 |n+1,[]=> .inr ⟨[],rfl,(λ_ _ q=>nomatch q),λm _=>by cases m<;>rfl⟩
 |n+1,c::l=>by
  by_cases h:isSg c=true
  .have e:∀ m,sgPre (m+1) (c::l)=c::sgPre m l:=λm=>by rw[eY,if_pos h]
   rcases sgPre_succ n l with⟨d,l',h1,h2,h3,h4⟩|⟨l',h1,h2,h3⟩
   .refine .inl ⟨d,l',?_,by rw[e,Eb,h2],h3,by rw[e,e,h4];rfl⟩;rw[e];exact congrArg (c::·) h1
   .refine .inr ⟨l',?_,h2,λm hm=>?_⟩
    .rw[e];exact congrArg (c::·) h1
    .cases m with
     |zero=>lia
     |succ m=>rw[e,e,h3 m (by lia)]
  .refine .inr ⟨c::l,?_,λ_ _ q=>?_,λm hm=>?_⟩
   .rw[eY,if_neg h];rfl
   .cases q;simpa using h
   .cases m with
    |zero=>lia
    |succ m=>rw[eY,if_neg h,eY,if_neg h]
def gQ:∀ (n:Nat) (l:List Nat),(sgPre n l).length<=n
 |0,_=>D7 _
 |n+1,[]=>EA _
 |n+1,c::l=>by
  rw[sgPre];split
  .rw[Eb];exact Nat.succ_le_succ (gQ n l)
  .exact EA _
def sgPre_sign:∀ (n:Nat) (l:List Nat),∀ c∈sgPre n l,aG c
 |0,_,_,h=>by cases h
 |n+1,[],_,h=>by cases h
 |n+1,c::l,d,h=>by
  rw[sgPre] at h;split at h
  .rename_i q;rcases Ea.mp h with e|e
   .rw[e];exact isSign_of q
   .exact sgPre_sign n l d e
  .cases h
def sgPre_split(n:Nat)(l:List Nat):∃ l',l=sgPre n l++l'/\((sgPre n l).length=n\/∀ c Lw,l'=c::Lw->isSg c=false):=by
 rcases sgPre_succ n l with⟨d,l',h1,h2,h3,h4⟩|⟨l',h1,h2,h3⟩
 .exact⟨d::l',h1,.inl h2⟩
 .exact⟨l',h1,.inr h2⟩
def signs_is{c:Nat}:c∈cs ".123456"↔isSg c=true:=by
 have e:cs ".123456"=[46,49,50,51,52,53,54]:=rfl;rw[e];simp;lia
def dN(x:List Nat):(⟨x.toArray⟩:y').length=x.length:=by simp[Str.length]
def A2:SpM:=λds M R RX=>∃ (a:KF) (t:y') (k:Nat) (l:List Nat) (n m:Nat),ds=[.ptr a,.int n,.int m]/\M=RdM a t k/\At t k l/\n<=m/\m<=8/\
 (n<=(sgPre m l).length->R (.str ⟨(sgPre m l).toArray⟩) (RdM a t (k+(sgPre m l).length)))/\((sgPre m l).length<n->∀ M',RX "WrongSign" [("place",.int ((k+(sgPre m l).length:Nat):Int))] M')
def A3{p a:KF}{k:Nat}(h:p≠a):mget ((p,o)::RdM a t k) a=be (.ins "Reading" (rdF t k)):=by
 unfold mget;rw[if_neg h];exact cy
variable{M:MS}
def cJ{p:KF}:mget ((p,o)::M) p=be o:=by unfold mget;rw[if_pos rfl]
def sj{p:KF}{o':MO}:mput ((p,o)::M) p o'=(p,o')::M:=by unfold mput;rw[if_pos rfl]
def jZ{p:KF}:mdel ((p,o)::M) p=M:=by unfold mdel;rw[if_pos rfl]
structure RowsL(L:List (List Nat))(w:Nat):Prop where
 many:1<=L.length/\L.length<=8
 w1:1<=w
 w8:w<=8
 each:∀ x∈L,x.length=w/\∀ c∈x,aG c
def gR:∀ (L:List (List Nat)) (x:List Nat),L≠[]->rowsL (L++[x])=rowsL L++47::x
 |[],_,h=>absurd rfl h
 |[y],x,_=>rfl
 |y::z::L,x,_=>by
  show y++47::rowsL ((z::L)++[x])=(y++47::rowsL (z::L))++47::x;rw[gR (z::L) x (λq=>nomatch q)];simp
structure LinAt(w h n:Nat)(l:List Nat):Prop where
 h1:1<=h
 n1:1<=n
 one:n=1->h=8\/∀ c l',l=c::l'->isSg c=false
 more:2<=n->w=h
def A5{w h:Nat}(H:LinAt w h n l)(hn:n<=8)(stop:n=8\/∀ l',l≠47::l')(r:List Wt)(p:Nat):walk (.lin w h (n - 1)::r) l p=walk (.sign 59::r) l p:=by
 cases l with
 |nil=>simp[walk]
 |cons c l=>
  have key:step (.lin w h (n - 1)::r) c=step (.sign 59::r) c:=by
   rw[dH];unfold cH;have Ow:step (.sign 59::r) c=if c=59 then be r else none:=by simp[step,aH,aJ]
   rw[Ow];have h1:=H.h1;by_cases hs:isSg c=true
   .rw[if_pos hs];have nc:¬ c=59:=by rintro rfl;cases hs
    rw[if_neg nc];refine if_neg ?_;by_cases n1:n=1
    .rcases H.one n1 with e|e
     .subst n1;simp;lia
     .rw[e c l rfl] at hs;cases hs
    .have M7:=H.n1;have:=H.more (by lia);rw[if_pos (by lia)];lia
   .rw[if_neg hs];have g:¬ (h=0\/(0<n - 1/\h<w)):=by
     have M7:=H.n1;rintro(z|⟨z1,z2⟩)
     .lia
     .have:=H.more (by lia);lia
    rw[if_neg g];by_cases M8:c=47
    .subst M8;rw[if_pos rfl,if_neg (c:=47=59) (by decide)];refine if_neg ?_;rcases stop with e|e
     .lia
     .exact absurd rfl (e l)
    .rw[if_neg M8]
  rw[walk,walk,key]
def sk{w h:Nat}(H:LinAt w h n (47::l))(hn:n<8)(r:List Wt)(p:Nat):walk (.lin w h (n - 1)::r) (47::l) p=walk (.lin h 0 n::r) l (p+1):=by
 refine aF ?_;rw[dH];unfold cH;have h1:=H.h1;have M7:=H.n1;have ns:isSg 47=false:=rfl;rw[ns,if_neg Ej,if_neg (by
  rintro(z|⟨z1,z2⟩)
  .lia
  .have:=H.more (by lia);lia),if_pos rfl,if_pos (by lia)]
 congr 3;lia
def so{w:Nat}{x:List Nat}(hs:∀ c∈x,aG c)(hx:x.length<w)(hw:w<=8)(hn:n=0->x=[])(hl:∀ c l',l=c::l'->isSg c=false)(r:List Wt)(p:Nat):walk (.lin w 0 n::r) (x++l) p=be (p+x.length):=by
 rw[eU x 0 l p hs (by split<;>lia)];refine walk_bad (λz=>nomatch z) λc l' q=>?_;rw[dH];unfold cH;rw[hl c l' q,if_neg Ej];refine if_pos ?_;by_cases n0:n=0
 .left;rw[hn n0];rfl
 .right;exact⟨by lia,by lia⟩
def lstD(L:List (List Nat)):List D:=L.map λx=>D.str ⟨x.toArray⟩
def A6:SpM:=λds M R RX=>∃ (a:KF) (t:y') (k:Nat) (l:List Nat),ds=[.ptr a]/\M=RdM a t k/\At t k l/\
 (∀ (L:List (List Nat)) (w:Nat) l',RowsL L w->l=rowsL L++l'->(∀ r,walk (.lin 0 0 0::r) l k=walk (.sign 59::r) l' (k+(rowsL L).length))->R (.lst (lstD L)) (RdM a t (k+(rowsL L).length)))/\
 (∀ j:Nat,(∀ r,walk (.lin 0 0 0::r) l k=be j)->∀ M',RX "WrongSign" [("place",.int j)] M')
def hmX(w h s:Int)(i j:Int):Int:=(i - j / h*s) % w
def hRow(w h s:Int)(j:Nat):Nat->List Nat->List ((Int × Int) × Int)->List ((Int × Int) × Int)
 |_,[],kv=>kv
 |i,c::r,kv=>hRow w h s j (i+1) r (if c=46 then kv else sdD kv (hmX w h s i j) ((j:Int) % h) ((c:Int) - 48))
def hAll(w h s:Int):Nat->List (List Nat)->List ((Int × Int) × Int)->List ((Int × Int) × Int)
 |_,[],kv=>kv
 |j,x::r,kv=>hAll w h s (j+1) r (hRow w h s j 0 x kv)
def sq(kv:List ((Int × Int) × Int))(x y v:Int):(sdD kv x y v).length<=kv.length+1:=by
 unfold sdD;split
 .lia
 .rw[Eg];simp
def A7{c:Nat}(h:49<=c/\c<=54):∃ i rest,Builtin.Str.occurrences ".123456" ⟨#[c]⟩ 0 (".123456":y').length 1=i::rest/\((i:Nat):Int)=(c:Int) - 48:=by
 rcases(by lia:c=49\/c=50\/c=51\/c=52\/c=53\/c=54) with e|e|e|e|e|e<;>subst e
 .exact⟨1,[],by decide+kernel,by decide⟩
 .exact⟨2,[],by decide+kernel,by decide⟩
 .exact⟨3,[],by decide+kernel,by decide⟩
 .exact⟨4,[],by decide+kernel,by decide⟩
 .exact⟨5,[],by decide+kernel,by decide⟩
 .exact⟨6,[],by decide+kernel,by decide⟩
def A8{x:List Nat}(h:∀ c∈x,aG c):(⟨x.toArray⟩:y').cps.all (·<128)=true:=by
 rw[<- GQ,Fo];intro c hc;have:=h c hc;unfold aG at this;simp;lia
def A9{L:List (List Nat)}{j:Nat}{d:D}(h:(lstD L)[j]?=be d):∃ x,L[j]?=be x/\d= .str ⟨x.toArray⟩:=by
 unfold lstD at h;rw[Eo] at h;cases e:L[j]? with
 |none=>rw[e] at h;cases h
 |some x=>rw[e] at h;cases h;exact⟨x,rfl,rfl⟩
def Ba{x:List Nat}{i:Nat}{d:D}(h:(bR ⟨x.toArray⟩)[i]?=be d):∃ c,x[i]?=be c/\d= .str ⟨#[c]⟩:=by
 unfold bR at h;rw[Eo] at h;cases e:x[i]? with
 |none=>simp[e] at h
 |some c=>simp[e] at h;exact⟨c,rfl,h.symm⟩
def sr{α:Type}{l:List α}{i:Nat}{x:α}(h:l[i]?=be x):l.drop i=x::l.drop (i+1):=by
 have hi:i<l.length:=(Em.mp h).1;rw[Fw hi];congr 1;rw[Es hi] at h;exact Option.some.inj h
def Bb:SpM:=λds M R RX=>∃ (L:List (List Nat)) (wd:Nat) (w h s:Int),ds=[.lst (lstD L),.tup [.int w,.int h,.int s]]/\RowsL L wd/\0<w/\0<h/\h<1073741824/\0<=s/\s<1073741824/\R (.dti (hAll w h s 0 L [])) M
def moF(k:Nat)(sh:D)(hu:List ((Int × Int) × Int)):List (y' × D):=[("place",.int k),("shifts",sh),("hues",.dti hu)]
def Bc:SiD:=λds R=>∃ (k:Nat) (L:List (List Nat)) (wd:Nat) (a b c d:Int),ds=[.int k,.lst (lstD L),.tup [.int a,.int b],.tup [.int c,.int d]]/\RowsL L wd/\B12 a/\B12 b/\B12 c/\B12 d/\
 (a*d=b*c->R (moF k .non []))/\(¬ a*d=b*c->∀ w h s,FamOf a b c d w h s->R (moF k (.tup [.int w,.int h,.int s]) (hAll w h s 0 L [])))
def Bd{v:D}:putD ("place":y') v []=([("place",v)]:List (y' × D)):=rfl
def ss{u v:D}:putD ("shifts":y') v [("place",u)]=([("place",u),("shifts",v)]:List (y' × D)):=by
 unfold putD;rw[if_neg (by decide+kernel)];rfl
def su{t u v:D}:putD ("hues":y') v [("place",t),("shifts",u)]=([("place",t),("shifts",u),("hues",v)]:List (y' × D)):=by
 unfold putD;rw[if_neg (by decide+kernel)];unfold putD;rw[if_neg (by decide+kernel)];rfl
def kd{u v:D}:([("place",u),("shifts",v)]:List (y' × D)).lookup ("shifts":y')=be v:=by
 rw[Er,show(("shifts":y')==("place":y'))=false by decide+kernel];rfl
def Be:SiD:=λds R=>∃ (x y:y') (fs gs:List (y' × D)),ds=[.obj x fs,.obj y gs]/\R [("above",.obj x fs),("below",.obj y gs)]
def Bf:SiD:=λds R=>∃ (x:y') (fs:List (y' × D)) (a b:Int),ds=[.obj x fs,.int a,.int b]/\R [("form",.obj x fs),("x",.int a),("y",.int b)]
def Bg:SiD:=λds R=>∃ (x:y') (fs:List (y' × D)),ds=[.obj x fs]/\R [("form",.obj x fs)]
def Bh:SiD:=λds R=>∃ (x:y') (fs:List (y' × D)),ds=[.obj x fs]/\R [("form",.obj x fs)]
def Bi:SiD:=λds R=>∃ (x:y') (fs:List (y' × D)) (a b:Int),ds=[.obj x fs,.int a,.int b]/\R [("form",.obj x fs),("old",.int a),("new",.int b)]
def FormOf:Pat->Nat->D->Prop
 | .mot L a b c d,k,v=>∃ sh hu,v= .obj "Motif" (moF k sh hu)/\(a*d=b*c->sh= .non)/\(¬ a*d=b*c->∃ w h s,FamOf a b c d w h s/\sh= .tup [.int w,.int h,.int s]/\hu=hAll w h s 0 (L.map cs) [])
 | .over p q,k,v=>∃ u u',v= .obj "Over" [("above",u),("below",u')]/\FormOf p (k+1) u/\FormOf q (k+1+p.tl.length+1) u'
 | .sh a b p,k,v=>∃ u,v= .obj "Shifted" [("form",u),("x",.int a),("y",.int b)]/\FormOf p (k+1+(numL a).length+1+(numL b).length+1) u
 | .mir p,k,v=>∃ u,v= .obj "Mirror" [("form",u)]/\FormOf p (k+1) u
 | .tur p,k,v=>∃ u,v= .obj "Turn" [("form",u)]/\FormOf p (k+1) u
 | .hue f g p,k,v=>∃ u,v= .obj "Rehue" [("form",u),("old",.int f),("new",.int g)]/\FormOf p (k+3) u
def Pat.cls:Pat->y'
 | .mot ..=>"Motif"| .over ..=>"Over"| .sh ..=>"Shifted"| .mir ..=>"Mirror"| .tur ..=>"Turn"| .hue ..=>"Rehue"
def FormOf.nl:∀ {k:Nat} {v:D},FormOf p k v->noL v=true:=by
 induction p with
 |mot L a b c d=>
  intro k v h;obtain⟨sh,hu,rfl,h1,h2⟩:=h;have hs:noL sh=true:=by
   by_cases e:a*d=b*c
   .rw[h1 e];rfl
   .obtain⟨w,h,s,_,rfl,_⟩:=h2 e;rfl
  simp[noL,noLF,moF,hs]
 |over p q i j=>
  intro k v h;obtain⟨u,u',rfl,h1,h2⟩:=h;simp[noL,noLF,i h1,j h2]
 |sh a b p i=>
  intro k v h;obtain⟨u,rfl,h1⟩:=h;simp[noL,noLF,i h1]
 |mir p i=>
  intro k v h;obtain⟨u,rfl,h1⟩:=h;simp[noL,noLF,i h1]
 |tur p i=>
  intro k v h;obtain⟨u,rfl,h1⟩:=h;simp[noL,noLF,i h1]
 |hue f g p i=>
  intro k v h;obtain⟨u,rfl,h1⟩:=h;simp[noL,noLF,i h1]
def FormOf.obj{k:Nat}{v:D}(h:FormOf p k v):∃ fs,v= .obj p.cls fs:=by
 cases p with
 |mot L a b c d=>obtain⟨sh,hu,rfl,_⟩:=h;exact⟨_,rfl⟩
 |over p q=>obtain⟨_,_,rfl,_⟩:=h;exact⟨_,rfl⟩
 |sh a b p=>obtain⟨_,rfl,_⟩:=h;exact⟨_,rfl⟩
 |mir p=>obtain⟨_,rfl,_⟩:=h;exact⟨_,rfl⟩
 |tur p=>obtain⟨_,rfl,_⟩:=h;exact⟨_,rfl⟩
 |hue f g p=>obtain⟨_,rfl,_⟩:=h;exact⟨_,rfl⟩
def Bj{L:List (List Nat)}{w:Nat}(h:RowsL L w):Rows (L.map λx=>(⟨x.toArray⟩:y'))/\(L.map λx=>(⟨x.toArray⟩:y')).map cs=L:=by
 refine⟨⟨by rw[Ef];exact h.many,w,⟨h.w1,h.w8⟩,λl hl=>?_⟩,?_⟩
 .obtain⟨x,hx,rfl⟩:=EB.mp hl;obtain⟨h1,h2⟩:=h.each x hx;exact⟨by rw[dN];exact h1,h2⟩
 .rw[Fu];simp[Function.comp_def,cs]
def Bk:SpM:=λds M R RX=>∃ (a:KF) (t:y') (k:Nat) (l:List Nat),ds=[.ptr a]/\M=RdM a t k/\At t k l/\
 (∀ p l',p.Syn->p.depth=0->l=p.tl++l'->∀ v,FormOf p k v->R v (RdM a t (k+p.tl.length)))/\
 (∀ j:Nat,(∀ r,walk (.pat 5::r) l k=be j)->∀ M',RX "WrongSign" [("place",.int j)] M')
def Bl{d:Nat}{k:Nat}(h:d=5\/∀ c l',l=c::l'->c ∉ cs "(smth"):walk (.pat d::r) l k=walk (.pat 5::r) l k:=by
 rcases h with rfl|h
 .rfl
 .cases l with
  |nil=>simp[walk]
  |cons c l=>
   have hc:=h c l rfl;have e:cs "(smth"=[40,115,109,116,104]:=rfl;rw[e] at hc;simp only[Ea,E6,or_false,not_or] at hc;have:step (.pat d::r) c=step (.pat 5::r) c:=by
    rw[bK,bK];unfold bJ;by_cases Kg:c=91
    .rw[if_pos Kg,if_pos Kg]
    .rw[if_neg Kg,if_neg Kg,if_pos rfl];split
     .rfl
     .rw[if_neg hc.1,if_neg hc.2.1,if_neg hc.2.2.2.2,if_neg (by rintro(z|z);exact hc.2.2.1 z;exact hc.2.2.2.1 z)]
   rw[walk,walk,this]
def hue_dig{c:Nat}:c∈cs "123456"↔49<=c/\c<=54:=by
 have e:cs "123456"=[49,50,51,52,53,54]:=rfl;rw[e];simp;lia
def gS{c:Nat}(h:49<=c/\c<=54):numL ((c:Int) - 48)=[c]:=by
 rw[hueL (by lia)];congr 1;lia
def ke{c:Nat}(h:49<=c/\c<=54){k:Nat}:walk (.hue::r) (c::l) k=walk r l (k+1):=aF (by simp[step,aH,aJ,h])
def sy{k:Nat}(h:∀ c l',l=c::l'->c ∉ cs "123456"):walk (.hue::r) l k=be k:=
 walk_bad (λz=>nomatch z) λc l' q=>by
  have:=λz=>h c l' q (hue_dig.mpr z);simp only[step,aH,aJ];exact if_neg this
def df(j:Nat):SpM:=λds M R RX=>∃ (a:KF) (t:y') (k:Nat) (l:List Nat) (d:Nat),ds=[.ptr a,.int d]/\M=RdM a t k/\At t k l/\d+j=6/\1<=j/\
 (∀ p l',p.Syn->p.depth+d<=5->l=p.tl++l'->∀ v,FormOf p k v->R v (RdM a t (k+p.tl.length)))/\(∀ i:Nat,(∀ r,walk (.pat d::r) l k=be i)->∀ M',RX "WrongSign" [("place",.int i)] M')
variable{R:D->MS->Prop}{ds:List D}{RX:XDM}
def Bm:¬ df 0 ds M R RX:=by
 rintro⟨_,_,_,_,_,_,_,_,_,h,_⟩;exact absurd h (by decide)
def sA(j:Nat):SpM:=λds M R RX=>∃ (a:KF) (t:y') (k:Nat) (l:List Nat) (d:Nat),ds=[.ptr a,.int d]/\M=RdM a t k/\At t k l/\d+j=6/\1<=j/\
 (∀ p q l',p.Syn->q.Syn->p.depth+d<=5->q.depth+d<=5->l=p.tl++124::(q.tl++41::l')->∀ u u',FormOf p k u->FormOf q (k+p.tl.length+1) u'->R (.obj "Over" [("above",u),("below",u')]) (RdM a t (k+p.tl.length+1+q.tl.length+1)))/\
 (∀ i:Nat,(∀ r,walk (.pat d:: .sign 124:: .pat d:: .sign 41::r) l k=be i)->∀ M',RX "WrongSign" [("place",.int i)] M')
def sB(j:Nat):SpM:=λds M R RX=>∃ (a:KF) (t:y') (k:Nat) (l:List Nat) (d:Nat),ds=[.ptr a,.int d]/\M=RdM a t k/\At t k l/\d+j=6/\1<=j/\
 (∀ x y p l',B12 x->B12 y->p.Syn->p.depth+d<=5->l=numL x++44::(numL y++58::(p.tl++l'))->∀ u,FormOf p (k+(numL x).length+1+(numL y).length+1) u->R (.obj "Shifted" [("form",u),("x",.int x),("y",.int y)]) (RdM a t (k+(numL x).length+1+(numL y).length+1+p.tl.length)))/\
 (∀ i:Nat,(∀ r,walk (.num:: .sign 44:: .num:: .sign 58:: .pat d::r) l k=be i)->∀ M',RX "WrongSign" [("place",.int i)] M')
def sC(j:Nat):SpM:=λds M R RX=>∃ (a:KF) (t:y') (k:Nat) (l:List Nat) (d:Nat),ds=[.ptr a,.int d]/\M=RdM a t k/\At t k l/\d+j=6/\1<=j/\
 (∀ c e p l',(49<=c/\c<=54)->(49<=e/\e<=54)->p.Syn->p.depth+d<=5->l=c::e::(p.tl++l')->∀ u,FormOf p (k+2) u->R (.obj "Rehue" [("form",u),("old",.int ((c:Int) - 48)),("new",.int ((e:Int) - 48))]) (RdM a t (k+2+p.tl.length)))/\
 (∀ i:Nat,(∀ r,walk (.hue:: .hue:: .pat d::r) l k=be i)->∀ M',RX "WrongSign" [("place",.int i)] M')
def Pat.Area(p:Pat)(N:Int):Prop:=∃ w h s,p.Fam w h s/\w*h<=N
def Pat.Fits.wide(h:p.Fits):p.Area 33554432:=by
 obtain⟨w,k,s,f,b⟩:=h;exact⟨w,k,s,f,by lia⟩
def Pat.Area.small{N:Int}(h:p.Area N){k:Int}(f:p.Fam w k s):0<w/\w<=N/\0<k/\k<=N/\0<=s/\s<w:=by
 obtain⟨w',k',s',f',hb⟩:=h;obtain⟨rfl,rfl,rfl⟩:=f.uniq f';obtain⟨h1,h2⟩:=cF f.f.w0 f.f.h0;exact⟨f.f.w0,by lia,f.f.h0,by lia,f.f.s0,f.f.sw⟩
def Pat.Area.tur{N:Int}(h:p.Area N):(Pat.tur p).Area N:=by
 obtain⟨w,k,s,f,b⟩:=h;obtain⟨w2,h2,s2,g,e⟩:=fP (s:=s) f.f.w0 f.f.h0;exact⟨_,_,_,f.tur g,by lia⟩
def Pat.Cal:Pat->Prop
 | .mot ..=>True
 | .over p q=>p.Cal/\q.Cal/\(p.Wf->q.Wf->p.Area 33554432/\q.Area 33554432)
 | .sh _ _ p=>p.Cal
 | .mir p=>p.Cal
 | .tur p=>p.Cal/\(p.Wf->p.Area 33554432)
 | .hue _ _ p=>p.Cal
def Pat.cls_mem(p:Pat):p.cls∈(["Motif","Over","Shifted","Mirror","Turn","Rehue"]:List y'):=by
 cases p<;>simp[Pat.cls]
def no_look{f g:y'}{v:D}{r:List (y' × D)}(h:(f==g)=false)(hr:r.lookup f=o_):(((g,v)::r:List (y' × D))).lookup f=none:=by
 rw[Er,h];exact hr
def FormOf.objm{k:Nat}{v:D}(h:FormOf p k v):∃ fs,v= .obj p.cls fs/\fs.lookup ("family":y')=o_/\fs.lookup ("shows":y')=none:=by
 cases p with
 |mot L a b c d=>obtain⟨sh,hu,rfl,_⟩:=h;exact⟨_,rfl,no_look (by decide+kernel) (no_look (by decide+kernel) (no_look (by decide+kernel) rfl)),no_look (by decide+kernel) (no_look (by decide+kernel) (no_look (by decide+kernel) rfl))⟩
 |over p q=>obtain⟨_,_,rfl,_⟩:=h;exact⟨_,rfl,no_look (by decide+kernel) (no_look (by decide+kernel) rfl),no_look (by decide+kernel) (no_look (by decide+kernel) rfl)⟩
 |sh a b p=>obtain⟨_,rfl,_⟩:=h;exact⟨_,rfl,no_look (by decide+kernel) (no_look (by decide+kernel) (no_look (by decide+kernel) rfl)),no_look (by decide+kernel) (no_look (by decide+kernel) (no_look (by decide+kernel) rfl))⟩
 |mir p=>obtain⟨_,rfl,_⟩:=h;exact⟨_,rfl,no_look (by decide+kernel) rfl,no_look (by decide+kernel) rfl⟩
 |tur p=>obtain⟨_,rfl,_⟩:=h;exact⟨_,rfl,no_look (by decide+kernel) rfl,no_look (by decide+kernel) rfl⟩
 |hue f g p=>obtain⟨_,rfl,_⟩:=h;exact⟨_,rfl,no_look (by decide+kernel) (no_look (by decide+kernel) (no_look (by decide+kernel) rfl)),no_look (by decide+kernel) (no_look (by decide+kernel) (no_look (by decide+kernel) rfl))⟩
variable{hu:List ((Int × Int) × Int)}
def kg{k:Nat}{sh:D}:(moF k sh hu).lookup ("shifts":y')=be sh:=by
 unfold moF;rw[Er,show(("shifts":y')==("place":y'))=false by decide+kernel];rfl
def Bn{k:Nat}{sh:D}:(moF k sh hu).lookup ("place":y')=be (.int k):=rfl
def Bo{k:Nat}{sh:D}:(moF k sh hu).lookup ("hues":y')=be (.dti hu):=by
 unfold moF;rw[Er,show(("hues":y')==("place":y'))=false by decide+kernel,Er,show(("hues":y')==("shifts":y'))=false by decide+kernel];rfl
def eZ{f g:y'}{u v:D}{r:List (y' × D)}(h:(g==f)=false):(((f,u)::(g,v)::r:List (y' × D))).lookup g=be v:=by
 rw[Er,h,Er,beq_self_eq_true]
def kh{e f g:y'}{t u v:D}{r:List (y' × D)}(h1:(g==e)=false)(h2:(g==f)=false):(((e,t)::(f,u)::(g,v)::r:List (y' × D))).lookup g=be v:=by
 rw[Er,h1];exact eZ h2
def Pat.Fits.small(h:p.Fits){k:Int}(f:p.Fam w k s):0<w/\w<=720/\0<k/\k<=720/\0<=s/\s<w:=by
 obtain⟨w',k',s',f',hb⟩:=h;obtain⟨rfl,rfl,rfl⟩:=f.uniq f';obtain⟨h1,h2⟩:=cF f.f.w0 f.f.h0;exact⟨f.f.w0,by lia,f.f.h0,by lia,f.f.s0,f.f.sw⟩
def bP(j:Nat)(x:y'):SpX:=λds R RX=>∃ (p:Pat) (k:Nat) (v:D),ds=[v]/\FormOf p k v/\p.Syn/\p.depth<j/\p.cls=x/\p.Cal/\(∀ i:Nat,p.lineAt k=be i->RX "OneLine" [("place",.int i)])/\(p.lineAt k=o_->∀ w h s,p.Fam w h s->R (.tup [.int w,.int h,.int s]))
def fb{x:y'}:¬ ofX (bP 0 x) ds M R RX:=by
 rintro⟨_,_,_,_,_,_,h,_⟩;exact absurd h (Gf _)
def lookD_app(x y v X Y:Int):∀ kv:List ((Int × Int) × Int),lookD (kv++[((x,y),v)]) X Y=match lookD kv X Y with|some u=>be u|none=>if x=X/\y=Y then be v else o_
 |[]=>rfl
 |((a,b),h)::r=>by
  show lookD (((a,b),h)::(r++[((x,y),v)])) X Y=_;unfold lookD;by_cases e:a=X/\b=Y
  .rw[if_pos e,if_pos e]
  .rw[if_neg e,if_neg e];exact lookD_app x y v X Y r
def Bp(kv:List ((Int × Int) × Int))(x y v X Y:Int):lookD (sdD kv x y v) X Y=match lookD kv X Y with|some u=>be u|none=>if x=X/\y=Y then be v else none:=by
 unfold sdD;split
 .rename_i hs;cases e:lookD kv X Y with
  |some u=>rfl
  |none=>
   show o_=_;rw[if_neg];rintro⟨rfl,rfl⟩;rw[e] at hs;cases hs
 .exact lookD_app x y v X Y kv
def look_row(w h s:Int)(j:Nat)(X Y:Int):∀ (x:List Nat) (i:Nat) (kv:List ((Int × Int) × Int)),lookD (hRow w h s j i x kv) X Y=match lookD kv X Y with|some u=>be u|none=>(scanRow (λi=>decide (hmX w h s i j=X/\(j:Int) % h=Y)) i x).map λc=>(c:Int) - 48
 |[],i,kv=>by
  rw[hRow,scanRow];cases lookD kv X Y<;>rfl
 |c::r,i,kv=>by
  rw[hRow,look_row w h s j X Y r (i+1),scanRow];by_cases t9:c=46
  .rw[if_pos t9,if_neg (c:=c≠46/\_) (λz=>z.1 t9)]
  .rw[if_neg t9,Bp];cases lookD kv X Y with
   |some u=>rfl
   |none=>
    by_cases e:hmX w h s i j=X/\(j:Int) % h=Y
    .rw[if_pos (c:=c≠46/\_) ⟨t9,decide_eq_true e⟩];show(match (if hmX w h s i j=X/\(j:Int) % h=Y then be ((c:Int) - 48) else o_) with|some u=>be u|none=>_)=_;rw[if_pos e];rfl
    .rw[if_neg (c:=c≠46/\_) (λz=>e (of_decide_eq_true z.2))];show(match (if hmX w h s i j=X/\(j:Int) % h=Y then be ((c:Int) - 48) else o_) with|some u=>be u|none=>_)=_;rw[if_neg e]
def sE(w h s X Y:Int):∀ (L:List y') (j:Nat) (kv:List ((Int × Int) × Int)),lookD (hAll w h s j (L.map cs) kv) X Y=match lookD kv X Y with|some u=>be u|none=>(bH (λi j=>decide (hmX w h s i j=X/\j % h=Y)) j L).map λc=>(c:Int) - 48
 |[],j,kv=>by
  rw[Fc,hAll,bH];cases lookD kv X Y<;>rfl
 |x::r,j,kv=>by
  rw[En,hAll,sE w h s X Y r (j+1),look_row,bH];cases lookD kv X Y with
  |some u=>rfl
  |none=>
   show(match (scanRow (λi=>decide (hmX w h s i j=X/\(j:Int) % h=Y)) 0 (cs x)).map (λc=>(c:Int) - 48) with|some u=>be u|none=>_)=_;cases scanRow (λi=>decide (hmX w h s i j=X/\(j:Int) % h=Y)) 0 (cs x)<;>rfl
def Bq(F:FamOf a b c d w h s)(hn:¬ a*d=b*c)(x y i j:Int):decide (hmX w h s i j=hmX w h s x y/\j % h=y % h)=onB a b c d (x - i) (y - j):=by
 have hw:=F.1;have hh:=F.2.1;have key:(hmX w h s i j=hmX w h s x y/\j % h=y % h)↔InF w h s (x - i) (y - j):=by
  unfold hmX;constructor
  .rintro⟨e1,e2⟩;have dy:=Fv y h;have dj:=Fv j h;have m1:=Fv (x - y / h*s) w;have m2:=Fv (i - j / h*s) w;refine⟨(x - y / h*s) / w - (i - j / h*s) / w,y / h - j / h,?_,?_⟩
   .rw[FV,FV,Ey ((x - y / h*s) / w) w,Ey ((i - j / h*s) / w) w];lia
   .rw[FV,Ey (y / h) h,Ey (j / h) h];lia
  .rintro⟨m,q,ex,ey⟩;have Ox:y=j+q*h:=by lia
   have IK:x=i+(m*w+q*s):=by lia
   subst IK Ox;rw[G6,G7 _ _ (by lia)];refine⟨?_,rfl⟩;have e:i+(m*w+q*s) - (j / h+q)*s=i - j / h*s+m*w:=by rw[FW];lia
   rw[e,G6]
 unfold onB;congr 1;apply propext;rw[key,F.lat];constructor
 .rintro⟨m,q,eu,ev⟩;exact rz eu ev
 .exact λz=>rQ hn z
def Br{c:Nat}(h:49<=c/\c<=54):cell [0,1,2,3,4,5,6] ((c:Int) - 48)=(c:Int) - 48:=by
 rcases(by lia:c=49\/c=50\/c=51\/c=52\/c=53\/c=54) with e|e|e|e|e|e<;>subst e<;>rfl
def motif_shows(hL:Rows L)(F:FamOf a b c d w h s)(hn:¬ a*d=b*c)(x y:Int):(lookD (hAll w h s 0 (L.map cs) []) (hmX w h s x y) (y % h)).getD 0=(br L a b c d).shows x y:=by
 rw[sE];show((bH (λi j=>decide (hmX w h s i j=hmX w h s x y/\j % h=y % h)) 0 L).map λc=>(c:Int) - 48).getD 0=_;have e:(λi j=>decide (hmX w h s i j=hmX w h s x y/\j % h=y % h))=λi j=>onB a b c d (1*x+0*y+0 - i) (0*x+1*y+0 - j):=by
  funext i j;rw[Bq F hn];congr 1<;>lia
 rw[e];show _=match bH (λi j=>onB a b c d (1*x+0*y+0 - i) (0*x+1*y+0 - j)) 0 L with|some c=>cell [0,1,2,3,4,5,6] ((c:Int) - 48)|none=>0
 cases q:bH (λi j=>onB a b c d (1*x+0*y+0 - i) (0*x+1*y+0 - j)) 0 L with
 |none=>rfl
 |some c=>
  have hc:49<=c/\c<=54:=jV (λl' q=>let ⟨_,_,_,h⟩:=hL;(h l' q).2) q;exact(Br hc).symm
def bQ(j:Nat)(x:y'):SpX:=λds R RX=>∃ (p:Pat) (k:Nat) (v:D) (X Y:Int),ds=[v,.int X,.int Y]/\FormOf p k v/\p.Wf/\p.depth<j/\p.cls=x/\R (.int (p.show X Y))
def fg{x:y'}:¬ ofX (bQ 0 x) ds M R RX:=by
 rintro⟨_,_,_,_,_,_,_,_,h,_⟩;exact absurd h (Gf _)
structure PatOf(p:Pat)(w h s:Int)(fs:List (Str × D)):Prop extends Pat.Fam p w h s where
 form:∃ k v,fs.lookup ("form":y')=be v/\FormOf p k v
 nl:noLF fs=true
def ca(p:Pat)(d:D):Prop:=∃ w h s fs,d= .obj "Pattern" fs/\fs.lookup ("text":y')=be (.str p.text)/\fs.lookup ("shifts":y')=be (.tup [.int w,.int h,.int s])/\PatOf p w h s fs
def aZ(x:Int):Prop:=-1000000000000<=x/\x<=1000000000000
def Pat.show_le(h:p.Wf)(hd:p.depth<=40)(x y:Int):0<=p.show x y/\p.show x y<=6:=by
 rw[<- Pat.show_leaves h hd];exact rK x y (Pat.leaf_ok h hd)
def bj(h:Int):Nat:=if h=0 then 46 else(48+h).toNat
def aX(p:Pat)(x y:Int)(n:Nat):Str:=⟨((D9 n).map λ(k:Nat)=>bj (p.show (x+(k:Int)) y)).toArray⟩
def ki(p:Pat)(x y:Int)(n:Nat):(aX p x y n).length=n:=by simp[aX,Str.length]
def Bs(h0:0<=h)(h6:h<=6):atI (cs ".123456") h=be (bj h):=by
 rcases(by lia:h=0\/h=1\/h=2\/h=3\/h=4\/h=5\/h=6) with e|e|e|e|e|e|e<;>subst e<;>decide+kernel
def range2_int{k:Nat}{x:D}(h:((D9 (j - i).toNat).map λk=>D.int (i+((k:Nat):Int)))[k]?=be x):k<(j - i).toNat/\x= .int (i+(k:Int)):=by
 have hk:k<(j - i).toNat:=by simpa using(Em.mp h).1
 refine⟨hk,?_⟩;simp[hk] at h;exact h.symm
def Pat.Fits.over_parts(hp:p.Wf)(hq:q.Wf)(h:(Pat.over p q).Fits):p.Fits/\q.Fits:=by
 obtain⟨w,k,s,f,hb⟩:=h;obtain⟨w1,k1,s1,f1⟩:=Pat.fam_ex hp;obtain⟨w2,k2,s2,f2⟩:=Pat.fam_ex hq;have l1:=(InF.le f1.f.w0 f1.f.h0 f.f.w0 f.f.h0 (λx y z=>(f1.lat x y).mpr ((f.lat x y).mp z).1)).1;have l2:=(InF.le f2.f.w0 f2.f.h0 f.f.w0 f.f.h0 (λx y z=>(f2.lat x y).mpr ((f.lat x y).mp z).2)).1;exact⟨⟨w1,k1,s1,f1,by lia⟩,⟨w2,k2,s2,f2,by lia⟩⟩
def Pat.Fits.of_sh(h:(Pat.sh a b p).Fits):p.Fits:=by
 obtain⟨w,k,s,f,hb⟩:=h;exact⟨w,k,s,⟨f.f,f.lat⟩,hb⟩
def Pat.Fits.of_hue(h:(Pat.hue a b p).Fits):p.Fits:=by
 obtain⟨w,k,s,f,hb⟩:=h;exact⟨w,k,s,⟨f.f,f.lat⟩,hb⟩
def Pat.Fits.of_mir(hp:p.Wf)(h:(Pat.mir p).Fits):p.Fits:=by
 obtain⟨w,k,s,f,hb⟩:=h;obtain⟨w1,k1,s1,f1⟩:=Pat.fam_ex hp;obtain⟨rfl,rfl,_⟩:=f.uniq f1.mir;exact⟨_,_,_,f1,hb⟩
def Pat.Fits.of_tur(hp:p.Wf)(h:(Pat.tur p).Fits):p.Fits:=by
 obtain⟨w,k,s,f,hb⟩:=h;obtain⟨w1,k1,s1,f1⟩:=Pat.fam_ex hp;obtain⟨w',k',s',f',e⟩:=fP (s:=s1) f1.f.w0 f1.f.h0;obtain⟨rfl,rfl,_⟩:=f.uniq (f1.tur f');exact⟨_,_,_,f1,by lia⟩
def Pat.cal_of:∀ {p:Pat},p.Wf->p.Fits->p.Cal
 | .mot ..,_,_=>trivial
 | .over p q,h,f=>by
  obtain⟨f1,f2⟩:=Pat.Fits.over_parts h.1 h.2 f;exact⟨Pat.cal_of h.1 f1,Pat.cal_of h.2 f2,λ_ _=>⟨f1.wide,f2.wide⟩⟩
 | .sh a b p,h,f=>Pat.cal_of (p:=p) h.2.2 f.of_sh
 | .mir p,h,f=>Pat.cal_of (p:=p) h (f.of_mir h)
 | .tur p,h,f=>⟨Pat.cal_of (p:=p) h (f.of_tur h),λ_=>Pat.Fits.wide (p:=p) (f.of_tur h)⟩
 | .hue a b p,h,f=>Pat.cal_of (p:=p) h.2.2 f.of_hue
def Pat.cal_w:∀ {p:Pat} {w h s:Int},p.Wf->p.Cal->p.Fam w h s->w<=1125899906842624
 | .mot L a b c d,w,h,s,e8,_,f=>by
  have:=(Pat.fits_mot (L:=L) e8.2.1 e8.2.2.1 e8.2.2.2.1 e8.2.2.2.2.1 e8.2.2.2.2.2).small f;lia
 | .over p q,w,h,s,e8,hc,f=>by
  obtain⟨f1,f2⟩:=hc.2.2 e8.1 e8.2;obtain⟨w1,k1,s1,g1⟩:=Pat.fam_ex e8.1;obtain⟨w2,k2,s2,g2⟩:=Pat.fam_ex e8.2;have a1:=f1.small g1;have a2:=f2.small g2;have HC:InF w h s (w1*w2) 0:=(f.lat _ _).mpr ⟨(g1.lat _ _).mp ⟨w2,0,by rw[Ey];lia,by lia⟩,(g2.lat _ _).mp ⟨w1,0,by lia,by lia⟩⟩;obtain⟨i,j,e1,e2⟩:=HC;have hj:j=0:=by
   rcases FG.mp e2.symm with z|z
   .exact z
   .have:=f.f.h0;lia
  subst hj;have hp:0<w1*w2:=Ep a1.1 a2.1;have e3:w1*w2=i*w:=by lia
  have hi:0<i:=by
   have:=f.f.w0;rcases(by lia:i<=0\/0<i) with z|z
   .have:=E2 z (show 0<=w by lia);lia
   .exact z
  have h1:=Ex (show 1<=i by lia) (show 0<=w by have:=f.f.w0;lia);have h2:=bz (a:=w1) (d:=w2) (A:=33554432) (B:=33554432) (by lia) (by lia);lia
 | .sh a b p,w,h,s,e8,hc,f=>Pat.cal_w (p:=p) e8.2.2 hc ⟨f.f,f.lat⟩
 | .mir p,w,h,s,e8,hc,f=>by
  obtain⟨w1,k1,s1,f1⟩:=Pat.fam_ex (p:=p) e8;obtain⟨rfl,_,_⟩:=f.uniq f1.mir;exact Pat.cal_w (p:=p) e8 hc f1
 | .tur p,w,h,s,e8,hc,f=>by
  have:=(hc.2 e8).tur.small f;lia
 | .hue a b p,w,h,s,e8,hc,f=>Pat.cal_w (p:=p) e8.2.2 hc ⟨f.f,f.lat⟩
def sF:∀ L:List y',cs (Str.join "" L)=L.flatMap cs
 |[]=>rfl
 |[x]=>by simp[Str.join]
 |x::y::r=>by
  show cs (x++""++Str.join "" (y::r))=_;rw[bG,bG,sF (y::r),rG];simp
def Bt(f:Nat->Nat)(n:Nat):Str.join "" ((D9 n).map λi=>(⟨#[f i]⟩:y'))=⟨((D9 n).map f).toArray⟩:=by
 apply fQ;rw[sF,List.flatMap_map];show(D9 n).flatMap (λi=>[f i])=(D9 n).map f;rw[List.map_eq_flatMap]
def cK{e:Nat}:∀ {a b x y:List Nat},e ∉ a->e ∉ b->a++e::x=b++e::y->a=b/\x=y
 |[],[],x,y,_,_,h=>by cases h;exact⟨rfl,rfl⟩
 |[],c::b,x,y,_,hb,h=>by
  cases h;exact absurd Ed hb
 |c::a,[],x,y,ha,_,h=>by
  cases h;exact absurd Ed ha
 |c::a,d::b,x,y,ha,hb,h=>by
  have h':c::(a++e::x)=d::(b++e::y):=h;injection h' with h1 h2;obtain⟨e1,e2⟩:=cK (λz=>ha (Ec _ z)) (λz=>hb (Ec _ z)) h2;exact⟨by rw[h1,e1],e2⟩
def fj(ha:B12 a)(hb:B12 b)(h:numL a=numL b):a=b:=by
 have h1:=jY ha;rw[h,jY hb] at h1;exact(Option.some.inj h1).symm
def Bu(ha:B12 a):∀ c∈numL a,c=45\/(48<=c/\c<=57):=by
 rcases numL_is ha with⟨c,hc,e⟩|⟨c,hc,e⟩|⟨c,hc,e⟩|⟨c,hc,e⟩<;>rw[e]<;>simp<;>lia
def cb(ha:B12 a){e:Nat}(he:endS e):e ∉ numL a:=λz=>by
 have:=Bu ha e z;unfold endS at he;lia
def rowsL_chars:∀ {L:List (List Nat)},(∀ x∈L,∀ c∈x,aG c)->∀ c∈rowsL L,aG c\/c=47
 |[],_,c,h=>by cases h
 |[x],hx,c,h=> .inl (hx x Ed c h)
 |x::y::L,hx,c,h=>by
  have h':c∈x++47::rowsL (y::L):=h;rcases EC.mp h' with z|z
  .exact .inl (hx x Ed c z)
  .rcases Ea.mp z with z|z
   .exact .inr z
   .exact rowsL_chars (λx q=>hx x (Ec _ q)) c z
def fR{c:Nat}(h:aG c):c≠47/\c≠59:=by unfold aG at h;lia
def sG:∀ {L M:List (List Nat)},L≠[]->M≠[]->(∀ x∈L,∀ c∈x,aG c)->(∀ x∈M,∀ c∈x,aG c)->rowsL L=rowsL M->L=M
 |[],_,h,_,_,_,_=>absurd rfl h
 |_,[],_,h,_,_,_=>absurd rfl h
 |[x],[y],_,_,_,_,h=>by rw[show x=y from h]
 |[x],y::z::M,_,_,hx,_,h=>by
  have h':x=y++47::rowsL (z::M):=h;have:(47:Nat)∈x:=by rw[h'];simp
  exact absurd rfl (fR (hx x Ed 47 this)).1
 |x::z::L,[y],_,_,_,hy,h=>by
  have h':x++47::rowsL (z::L)=y:=h;have:(47:Nat)∈y:=by rw[<- h'];simp
  exact absurd rfl (fR (hy y Ed 47 this)).1
 |x::z::L,y::z'::M,_,_,hx,hy,h=>by
  have h':x++47::rowsL (z::L)=y++47::rowsL (z'::M):=h;obtain⟨e1,e2⟩:=cK (λq=>(fR (hx x Ed 47 q)).1 rfl) (λq=>(fR (hy y Ed 47 q)).1 rfl) h';rw[e1,sG (L:=z::L) (M:=z'::M) (λq=>nomatch q) (λq=>nomatch q) (λx q=>hx x (Ec _ q)) (λx q=>hy x (Ec _ q)) e2]
def sH:∀ {L M:List y'},L.map cs=M.map cs->L=M
 |[],[],_=>rfl
 |[],_::_,h=>by cases h
 |_::_,[],h=>by cases h
 |x::L,y::M,h=>by
  rw[En,En] at h;injection h with h1 h2;rw[fQ h1,sH h2]
def Bv{L':List y'}{a' b' c' d':Int}{x y:List Nat}(h:(Pat.mot L a b c d).Syn)(h':(Pat.mot L' a' b' c' d').Syn)(e:(Pat.mot L a b c d).tl++x=(Pat.mot L' a' b' c' d').tl++y):Pat.mot L a b c d=Pat.mot L' a' b' c' d'/\x=y:=by
 have e0:91::(rowsL (L.map cs)++59::(numL a++44::(numL b++59::(numL c++44::(numL d++93::x)))))=91::(rowsL (L'.map cs)++59::(numL a'++44::(numL b'++59::(numL c'++44::(numL d'++93::y))))):=by
  simpa[Pat.tl,motL] using e
 injection e0 with _ e1;have sg:∀ {L:List y'},Rows L->∀ x∈L.map cs,∀ c∈x,aG c:=λ{L} hL x hx=>by
  obtain⟨l,hl,rfl⟩:=EB.mp hx;obtain⟨_,w,_,q⟩:=hL;exact(q l hl).2
 have M9:∀ {L:List y'},Rows L->(59:Nat) ∉ rowsL (L.map cs):=λ{L} hL z=>by
  rcases rowsL_chars (sg hL) 59 z with q|q
  .exact(fR q).2 rfl
  .cases q
 have ne:∀ {L:List y'},Rows L->L.map cs≠[]:=λ{L} hL z=>by
  have h1:=hL.many.1;have h2:=congrArg Fy z;rw[Ef] at h2;simp at h2;rw[h2] at h1;simp at h1
 obtain⟨q1,e2⟩:=cK (M9 h.1) (M9 h'.1) e1;obtain⟨q2,e3⟩:=cK (cb h.2.1 (.inl rfl)) (cb h'.2.1 (.inl rfl)) e2;obtain⟨q3,e4⟩:=cK (cb h.2.2.1 (.inr (.inl rfl))) (cb h'.2.2.1 (.inr (.inl rfl))) e3;obtain⟨q4,e5⟩:=cK (cb h.2.2.2.1 (.inl rfl)) (cb h'.2.2.2.1 (.inl rfl)) e4;obtain⟨q5,e6⟩:=cK (cb h.2.2.2.2 (.inr (.inr (.inr rfl)))) (cb h'.2.2.2.2 (.inr (.inr (.inr rfl)))) e5;rw[sH (sG (ne h.1) (ne h'.1) (sg h.1) (sg h'.1) q1),fj h.2.1 h'.2.1 q2,fj h.2.2.1 h'.2.2.1 q3,fj h.2.2.2.1 h'.2.2.2.1 q4,fj h.2.2.2.2 h'.2.2.2.2 q5];exact⟨rfl,e6⟩
def Pat.head:Pat->Nat
 | .mot ..=>91| .over ..=>40| .sh ..=>115| .mir ..=>109| .tur ..=>116| .hue ..=>104
def Pat.tl_head(p:Pat):∃ l,p.tl=p.head::l:=by cases p<;>exact⟨_,rfl⟩
def dO{x y:List Nat}(e:p.tl++x=q.tl++y):p.head=q.head:=by
 obtain⟨l1,e1⟩:=p.tl_head;obtain⟨l2,e2⟩:=q.tl_head;rw[e1,e2] at e;have e':p.head::(l1++x)=q.head::(l2++y):=e;injection e'
def sI(h:1<=f/\f<=6)(h':1<=g/\g<=6)(e:(48+f).toNat=(48+g).toNat):f=g:=by lia
def Bw{x y:List Nat}(hp:p.Syn)(hq:q.Syn)(e:p.tl++x=q.tl++y):p=q/\x=y:=by
 have hh:=dO e;induction p generalizing q x y with
 |mot=>
  cases q with
  |mot=>exact Bv hp hq e
  |_=>simp[Pat.head] at hh
 |over p q i1 i2=>
  cases q with
  |over p' q'=>
   have e0:40::(p.tl++124::(q.tl++41::x))=40::(p'.tl++124::(q'.tl++41::y)):=by simpa[Pat.tl] using e
   injection e0 with _ e1;obtain⟨rfl,e2⟩:=i1 hp.1 hq.1 e1 (dO e1);injection e2 with _ e3;obtain⟨rfl,e4⟩:=i2 hp.2 hq.2 e3 (dO e3);injection e4 with _ e5;exact⟨rfl,e5⟩
  |_=>simp[Pat.head] at hh
 |sh a b p i=>
  cases q with
  |sh a' b' p'=>
   have e0:115::(numL a++44::(numL b++58::(p.tl++x)))=115::(numL a'++44::(numL b'++58::(p'.tl++y))):=by simpa[Pat.tl] using e
   injection e0 with _ e1;obtain⟨q2,e3⟩:=cK (cb hp.1 (.inl rfl)) (cb hq.1 (.inl rfl)) e1;obtain⟨q3,e4⟩:=cK (cb hp.2.1 (.inr (.inr (.inl rfl)))) (cb hq.2.1 (.inr (.inr (.inl rfl)))) e3;obtain⟨rfl,e5⟩:=i hp.2.2 hq.2.2 e4 (dO e4);rw[fj hp.1 hq.1 q2,fj hp.2.1 hq.2.1 q3];exact⟨rfl,e5⟩
  |_=>simp[Pat.head] at hh
 |mir p i=>
  cases q with
  |mir p'=>
   have e0:109::(p.tl++x)=109::(p'.tl++y):=e;injection e0 with _ e1;obtain⟨rfl,e5⟩:=i (q:=p') hp hq e1 (dO e1);exact⟨rfl,e5⟩
  |_=>simp[Pat.head] at hh
 |tur p i=>
  cases q with
  |tur p'=>
   have e0:116::(p.tl++x)=116::(p'.tl++y):=e;injection e0 with _ e1;obtain⟨rfl,e5⟩:=i (q:=p') hp hq e1 (dO e1);exact⟨rfl,e5⟩
  |_=>simp[Pat.head] at hh
 |hue f g p i=>
  cases q with
  |hue f' g' p'=>
   have e0:104::(numL f++(numL g++(p.tl++x)))=104::(numL f'++(numL g'++(p'.tl++y))):=by simpa[Pat.tl] using e
   rw[hueL hp.1,hueL hp.2.1,hueL hq.1,hueL hq.2.1] at e0;have e1:104::(48+f).toNat::(48+g).toNat::(p.tl++x)=104::(48+f').toNat::(48+g').toNat::(p'.tl++y):=e0;injection e1 with _ e2;injection e2 with e3 e4;injection e4 with e5 e6;obtain⟨rfl,e7⟩:=i hp.2.2 hq.2.2 e6 (dO e6);rw[sI hp.1 hq.1 e3,sI hp.2.1 hq.2.1 e5];exact⟨rfl,e7⟩
  |_=>simp[Pat.head] at hh
def By:SiD:=λds R=>∃ (t:y') (w h s:Int) (x:y') (fs:List (y' × D)),ds=[.str t,.tup [.int w,.int h,.int s],.obj x fs]/\R [("text",.str t),("shifts",.tup [.int w,.int h,.int s]),("form",.obj x fs)]
def Bz:SiD:=λds R=>∃ i:Int,ds=[.int i]/\R [("place",.int i)]
def BA:SiD:=λds R=>∃ i:Int,ds=[.int i]/\R [("place",.int i)]
def sJ:SpX:=λds R RX=>(∃ (t:y') (k:Nat),ds=[.str t]/\t.length<=100000/\cX t=be k/\RX "WrongSign" [("place",.int k)])\/
 ∃ p:Pat,ds=[.str p.text]/\p.Syn/\p.depth<=5/\p.Cal/\(∀ k:Nat,p.lineAt 0=be k->RX "OneLine" [("place",.int k)])/\(p.lineAt 0=o_->¬ p.Fits->RX "TooGreat" [])/\(p.lineAt 0=o_->p.Fits->∀ d,ca p d->R d)
def sK{R:D->Prop}(ok:p.Ok)(h:∀ d,ca p d->R d):qJ sJ [.str p.text] R:=
 .inr ⟨p,rfl,ok.wf.syn,ok.deep,Pat.cal_of ok.wf ok.fits,(λk e=>by rw[Pat.wf_line 0 ok.wf] at e;cases e),λ_ z=>z ok.fits,λ_ _=>h⟩
def BB:SpX:=λds R RX=>∃ x y:Int,ds=[.int x,.int y]/\(aZ x/\aZ y->R .non)/\(¬ (aZ x/\aZ y)->RX "TooFar" [])
def BC:SpX:=λds R RX=>∃ (p:Pat) (d:D) (x y:Int),ds=[d,.int x,.int y]/\ca p d/\p.Ok/\(aZ x/\aZ y->R (.int (p.show x y)))/\(¬ (aZ x/\aZ y)->RX "TooFar" [])
def BD:SpD:=λds R=>∃ (p:Pat) (d:D) (x y:Int) (n:Nat),ds=[d,.int x,.int y,.int n]/\ca p d/\p.Ok/\n<=1000/\aZ x/\aZ (x+n - 1)/\aZ y/\R (.str (aX p x y n))
def BE{n:Int}:x.fmod n=0↔n∣x:=⟨Int.dvd_of_fmod_eq_zero,Gj⟩
def BF(a b c d u v i j:Int):onB a b c d (u+(i*a+j*c)) (v+(i*b+j*d))=onB a b c d u v:=by
 unfold onB;have e1:(u+(i*a+j*c))*d - (v+(i*b+j*d))*c=(u*d - v*c)+(a*d - b*c)*i:=by grind
 have e2:a*(v+(i*b+j*d)) - b*(u+(i*a+j*c))=(a*v - b*u)+(a*d - b*c)*j:=by grind
 rw[e1,e2];simp only[BE];have h1:(a*d - b*c∣u*d - v*c+(a*d - b*c)*i)↔a*d - b*c∣u*d - v*c:=G8 (G9 _ _);have h2:(a*d - b*c∣a*v - b*u+(a*d - b*c)*j)↔a*d - b*c∣a*v - b*u:=G8 (G9 _ _);simp only[h1,h2]
def Pat.Keeps(p:Pat)(X Y:Int):Prop:=∀ x y,p.show (x+X) (y+Y)=p.show x y
def Pat.lat_keeps:∀ {p:Pat} {X Y:Int},p.Lat X Y->p.Keeps X Y
 | .mot L a b c d,_,_,⟨i,j,rfl,rfl⟩,x,y=>by
  have e:∀ u v:Int,onB a b c d (1*(x+(i*a+j*c))+0*(y+(i*b+j*d))+0 - u) (0*(x+(i*a+j*c))+1*(y+(i*b+j*d))+0 - v)=onB a b c d (1*x+0*y+0 - u) (0*x+1*y+0 - v):=λu v=>by
   rw[<- BF a b c d (1*x+0*y+0 - u) (0*x+1*y+0 - v) i j];congr 1<;>lia
  show Leaf.shows _ _ _=Leaf.shows _ _ _;unfold Leaf.shows Leaf.hit;simp only[br,e]
 | .over p q,X,Y,h,x,y=>by
  simp only[Pat.show];rw[Pat.lat_keeps h.1 x y,Pat.lat_keeps h.2 x y]
 | .sh a b p,X,Y,h,x,y=>by
  have:=Pat.lat_keeps (p:=p) h (x - a) (y - b);simp only[Pat.show];rw[<- this];congr 1<;>lia
 | .mir p,X,Y,h,x,y=>by
  have:=Pat.lat_keeps (p:=p) h (-x) y;simp only[Pat.show];rw[<- this];congr 1;lia
 | .tur p,X,Y,h,x,y=>by
  have:=Pat.lat_keeps (p:=p) h y (-x);simp only[Pat.show];rw[<- this];congr 1;lia
 | .hue f g p,X,Y,h,x,y=>by
  simp only[Pat.show];rw[Pat.lat_keeps (p:=p) h x y]
namespace Pat.Keeps
variable {p:Pat}{X Y U V:Int}
def zero:p.Keeps 0 0:=λx y=>by rw[EU,EU]
def add(h:p.Keeps X Y)(k:p.Keeps U V):p.Keeps (X+U) (Y+V):=λx y=>by
 rw[<- FH,<- FH,k,h]
def neg(h:p.Keeps X Y):p.Keeps (-X) (-Y):=λx y=>by
 have:=h (x+-X) (y+-Y);rw[<- this];congr 1<;>lia
def sub(h:p.Keeps X Y)(k:p.Keeps U V):p.Keeps (X - U) (Y - V):=by
 have:=h.add k.neg;rwa [<- Ha,<- Ha] at this
def nat(h:p.Keeps X Y):∀ n:Nat,p.Keeps ((n:Int)*X) ((n:Int)*Y)
 |0=>by simpa using zero
 |n+1=>by
  have:=(nat h n).add h;have e:∀ z:Int,((n+1:Nat):Int)*z=(n:Int)*z+z:=λz=>by rw[Fe,FW];simp
  rw[e,e];exact this
def mul(h:p.Keeps X Y)(n:Int):p.Keeps (n*X) (n*Y):=by
 rcases GW 0 n with q|q
 .have:=h.nat n.toNat;rwa [EE q] at this
 .have:=(h.nat (-n).toNat).neg;rw[EE (by lia)] at this;simpa[E1] using this
end Pat.Keeps
def InF.keeps(a:p.Keeps w 0)(b:p.Keeps s h)(q:InF w h s x y):p.Keeps x y:=by
 obtain⟨i,j,rfl,rfl⟩:=q;have:=(a.mul i).add (b.mul j);rwa [Hb,Hc] at this
def InF.one(w h s:Int):InF w h s w 0:=⟨1,0,by lia,by lia⟩
def InF.two(w h s:Int):InF w h s s h:=⟨0,1,by lia,by lia⟩
def Pat.Fam.keeps(f:p.Fam w h s)(q:InF w h s x y):p.Keeps x y:=Pat.lat_keeps ((f.lat x y).mp q)
structure Pat.Kfam(p:Pat)(w h s:Int):Prop where
 f:Fam0 w h s
 keeps:∀ {x y},InF w h s x y->p.Keeps x y
def Pat.Fam.k(F:p.Fam w h s):p.Kfam w h s:=⟨F.f,F.keeps⟩
structure Pat.Least(p:Pat)(w h s:Int):Prop where
 f:Fam0 w h s
 lat:∀ x y,InF w h s x y↔p.Keeps x y
def Pat.Least.uniq(a:p.Least w h s)(b:p.Least w' h' s'):w=w'/\h=h'/\s=s':=
 InF.uniq a.f.w0 a.f.h0 a.f.s0 a.f.sw b.f.w0 b.f.h0 b.f.s0 b.f.sw λx y=>(a.lat x y).trans (b.lat x y).symm
def BG(hw:0<w)(hh:0<h)(x y:Int):InF w h s (x - hmX w h s x y) (y - y % h):=by
 have e1:=ES y h;have e2:=ES (x - y / h*s) w;refine⟨(x - y / h*s) / w,y / h,?_,by rw[e1,Ey];lia⟩;unfold hmX;rw[e2,Ey w];lia
def Pat.show_home(hw:0<w)(hh:0<h)(k:∀ x y,InF w h s x y->p.Keeps x y)(x y:Int):p.show (hmX w h s x y) (y % h)=p.show x y:=by
 have:=k _ _ (BG (s:=s) hw hh x y) (hmX w h s x y) (y % h);rw[<- this];congr 1<;>lia
def BH(f:Nat->Nat){w c:Nat}(h:c<w):((D9 w).map f).drop c++((D9 w).map f).take c=(D9 w).map λk=>f ((c+k) % w):=by
 apply FC;intro i;by_cases h1:i<w - c
 .rw[EO (by simp;exact h1),List.getElem?_drop,Eo,Eo,Ff (by lia),Ff (by lia)];simp[Hd (show c+i<w by lia)]
 .rw[EY (by simp;lia)];simp only[FA,Ef,Gs];by_cases h2:i<w
  .rw[GD (by lia),Eo,Eo,Ff (by lia),Ff (by lia)];have e:(c+i) % w=i - (w - c):=by
    rw[show c+i=(i - (w - c))+w by lia,Nat.add_mod_right,Hd (by lia)]
   simp[e]
  .rw[E3 (by simp;lia),E3 (by simp;lia)]
def fS(l:List Nat):cs (⟨l.toArray⟩:y')=l:=by simp
def BI(ht:cs t=l)(c0:0<=c)(cl:c<l.length):Txt.slice t (be c) o_++Txt.slice t o_ (be c)=(⟨(l.drop c.toNat++l.take c.toNat).toArray⟩:y'):=by
 have hl:t.length=l.length:=by rw[<- ht,bt]
 apply fQ;rw[bG,slice_cps,slice_cps,fS,fS,fS,show t.cps.toList=l from ht,hl];have e1:HT.sIx l.length 0 (be c)=c.toNat:=by show(if c<0 then _ else min c.toNat l.length)=_;rw[if_neg (by lia)];lia
 have e2:HT.sIx l.length l.length o_=l.length:=rfl;have e3:HT.sIx l.length 0 o_=0:=rfl;have e4:HT.sIx l.length l.length (be c)=c.toNat:=by show(if c<0 then _ else min c.toNat l.length)=_;rw[if_neg (by lia)];lia
 rw[e1,e2,e3,e4,Hf,GR (by simp)];rfl
def fT(p:Pat)(x y:Int)(n:Nat):cs (aX p x y n)=(D9 n).map λ(k:Nat)=>bj (p.show (x+(k:Int)) y):=fS _
def BJ(hw:0<w)(hh:0<h)(k:∀ x y,InF w h s x y->p.Keeps x y)(x y:Int):
  Txt.slice (aX p 0 (y % h) w.toNat) (be (hmX w h s x y)) o_++Txt.slice (aX p 0 (y % h) w.toNat) o_ (be (hmX w h s x y))=aX p x y w.toNat:=by
 have c0:0<=hmX w h s x y:=Fp _ (by lia);have c1:hmX w h s x y<w:=Fq _ hw;rw[BI (fT p 0 (y % h) w.toNat) c0 (by simp;lia),BH _ (by lia)];unfold aX;congr 2;apply FD;intro i _;have e:=Pat.show_home hw hh k (x+(i:Int)) y;rw[<- e];congr 2;have q:hmX w h s (x+(i:Int)) y=(hmX w h s x y+i) % w:=by
  unfold hmX;rw[Int.emod_add_emod];congr 1;lia
 rw[q,Hc,Hg,Fe,EE c0,EE (by lia)]
def fU(p:Pat)(w h:Int):D:= .lst ((D9 h.toNat).map λ(y:Nat)=>D.str (aX p 0 (y:Int) w.toNat))
def BK:SpD:=λds R=>∃ (p:Pat) (d:D),ds=[d]/\ca p d/\p.Ok/\∀ w h s,p.Fam w h s->w*h<=720->w<=720->h<=720->R (fU p w h)
def BL:SpD:=λds R=>∃ (p:Pat) (w h s x y:Int),ds=[.tup [.int w,.int h,.int s],fU p w h,.int x,.int y]/\p.Fam w h s/\w<=720/\h<=720/\R (.str (aX p x y w.toNat))
def BM(a0:0<=a)(a6:a<=6)(b0:0<=b)(b6:b<=6)(e:bj a=bj b):a=b:=by
 unfold bj at e;split at e<;>split at e<;>lia
structure Pat.LeastW(p:Pat)(w m:Int):Prop where
 lo:1<=m
 hi:m<=w
 md:w % m=0
 k:p.Keeps m 0
 l:∀ d,1<=d->d<=w->w % d=0->p.Keeps d 0->m<=d
def Pat.LeastW.eq{m:Int}(F:p.Fam w h s)(L:p.Least w' h' s')(a:p.LeastW w m):m=w':=by
 have w0:=L.f.w0;have k:p.Keeps w' 0:=(L.lat _ _).mp (InF.one _ _ _);obtain⟨i,j,e1,e2⟩:=(L.lat m 0).mpr a.k;have h0:=L.f.h0;have j0:j=0:=by
  rcases FX j 0 with q|q|q
  .have:=Gu q h0;lia
  .exact q
  .have:=Ep q h0;lia
 subst j0;rw[FU,EU] at e1;have lo:=a.lo;have i0:0<i:=by
  rcases FX i 0 with q|q|q
  .have:=Gu q w0;lia
  .subst q;lia
  .exact q
 have h1:w'<=m:=by
  rw[e1];have:=Ex (show 1<=i by lia) (show 0<=w' by lia);lia
 obtain⟨i2,j2,f1,f2⟩:=(L.lat w 0).mpr (F.keeps (InF.one w h s));have Oy:j2=0:=by
  rcases FX j2 0 with q|q|q
  .have:=Gu q h0;lia
  .exact q
  .have:=Ep q h0;lia
 subst Oy;have h2:=a.l w' (by lia) (by have:=a.hi;lia) (by rw[f1,FU,EU];exact Gi _ _) k;lia
def BN(h0:0<h)(e:h=j*h):j=1:=by
 have:(j - 1)*h=0:=by rw[FV,<- e];lia
 rcases FG.mp this with q|q<;>lia
def small_mul(w0:0<w)(a: -w<i*w)(b:i*w<w):i=0:=by
 rcases FX i 0 with q|q|q
 .have:=Ex (show i<=-1 by lia) (show 0<=w by lia);lia
 .exact q
 .have:=Ex (show 1<=i by lia) (show 0<=w by lia);lia
def Pat.Least.slant{t:Int}(L:p.Least w h s)(a:0<=t)(b:t<w)(k:p.Keeps t h):t=s:=by
 obtain⟨i,j,e1,e2⟩:=(L.lat t h).mpr k;have j1:=BN L.f.h0 e2;subst j1;have s0:=L.f.s0;have sw:=L.f.sw;have:=small_mul (i:=i) L.f.w0 (by lia) (by lia);subst this;lia
def Pat.Least.row(L:p.Least w h s)(k:p.Keeps x y):p.Keeps (x % w) y:=by
 have e:=ES x w;have:=k.sub (((L.lat _ _).mp (InF.one w h s)).mul (x / w));rw[Hb,G2] at this;rw[e,Ey];exact this
def Pat.Least.le(F:p.Fam w h s)(L:p.Least w' h' s'):w'*h'<=w*h:=(InF.le L.f.w0 L.f.h0 F.f.w0 F.f.h0 (λx y q=>(L.lat x y).mpr (F.keeps q))).1
def Pat.Least.first(L:p.Least w h s)(k:p.Keeps x y)(y0:0<=y)(yh:y<h)(x0:0<=x)(xw:x<w):x=0/\y=0:=by
 obtain⟨i,j,e1,e2⟩:=(L.lat x y).mpr k;have h0:=L.f.h0;have j0:=small_mul (i:=j) h0 (by lia) (by lia);subst j0;have i0:=small_mul (i:=i) L.f.w0 (by lia) (by lia);subst i0;lia
def sumN(g:Nat->Int):Nat->Int
 |0=>0
 |n+1=>sumN g n+g n
def dP{g f:Nat->Int}:∀ {n:Nat},(∀ k,k<n->g k=f k)->sumN g n=sumN f n
 |0,_=>rfl
 |n+1,h=>by rw[sumN,sumN,dP λk hk=>h k (by lia),h n (by lia)]
def gT(g:Nat->Int)(n:Nat):∀ m:Nat,sumN g (n+m)=sumN g n+sumN (λk=>g (n+k)) m
 |0=>by simp[sumN]
 |m+1=>by rw[<- Nat.add_assoc,sumN,sumN,gT g n m];lia
def sL(g f:Nat->Int):∀ n:Nat,sumN (λk=>g k+f k) n=sumN g n+sumN f n
 |0=>rfl
 |n+1=>by simp only[sumN,sL g f n];lia
def BO{g:Nat->Int}(hN:0<N)(Iv:∀ k,g (k+N)=g k)(n:Nat):sumN (λj=>(((n:Int) - 1 - j) / N+1)*g j) (min n N)=sumN g n:=by
 induction n using Nat.strongRecOn with
 |ind n ih=>
  by_cases h:n<=N
  .rw[Hi h];refine dP λk hk=>?_;rw[Hj (by lia) (by lia)];simp
  .have e1:n=N+(n - N):=by lia
   have i:=ih (n - N) (by lia);have Lx:sumN (λk=>g (N+k)) (n - N)=sumN g (n - N):=dP λk _=>by rw[Go];exact Iv k
   rw[Nat.min_eq_right (by lia)];have e2:sumN g n=sumN g N+sumN g (n - N):=by
    conv=>lhs;rw[e1]
    rw[gT,Lx]
   rw[e2,<- i];have e3:min (n - N) N+(N - min (n - N) N)=N:=by lia
   have split:∀ f:Nat->Int,sumN f N=sumN f (min (n - N) N)+sumN (λk=>f (min (n - N) N+k)) (N - min (n - N) N):=λf=>by
    conv=>lhs;rw[<- e3]
    exact gT _ _ _
   rw[split,split g];have a:sumN (λj=>(((n:Int) - 1 - j) / N+1)*g j) (min (n - N) N)=sumN g (min (n - N) N)+sumN (λj=>((((n - N:Nat):Int) - 1 - j) / N+1)*g j) (min (n - N) N):=by
    rw[<- sL];refine dP λk hk=>?_;have q:((n:Int) - 1 - k) / N=(((n - N:Nat):Int) - 1 - k) / N+1:=by
     rw[show((n:Int) - 1 - k)=(((n - N:Nat):Int) - 1 - k)+1*N by lia,G7 _ _ (by lia)]
    rw[q,FW];lia
   have b:sumN (λk=>(((n:Int) - 1 - ((min (n - N) N+k:Nat):Int)) / N+1)*g (min (n - N) N+k)) (N - min (n - N) N)=sumN (λk=>g (min (n - N) N+k)) (N - min (n - N) N):=by
    refine dP λk hk=>?_;rw[Hj (by lia) (by lia)];simp
   rw[a,b];lia
def cntN(f:Nat->Int)(v:Int)(n:Nat):Int:=sumN (λk=>if f k=v then 1 else 0) n
def kj(f:Nat->Int)(v:Int):∀ n,0<=cntN f v n/\cntN f v n<=n
 |0=>by simp[cntN,sumN]
 |n+1=>by
  have:=kj f v n;unfold cntN at this ⊢;rw[sumN];split<;>lia
def BP{f:Nat->Int}{w:Nat}(hw:0<w)(Iv:∀ k,f (k+w)=f k)(v:Int)(m:Nat):((m / w:Nat):Int)*cntN f v w+cntN f v (m % w)=cntN f v m:=by
 have key:∀ q r:Nat,cntN f v (w*q+r)=(q:Int)*cntN f v w+cntN f v r:=λq=>by
  have sh:∀ q k,f (w*q+k)=f k:=λq=>by
   induction q with
   |zero=>intro k;rw[Nat.mul_zero,FI]
   |succ q ih=>intro k;rw[Hk,show w*q+w+k=w*q+k+w by lia,Iv];exact ih k
  induction q with
  |zero=>intro r;simp
  |succ q ih=>
   intro r;rw[Hk,show w*q+w+r=w*q+(w+r) by lia,ih,Fe,FW];have e:cntN f v (w+r)=cntN f v w+cntN f v r:=by
    unfold cntN;rw[gT];congr 1;refine dP λk _=>?_;rw[Go w k,Iv]
   rw[e];simp;lia
 have:=key (m / w) (m % w);rw[Nat.div_add_mod] at this;exact this.symm
def gU(y:y')(c:Nat):∀ (m a:Nat) (st:Array Nat × Nat),a+m=y.length+1->st.2<=a->st.1.size<=a->(forIn (List.range' a m) st (StrLaws.occBody y ⟨#[c]⟩ y.length (y.length+1))).run.fst.size=st.1.size+(((cs y).drop a).filter (·==c)).length
 |0,a,st,h,_,_=>by
  rw[Gv (by rw[bt];lia)];rfl
 |m+1,a,st,h,h1,h2=>by
  have l1:(⟨#[c]⟩:y').length=1:=rfl;have q:=StrLaws.subAt_eq y ⟨#[c]⟩ a;rw[List.range'_succ,Gb];by_cases ha:a<y.length
  .have hd:(cs y).drop a=(cs y)[a]'(by rw[bt];exact ha)::(cs y).drop (a+1):=Fw (by rw[bt];exact ha);rw[show y.cps.toList.drop a=_ from hd,l1] at q;rw[hd,List.filter_cons];by_cases e:(cs y)[a]'(by rw[bt];exact ha)=c
   .have eb:StrLaws.occBody y ⟨#[c]⟩ y.length (y.length+1) a st=pure (.yield (st.1.push a,a+1)):=by
     unfold StrLaws.occBody;rw[if_pos ⟨⟨⟨by lia,h1⟩,by rw[l1];lia⟩,by rw[q];simp[e]⟩,l1]
    rw[eb];have:=gU y c m (a+1) (st.1.push a,a+1) (by lia) (D7 _) (by simp;lia);simp only[e,beq_self_eq_true,if_true,Eb];refine Eq.trans this ?_;simp only[Array.size_push];lia
   .have eb:StrLaws.occBody y ⟨#[c]⟩ y.length (y.length+1) a st=pure (.yield (st.1,st.2)):=by
     unfold StrLaws.occBody;rw[if_neg];rintro⟨_,z⟩;rw[q] at z;simp at z;exact e z
    rw[eb];have:=gU y c m (a+1) st (by lia) (by lia) (by lia);rw[if_neg (by simpa using e)];exact this
  .have eb:StrLaws.occBody y ⟨#[c]⟩ y.length (y.length+1) a st=pure (.yield (st.1,st.2)):=by
    unfold StrLaws.occBody;rw[if_neg];rintro⟨⟨_,z⟩,_⟩;rw[l1] at z;lia
   rw[eb];have:=gU y c m (a+1) st (by lia) (by lia) (by lia);rw[Gv (by rw[bt];lia)];rw[Gv (by rw[bt];lia)] at this;exact this
def BQ(y:y')(c:Nat):(Builtin.Str.occurrences y ⟨#[c]⟩ 0 y.length (y.length+1)).length=((cs y).filter (·==c)).length:=by
 rw[StrLaws.occ_eq,Fx,gU y c _ 0 _ (by lia) (D7 _) (D7 _)];simp
def sM(f:Nat->Int)(b:∀ k,0<=f k/\f k<=6){v:Int}(v0:0<=v)(v6:v<=6):∀ n:Nat,(((((D9 n).map λk=>bj (f k)).filter (·==bj v)).length:Nat):Int)=cntN f v n
 |0=>rfl
 |n+1=>by
  rw[FQ,EQ,List.filter_append,Eg,Fe,sM f b v0 v6 n];show _=cntN f v n+_;congr 1;by_cases e:f n=v
  .simp[e]
  .have:¬ bj (f n)=bj v:=λz=>e (BM (b n).1 (b n).2 v0 v6 z);simp[this,e]
def BR(ok:p.Ok)(x y:Int)(v0:0<=v)(v6:v<=6)(n:Nat):(((cs (aX p x y n)).filter (·==bj v)).length:Int)=cntN (λk=>p.show (x+k) y) v n:=by
 rw[fT];exact sM _ (λk=>Pat.show_le ok.wf (by have:=ok.deep;lia) _ _) v0 v6 n
def BS(p:Pat)(x y:Int){r:Nat}(h:r<=n):Txt.slice (aX p x y n) o_ (be (r:Int))=aX p x y r:=by
 apply fQ;rw[slice_cps,fS,fT,show(aX p x y n).cps.toList=_ from fT p x y n,ki];have e1:HT.sIx n 0 o_=0:=rfl;have e2:HT.sIx n n (be (r:Int))=r:=by show(if(r:Int)<0 then((r:Int)+n).toNat else min (r:Int).toNat n)=r;rw[if_neg (by lia)];lia
 rw[e1,e2,Hf,Nat.sub_zero,<- List.map_take,List.take_range,Hi h]
def occC(t:y')(c:Nat):Int:=((Builtin.Str.occurrences t ⟨#[c]⟩ 0 t.length (t.length+1)).length:Nat)
def sN(ok:p.Ok)(x y:Int)(v0:0<=v)(v6:v<=6)(n:Nat):occC (aX p x y n) (bj v)=cntN (λk=>p.show (x+k) y) v n:=by
 unfold occC;rw[BQ,BR ok x y v0 v6]
def aT(p:Pat)(v left top:Int)(m n:Nat):Int:=sumN (λj=>cntN (λk=>p.show (left+k) (top+j)) v m) n
def countsL(p:Pat)(left top:Int)(m n:Nat):List Int:=(D9 7).map λ(v:Nat)=>aT p v left top m n
def BT:SpD:=λds R=>∃ (p:Pat) (x y v m:Int) (w:Nat),ds=[.str (aX p x y w),.str ⟨#[bj v]⟩,.int m]/\p.Ok/\0<=v/\v<=6/\0<w/\w<=720/\0<=m/\m<2 ^ 63/\p.Keeps w 0/\R (.int (cntN (λk=>p.show (x+k) y) v m.toNat))
def Pat.Fam.across(F:p.Fam w h s):p.Keeps w 0:=F.keeps (InF.one w h s)
def Pat.Fam.down(F:p.Fam w h s):p.Keeps 0 (w*h):=F.keeps ⟨-s,w,by rw[E1,Ey w s];lia,rfl⟩
def BU(hN:0<N)(k:p.Keeps 0 N)(v left top:Int)(m n:Nat):sumN (λj=>(((n:Int) - 1 - j) / N+1)*cntN (λk=>p.show (left+k) (top+j)) v m) (min n N)=aT p v left top m n:=by
 refine BO (g:=λj=>cntN (λk=>p.show (left+k) (top+j)) v m) hN (λj=>?_) n;unfold cntN;refine dP λi _=>?_;have e:p.show (left+i) (top+((j+N:Nat):Int))=p.show (left+i) (top+j):=by
  have:=k (left+i) (top+j);rw[EU] at this;rw[<- this,Fe,FH]
 simp only[e]
def sO{α:Type}(f g:Nat->α){i:Nat}(h:∀ v,v<n->v≠i->g v=f v):((D9 n).map f).set i (g i)=(D9 n).map g:=by
 apply FC;intro k;rw[Fk];by_cases hk:i=k
 .subst hk;simp only[if_true,Ef,Gs];by_cases hi:i<n
  .simp[hi]
  .simp[hi]
 .rw[if_neg hk];by_cases hi:k<n
  .simp[hi,h k hi (Ne.symm hk)]
  .simp[hi]
def BV:bR ".123456"=(D9 7).map λ(v:Nat)=>D.str ⟨#[bj (v:Int)]⟩:=by
 unfold bR;rw[show(".123456":y').cps.toList=[46,49,50,51,52,53,54] by decide+kernel];rfl
def bU(p:Pat)(left top:Int)(m n N k:Nat)(v:Int):Int:=sumN (λj=>(((n:Int) - 1 - j) / N+1)*cntN (λi=>p.show (left+i) (top+j)) v m) k
variable{top a_:Int}
def BW{W:Int}(hn:(a_ - top+1).toNat=n)(wN:W=(N:Int)):((if top+W<a_+1 then top+W else a_+1) - top).toNat=min n N:=by split<;>lia
def BX{W:Int}(a: -1000000000000<=top/\top<=1000000000000)(c: -1000000000000<=a_/\a_<=1000000000000)(w0:0<W)(w1:W<=720): -(2 ^ 62)<=top/\top<2 ^ 62/\-(2 ^ 62)<=(if top+W<a_+1 then top+W else a_+1)/\(if top+W<a_+1 then top+W else a_+1)<2 ^ 62:=by split<;>lia
def BY{k:Nat}(hn:(a_ - top+1).toNat=n)(hk:k<min n N):a_ - (top+k)=(n:Int) - 1 - k:=by lia
def sP{l r:Int}{m:Nat}(a: -1000000000000<=l/\l<=1000000000000)(b: -1000000000000<=r/\r<=1000000000000)(h:(r - l+1).toNat=m):m<=2000000000001:=by lia
def BZ(x:Int):(if 0>x then 0 else x)=(x.toNat:Int):=by split<;>lia
def B0:SpX:=λds R RX=>∃ (p:Pat) (d:D) (left top right a_:Int),ds=[d,.int left,.int top,.int right,.int a_]/\ca p d/\p.Ok/\(aZ left/\aZ top/\aZ right/\aZ a_->R (.lst ((countsL p left top (right - left+1).toNat (a_ - top+1).toNat).map D.int)))/\(¬ (aZ left/\aZ top/\aZ right/\aZ a_)->RX "TooFar" [])
def sQ(X Y:Int):(Pat.mir p).Keeps X Y↔p.Keeps (-X) Y:=by
 constructor<;>intro h x y
 .have:=h (-x) y;simp only[Pat.show,FY,Hl] at this;exact this
 .have:=h (-x) y;simp only[Pat.show,FY];exact this
def sR(X Y:Int):(Pat.tur p).Keeps X Y↔p.Keeps Y (-X):=by
 constructor<;>intro h x y
 .have:=h (-y) x;simp only[Pat.show,FY,Hl] at this;exact this
 .have:=h y (-x);simp only[Pat.show,FY];exact this
def sS(a b X Y:Int):(Pat.sh a b p).Keeps X Y↔p.Keeps X Y:=by
 constructor<;>intro h x y
 .have:=h (x+a) (y+b);simp only[Pat.show] at this;rw[show x+a+X - a=x+X by lia,show y+b+Y - b=y+Y by lia,show x+a - a=x by lia,show y+b - b=y by lia] at this;exact this
 .have:=h (x - a) (y - b);simp only[Pat.show];rw[show x+X - a=x - a+X by lia,show y+Y - b=y - b+Y by lia];exact this
def Pat.Least.mir(k:p.Least w h s):(Pat.mir p).Least w h (-s % w):=by
 refine⟨⟨k.f.w0,k.f.h0,cm k.f.w0,cn k.f.w0⟩,λx y=>?_⟩;rw[sQ,<- k.lat];have e:=ES (-s) w;generalize -s % w=r at e;generalize -s / w=t at e;constructor
 .rintro⟨i,j,rfl,rfl⟩;exact⟨j*t - i,j,by rw[e];grind,rfl⟩
 .rintro⟨i,j,ex,rfl⟩;exact⟨j*t - i,j,by rw[e];grind,rfl⟩
def Pat.Least.tur(k:p.Least w h s)(f:FamOf 0 w (-h) s w' h' s'):(Pat.tur p).Least w' h' s':=by
 refine⟨⟨f.1,f.2.1,f.2.2.1,f.2.2.2.1⟩,λx y=>?_⟩;rw[sR,<- k.lat,f.lat];constructor
 .rintro⟨i,j,rfl,rfl⟩;exact⟨i,j,by grind,by grind⟩
 .rintro⟨i,j,ex,ey⟩;exact⟨i,j,by grind,by grind⟩
def Pat.Least.sh(a b:Int)(k:p.Least w h s):(Pat.sh a b p).Least w h s:=⟨k.f,λx y=>by rw[sS,k.lat]⟩
structure Mv(p q:Pat)(b0 b1 b2 b3:Int):Prop where
 keeps:∀ X Y,q.Keeps X Y↔p.Keeps (b0*X+b1*Y) (b2*X+b3*Y)
 leaf:∀ l ls,p.leaves=l::ls->∃ l' ls',q.leaves=l'::ls'/\l'.w0=l.w0*b0+l.w1*b2/\l'.w1=l.w0*b1+l.w1*b3/\l'.w2=l.w2*b0+l.w3*b2/\l'.w3=l.w2*b1+l.w3*b3
 area:∀ w h s,p.Least w h s->∃ w' h' s',q.Least w' h' s'/\w'*h'=w*h
variable{b0 b1 b2 b3:Int}
def Mv.mir(m:Mv p q b0 b1 b2 b3):Mv p (.mir q) (-b0) b1 (-b2) b3:=by
 refine⟨λX Y=>?_,λl ls e=>?_,λw h s L=>?_⟩
 .rw[sQ,m.keeps,E4,E4,E1,E1]
 .obtain⟨l',ls',e',h0,h1,h2,h3⟩:=m.leaf l ls e;refine⟨_,_,by rw[Pat.leaves,e',En],?_,?_,?_,?_⟩<;>simp only[Leaf.by,h0,h1,h2,h3]<;>grind
 .obtain⟨w',h',s',L',e⟩:=m.area w h s L;exact⟨_,_,_,L'.mir,e⟩
def Mv.tur(m:Mv p q b0 b1 b2 b3):Mv p (.tur q) (-b1) b0 (-b3) b2:=by
 refine⟨λX Y=>?_,λl ls e=>?_,λw h s L=>?_⟩
 .rw[sR,m.keeps,E4,E4,E1,E1,Hm (b0*Y),Hm (b2*Y)]
 .obtain⟨l',ls',e',h0,h1,h2,h3⟩:=m.leaf l ls e;refine⟨_,_,by rw[Pat.leaves,e',En],?_,?_,?_,?_⟩<;>simp only[Leaf.by,h0,h1,h2,h3]<;>grind
 .obtain⟨w',h',s',L',e⟩:=m.area w h s L;obtain⟨w2,h2,s2,f,e2⟩:=fP (s:=s') L'.f.w0 L'.f.h0;exact⟨_,_,_,L'.tur f,by lia⟩
def Mv.sh(a b:Int)(m:Mv p q b0 b1 b2 b3):Mv p (.sh a b q) b0 b1 b2 b3:=by
 refine⟨λX Y=>?_,λl ls e=>?_,λw h s L=>?_⟩
 .rw[sS,m.keeps]
 .obtain⟨l',ls',e',h0,h1,h2,h3⟩:=m.leaf l ls e;refine⟨_,_,by rw[Pat.leaves,e',En],?_,?_,?_,?_⟩<;>simp only[Leaf.by,h0,h1,h2,h3]<;>grind
 .obtain⟨w',h',s',L',e⟩:=m.area w h s L;exact⟨_,_,_,L'.sh a b,e⟩
structure Side(a w:Int)(A t:Nat):Prop where
 n:aZ a
 A4:A<=4000000000000
 t1:t<=1000
 e:aZ (a+A*w+t - 1)
def Side.of{A t:Nat}(n:aZ a)(w0:0<w)(hA:(A:Int)<=(1000000000000 - a+1) / w)(h:(t<=720/\(t:Int)<=1000000000000 - a+1 - A*w/\¬ (a=-1000000000000/\A=0))\/(a=-1000000000000/\A=0/\1<=t/\t<=720)):Side a w A t:=by
 have h1:=Ex hA (show 0<=w by omega);have h2:=Int.ediv_mul_le (1000000000000 - a+1) (show w≠0 by omega);have h3:(A:Int)<=A*w:=by
  have:=Gk (show 1<=w by omega) (show 0<=(A:Int) by omega);omega
 unfold aZ at n;rcases h with⟨t7,ht,ne⟩|⟨e1,rfl,t0,t7⟩
 .refine⟨n,by omega,by omega,?_,by omega⟩;by_cases z:A=0
  .subst z;simp at ne ⊢;omega
  .omega
 .refine⟨n,by omega,by omega,?_,?_⟩<;>simp<;>omega
end My
end
section
namespace My
local macro_rules | `(tactic| k_memK) => `(tactic| exact⟨rfl, rfl, rfl, by decide +kernel, rfl, by decide +kernel, by decide +kernel⟩)
local macro_rules | `(tactic| k_places) => `(tactic| try simp only[Eu, Ev, My.aW])
open PySem PySem.Spec PyProof.Rows L2
def top(i:Nat):Stmt:=PySem.Challenge.pw_motiffield_k26_counts_all.main.body.getD i (.Pass ⟨0,0,0,0⟩)
abbrev km:PL:=top 50
abbrev ko:List Str:=["_law_script","_law_k"]
def B1:FnScope ["_law_script","_law_k"] ko (ag km):=by k_memK
abbrev kq:PL:=top 52
abbrev kr:List Str:=["_law_script","_law_k","_law_many"]
def sc__law_draws:FnScope ["_law_script","_law_k","_law_many","_law_left","_law_drawn","_law_turn","_law_seed"] kr (ag kq):=by k_memK
abbrev ku:PL:=top 55
abbrev kx:List Str:=["_law_draws_here"]
def sc__law_lines:FnScope ["_law_draws_here","_law_wide","_law_tall","_law_signs","_law_lines_here","_law_j","_law_line","_law_i","_law_place","_law_value"] kx (ag ku):=by k_memK
abbrev ky:PL:=top 53
abbrev kz:List Str:=["_law_draws_here"]
def sc__law_shift_pair:FnScope ["_law_draws_here","_law_a","_law_b","_law_c","_law_d"] kz (ag ky):=by k_memK
abbrev kA:PL:=top 54
abbrev kB:List Str:=["_law_lines_here","_law_one","_law_two"]
def sc__law_motif_text:FnScope ["_law_lines_here","_law_one","_law_two","_law_tail"] kB (ag kA):=by k_memK
abbrev kC:PL:=top 56
abbrev kD:List Str:=["_law_script","_law_k"]
def sc__law_motif:FnScope ["_law_script","_law_k","_law_draws_here","_law_lines_here","_law_one","_law_two","_law_leaf"] kD (ag kC):=by k_memK
abbrev gW:PL:=top 57
abbrev kE:List Str:=["_law_part","_law_draw"]
def sc__law_wrapped:FnScope ["_law_part","_law_draw","_law_across","_law_down","_law_old","_law_new","_law_shift","_law_head","_law_ways","_law_by","_law_leaves","_law_leaf","_law_a","_law_b","_law_c","_law_d","_law_e","_law_f","_law_way","_law_hues"] kE (ag gW):=by k_memK
abbrev kF:PL:=top 61
abbrev kG:List Str:=["_law_a","_law_b"]
def sc__law_gcd:FnScope ["_law_a","_law_b"] kG (ag kF):=by k_memK
abbrev kH:PL:=top 58
abbrev kI:List Str:=["_law_one","_law_two","_law_u","_law_v"]
def sc__law_on:FnScope ["_law_one","_law_two","_law_u","_law_v","_law_size"] kI (ag kH):=by k_memK
abbrev kJ:PL:=top 63
abbrev kK:List Str:=["_law_leaf"]
def sc__law_leaf_family:FnScope ["_law_leaf","_law_a","_law_b","_law_c","_law_d","_law_e","_law_f","_law_one","_law_two","_law_high","_law_wide","_law_lean"] kK (ag kJ):=by k_memK
abbrev kL:PL:=top 62
abbrev kM:List Str:=["_law_three","_law_x","_law_y"]
def B2:FnScope ["_law_three","_law_x","_law_y"] kM (ag kL):=by k_memK
abbrev kN:PL:=top 64
abbrev kO:List Str:=["_law_one","_law_two"]
def sc__law_both:FnScope ["_law_one","_law_two","_law_wide","_law_high","_law_x"] kO (ag kN):=by k_memK
abbrev kP:PL:=top 65
abbrev kQ:List Str:=["_law_leaves"]
def sc__law_family:FnScope ["_law_leaves","_law_both_here","_law_leaf"] kQ (ag kP):=by k_memK
abbrev kR:PL:=top 66
abbrev kS:List Str:=["_law_upper","_law_lower"]
def sc__law_over:FnScope ["_law_upper","_law_lower","_law_leaves"] kS (ag kR):=by k_memK
abbrev kT:PL:=top 67
abbrev kU:List Str:=["_law_script","_law_k"]
def sc__law_pattern:FnScope ["_law_script","_law_k","_law_plan","_law_part","_law_turn","_law_step","_law_other"] kU (ag kT):=by k_memK
abbrev kW:PL:=bg (top 2) 0
abbrev kX:List Str:=["self","place"]
def B3:FnScope ["self","place"] kX (ag kW):=by k_memK
abbrev kY:PL:=bg (top 38) 1
abbrev kZ:List Str:=["self","allowed"]
def B4:FnScope ["self","allowed"] kZ (ag kY):=by k_memK
abbrev lf:PL:=bg (top 38) 2
abbrev lh:List Str:=["self","allowed"]
def sc_Reading_take:FnScope ["self","allowed","sign"] lh (ag lf):=by k_memK
abbrev ll:PL:=top 41
abbrev lm:List Str:=["reading","least","most"]
def sc_line_from:FnScope ["reading","least","most","line","column"] lm (ag ll):=by k_memK
abbrev lp:PL:=top 42
abbrev lq:List Str:=["reading"]
def sc_lines_from:FnScope ["reading","lines","width"] lq (ag lp):=by k_memK
abbrev lr:PL:=top 39
abbrev lu:List Str:=["reading"]
def sc_number_from:FnScope ["reading","written"] lu (ag lr):=by k_memK
abbrev lv:PL:=top 40
abbrev lw:List Str:=["reading"]
def sc_shift_from:FnScope ["reading","x"] lw (ag lv):=by k_memK
abbrev lx:PL:=top 7
abbrev ly:List Str:=["first","second"]
def sc_levelled:FnScope ["first","second","times","rest"] ly (ag lx):=by k_memK
abbrev lz:PL:=top 9
abbrev lC:List Str:=["first","second"]
def sc_spread:FnScope ["first","second","pair","width"] lC (ag lz):=by k_memK
abbrev lD:PL:=top 10
abbrev lF:List Str:=["family","x","y"]
def sc_home:FnScope ["family","x","y","width","height","slant"] lF (ag lD):=by k_memK
abbrev lG:PL:=top 16
abbrev lH:List Str:=["lines","family"]
def sc_hues_by_home:FnScope ["lines","family","hues","row","line","column","sign"] lH (ag lG):=by k_memK
abbrev lJ:PL:=bg (top 17) 0
abbrev lK:List Str:=["self","place","lines","first","second"]
def B5:FnScope ["self","place","lines","first","second"] lK (ag lJ):=by k_memK
abbrev lL:PL:=top 43
abbrev lM:List Str:=["reading"]
def sc_motif_from:FnScope ["reading","place","lines","first","second"] lM (ag lL):=by k_memK
abbrev lN:PL:=bg (top 20) 0
abbrev lP:List Str:=["self","form"]
def B6:FnScope ["self","form"] lP (ag lN):=by k_memK
abbrev lQ:PL:=bg (top 21) 0
abbrev lR:List Str:=["self","form"]
def B7:FnScope ["self","form"] lR (ag lQ):=by k_memK
abbrev lU:PL:=bg (top 18) 0
abbrev lV:List Str:=["self","above","below"]
def B8:FnScope ["self","above","below"] lV (ag lU):=by k_memK
abbrev lW:PL:=bg (top 19) 0
abbrev lY:List Str:=["self","form","x","y"]
def B9:FnScope ["self","form","x","y"] lY (ag lW):=by k_memK
abbrev lZ:PL:=bg (top 22) 0
abbrev ma:List Str:=["self","form","old","new"]
def Ca:FnScope ["self","form","old","new"] ma (ag lZ):=by k_memK
abbrev gX:PL:=top 44
abbrev fV:List Str:=["reading","around"]
def sc_over_from:FnScope ["reading","around","above","below"] fV (ag gX):=by k_memK
abbrev gY:PL:=top 45
abbrev fW:List Str:=["reading","around"]
def sc_shifted_from:FnScope ["reading","around","shift"] fW (ag gY):=by k_memK
abbrev gZ:PL:=top 46
abbrev fX:List Str:=["reading","around"]
def sc_rehue_from:FnScope ["reading","around","old","new"] fX (ag gZ):=by k_memK
abbrev hJ:PL:=top 47
abbrev cz:List Str:=["reading","around"]
def sc_form_from:FnScope ["reading","around","sign"] cz (ag hJ):=by k_memK
abbrev me:PL:=bg (top 38) 0
abbrev mf:List Str:=["self","text"]
def Cb:FnScope ["self","text"] mf (ag me):=by k_memK
abbrev mi:PL:=bg (top 37) 0
abbrev mj:List Str:=["self","text","shifts","form"]
def Cc:FnScope ["self","text","shifts","form"] mj (ag mi):=by k_memK
abbrev ml:PL:=bg (top 3) 0
abbrev mm:List Str:=["self","place"]
def Cd:FnScope ["self","place"] mm (ag ml):=by k_memK
abbrev mn:PL:=top 8
abbrev mo:List Str:=["one","two"]
def sc_measure:FnScope ["one","two","last"] mo (ag mn):=by k_memK
abbrev mq:PL:=top 11
abbrev mv:List Str:=["one","two"]
def sc_met:FnScope ["one","two","common","width","rise","start","gap","climbs","steps"] mv (ag mq):=by k_memK
abbrev mx:PL:=top 12
abbrev my:List Str:=["family"]
def Ce:FnScope ["family"] my (ag mx):=by k_memK
abbrev mz:PL:=top 13
abbrev mB:List Str:=["family"]
def Cf:FnScope ["family"] mB (ag mz):=by k_memK
abbrev hU:PL:=bg (top 17) 1
abbrev cq:List Str:=["self"]
def Cg:FnScope ["self"] cq (ag hU):=by k_memK
abbrev hV:PL:=bg (top 18) 1
abbrev hZ:List Str:=["self"]
def sc_Over_family:FnScope ["self","first"] hZ (ag hV):=by k_memK
abbrev ia:PL:=bg (top 19) 1
abbrev ib:List Str:=["self"]
def Ch:FnScope ["self"] ib (ag ia):=by k_memK
abbrev ic:PL:=bg (top 20) 1
abbrev ie:List Str:=["self"]
def Ci:FnScope ["self"] ie (ag ic):=by k_memK
abbrev ig:PL:=bg (top 21) 1
abbrev ii:List Str:=["self"]
def Cj:FnScope ["self"] ii (ag ig):=by k_memK
abbrev ij:PL:=bg (top 22) 1
abbrev ik:List Str:=["self"]
def Ck:FnScope ["self"] ik (ag ij):=by k_memK
abbrev mC:PL:=top 48
abbrev mD:List Str:=["text"]
def sc_read:FnScope ["text","reading","form","family"] mD (ag mC):=by k_memK
abbrev mF:PL:=top 69
abbrev mG:List Str:=["_law_value"]
def Cl:FnScope ["_law_value"] mG (ag mF):=by k_memK
abbrev mH:PL:=top 59
abbrev mI:List Str:=["_law_leaf","_law_x","_law_y"]
def sc__law_leaf_shows:FnScope ["_law_leaf","_law_x","_law_y","_law_way","_law_u","_law_v","_law_j","_law_i"] mI (ag mH):=by k_memK
abbrev mJ:PL:=top 60
abbrev mK:List Str:=["_law_leaves","_law_x","_law_y"]
def sc__law_shows:FnScope ["_law_leaves","_law_x","_law_y","_law_leaf","_law_hue"] mK (ag mJ):=by k_memK
abbrev mL:PL:=top 70
abbrev mM:List Str:=["_law_leaves","_law_left","_law_top","_law_wide","_law_high"]
def sc__law_due:FnScope ["_law_leaves","_law_left","_law_top","_law_wide","_law_high","_law_due_here","_law_y","_law_x"] mM (ag mL):=by k_memK
abbrev mN:PL:=top 27
abbrev mO:List Str:=["x","y"]
def Cm:FnScope ["x","y"] mO (ag mN):=by k_memK
abbrev il:PL:=bg (top 17) 2
abbrev cr:List Str:=["self","x","y"]
def Cn:FnScope ["self","x","y"] cr (ag il):=by k_memK
abbrev im:PL:=bg (top 18) 2
abbrev io:List Str:=["self","x","y"]
def sc_Over_shows:FnScope ["self","x","y","hue"] io (ag im):=by k_memK
abbrev ir:PL:=bg (top 19) 2
abbrev iu:List Str:=["self","x","y"]
def Co:FnScope ["self","x","y"] iu (ag ir):=by k_memK
abbrev iw:PL:=bg (top 20) 2
abbrev iy:List Str:=["self","x","y"]
def Cp:FnScope ["self","x","y"] iy (ag iw):=by k_memK
abbrev iz:PL:=bg (top 21) 2
abbrev iA:List Str:=["self","x","y"]
def Cq:FnScope ["self","x","y"] iA (ag iz):=by k_memK
abbrev iB:PL:=bg (top 22) 2
abbrev iC:List Str:=["self","x","y"]
def sc_Rehue_shows:FnScope ["self","x","y","hue"] iC (ag iB):=by k_memK
abbrev mQ:PL:=top 28
abbrev mR:List Str:=["pattern","x","y"]
def Cr:FnScope ["pattern","x","y"] mR (ag mQ):=by k_memK
abbrev iD:PL:=top 29
abbrev mU:List Str:=["pattern","x","y","many"]
def Cs:FnScope ["pattern","x","y","many"] mU (ag iD):=by k_memK
abbrev iE:PL:=top 30
abbrev mV:List Str:=["pattern"]
def Ct:FnScope ["pattern"] mV (ag iE):=by k_memK
abbrev mW:PL:=top 31
abbrev mY:List Str:=["family","rows","x","y"]
def sc_round_row:FnScope ["family","rows","x","y","cell","row"] mY (ag mW):=by k_memK
abbrev mZ:PL:=top 33
abbrev ng:List Str:=["row","sign","many"]
def Cu:FnScope ["row","sign","many"] ng (ag mZ):=by k_memK
abbrev iF:PL:=top 34
abbrev nh:List Str:=["pattern","left","top","right","bottom"]
def sc_count_all:FnScope ["pattern","left","top","right","bottom","family","rows","many","again","counts","y","times","row","hue","sign"] nh (ag iF):=by k_memK
abbrev nj:PL:=top 51
abbrev nn:List Str:=["_law_found"]
def Cw:FnScope ["_law_found"] nn (ag nj):=by k_memK
abbrev nq:PL:=top 68
abbrev nt:List Str:=["_law_found","_law_due_here"]
def sc__law_seven:FnScope ["_law_found","_law_due_here","_law_k"] nt (ag nq):=by k_memK
abbrev fY:PL:=top 71
abbrev nu:List Str:=["_law_script"]
def sc_law:FnScope ["_law_script","_law_parts","_law_made","_law_asked","_law_k","_law_left","_law_top","_law_wide","_law_high","_law_due_here","_law_found"] nu (ag fY):=by k_memK
def due7(p:Pat)(left top:Int)(m:Nat)(n k:Nat):List Int:=(D9 7).map λ(v:Nat)=>aT p v left top m n+cntN (λi=>p.show (left+i) (top+n)) v k
variable{p:Pat}
def Cy(ok:p.Ok)(left top:Int)(m n k:Nat):∃ u:Nat,u<7/\p.show (left+k) (top+n)=(u:Int)/\(due7 p left top m n k)[u]?=be (aT p u left top m n+cntN (λi=>p.show (left+i) (top+n)) u k)/\((due7 p left top m n k).map D.int).set u (D.int (aT p u left top m n+cntN (λi=>p.show (left+i) (top+n)) u k+1))=(due7 p left top m n (k+1)).map D.int:=by
 have b:=Pat.show_le ok.wf (by have:=ok.deep;lia) (left+k) (top+n);obtain⟨u,hu⟩:∃ u:Nat,p.show (left+k) (top+n)=(u:Int):=⟨(p.show (left+k) (top+n)).toNat,by lia⟩;have u7:u<7:=by lia
 have cs:∀ v:Int,cntN (λi=>p.show (left+i) (top+n)) v (k+1)=cntN (λi=>p.show (left+i) (top+n)) v k+if p.show (left+k) (top+n)=v then 1 else 0:=λv=>rfl
 refine⟨u,u7,hu,by unfold due7;simp[u7],?_⟩;unfold due7;rw[Fu,Fu];have:=sO (n:=7) (i:=u) (λ(v:Nat)=>D.int (aT p v left top m n+cntN (λi=>p.show (left+i) (top+n)) v k)) (λ(v:Nat)=>D.int (aT p v left top m n+cntN (λi=>p.show (left+i) (top+n)) v (k+1))) (λv hv ne=>by
  show D.int _=D.int _;rw[cs,hu,if_neg (by lia),EU])
 refine Eq.trans ?_ this;show List.set _ u _=List.set _ u _;rw[cs,hu,if_pos rfl,FH];rfl
def Cz(p:Pat)(left top:Int)(m n:Nat):due7 p left top m n m=due7 p left top m (n+1) 0:=by
 unfold due7;apply FD;intro v _;show _=(aT p v left top m n+_)+0;rw[EU]
def CA(p:Pat)(left top:Int)(m n:Nat):due7 p left top m n 0=countsL p left top m n:=by
 unfold due7 countsL;apply FD;intro v _;show _+0=_;rw[EU]
def cnt7{f:Nat->Int}(b:∀ k,0<=f k/\f k<=6)(m:Nat):cntN f 0 m+cntN f 1 m+cntN f 2 m+cntN f 3 m+cntN f 4 m+cntN f 5 m+cntN f 6 m=m:=by
 induction m with
 |zero=>rfl
 |succ m ih=>
  have st:∀ v:Int,cntN f v (m+1)=cntN f v m+if f m=v then 1 else 0:=λv=>rfl
  rw[st,st,st,st,st,st,st];have:=b m;rcases(by lia:f m=0\/f m=1\/f m=2\/f m=3\/f m=4\/f m=5\/f m=6) with e|e|e|e|e|e|e<;>rw[e]<;>simp<;>lia
def rect7(ok:p.Ok)(l t:Int)(m n:Nat):aT p 0 l t m n+aT p 1 l t m n+aT p 2 l t m n+aT p 3 l t m n+aT p 4 l t m n+aT p 5 l t m n+aT p 6 l t m n=(m:Int)*n:=by
 induction n with
 |zero=>simp[aT,sumN]
 |succ n ih=>
  have st:∀ v:Int,aT p v l t m (n+1)=aT p v l t m n+cntN (λk=>p.show (l+k) (t+n)) v m:=λv=>rfl;have c:=cnt7 (f:=λk=>p.show (l+(k:Int)) (t+(n:Int))) (λk=>Pat.show_le ok.wf (by have:=ok.deep;lia) _ _) m;rw[st,st,st,st,st,st,st,Fe,Int.mul_add];lia
def dQ(p:Pat)(v l t:Int)(m n:Nat):0<=aT p v l t m n:=by
 induction n with
 |zero=>exact Int.le_refl 0
 |succ n ih=>
  have st:aT p v l t m (n+1)=aT p v l t m n+cntN (λk=>p.show (l+k) (t+n)) v m:=rfl;have:=(kj (λk=>p.show (l+(k:Int)) (t+(n:Int))) v m).1;lia
def CB(p:Pat)(l t:Int)(m n:Nat):countsL p l t m n=[aT p 0 l t m n,aT p 1 l t m n,aT p 2 l t m n,aT p 3 l t m n,aT p 4 l t m n,aT p 5 l t m n,aT p 6 l t m n]:=rfl
def CC(ok:p.Ok)(l t:Int)(m n:Nat):(countsL p l t m n).sum=(m:Int)*n/\∀ a∈countsL p l t m n,0<=a/\a<=(m:Int)*n:=by
 have r:=rect7 ok l t m n;have p0:=dQ p 0 l t m n;have p1:=dQ p 1 l t m n;have p2:=dQ p 2 l t m n;have p3:=dQ p 3 l t m n;have p4:=dQ p 4 l t m n;have p5:=dQ p 5 l t m n;have p6:=dQ p 6 l t m n;rw[CB];constructor
 .simp only[Gg,List.sum_nil];lia
 .intro a ha;simp only[Ea,E6,or_false] at ha;rcases ha with e|e|e|e|e|e|e<;>subst e<;>constructor<;>lia
def AskOk(p:Pat)(d:D):Prop:=∃ (l t:Int) (m n:Nat),d= .lst [.int l,.int t,.int m,.int n,.lst ((countsL p l t m n).map D.int)]/\m<=9/\n<=9/\(-999999999999<=l/\l<=999999999991)/\(-999999999999<=t/\t<=999999999991)
section
variable {V:Bx}
abbrev iG(V:Bx):Prop:=V.D 1 "_law_at" ko zQ
def CD(T:V.T "_law_at" km ko)(uC:V.m "len"):iG V:=by
 refine Tx.okDW T B1 (λds R h=>?_) (λf cdv A outer s H E J hr=>⟨_,((ah (bu (dZ (aa 1) (cN uC (ad (aa 0) ae))) (ar (aA (af (aa 0) (aa 1)))) bn)
   (ar (aA ac)))),λds R h=>?_⟩)
 .obtain⟨ns,k,rfl,_⟩:=h;rfl
 .obtain⟨ns,k,rfl,hk,hR⟩:=h;refine ite2 (λc=>?_) (λc=>?_)
  .have c':=of_decide_eq_true c;rw[Ef] at c';exact⟨_,rB hk c',hR⟩
  .have c':=of_decide_eq_false (EF.mpr c);rw[Ef] at c';rw[zP (by lia)] at hR;exact hR
abbrev iH(V:Bx):Prop:=V.D 2 "_law_draws" kr Ac
def CF(T:V.T "_law_draws" kq kr)(uA:V.m "range")(uU:iG V):iH V:=by
 refine Tx.okDW T sc__law_draws (λds R h=>?_) (λf cdv A outer s H E J hr=>⟨_,((ah (am 3 sc__law_draws.nd (az uU hr (ad (aa 0) (ad (aa 1) ae))))
   (ah (fE 4 sc__law_draws.nd ae)
   (ah (bu (bx (aw (az uU hr (ad (aa 0) (ad (ao (aa 1) ac) ae))) ac) ac) (ah (cC 5 PassesOwn.never rfl sc__law_draws.nd uA (aa 2) (ah (eE 4 (aw (aa 3) ac))
     (ar (am 3 sc__law_draws.nd (aV (aa 3) ac)))))
    (eA 4 (ar (aA (aa 4))))) bn)
   (ah (am 6 sc__law_draws.nd (aw (ao (aa 3) ac) ac))
   (ah (cC 5 PassesOwn.never rfl sc__law_draws.nd uA (aa 2) (ah (am 6 sc__law_draws.nd (aw (ao (ao (au (aa 6) ac) (az uU hr (ad (aa 0) (ad (ao (ao (aa 1) ac) (aw (aa 5) ac)) ae)))) (aa 5)) ac))
    (ar (eE 4 (aw (aw (au (aa 6) ac) ac) ac)))))
   (eA 4 (ar (aA (aa 4)))))))))),λds R h=>?_⟩)
 .obtain⟨_,_,_,rfl,_⟩:=h;rfl
 .obtain⟨ns,k,n,rfl,hk,hn,hR⟩:=h;refine⟨λd=>∃ v:Int,d= .int v,⟨ns,k,rfl,hk,_,rfl⟩,?_⟩;rintro _ ⟨left,rfl⟩;k_places;refine⟨by simp,?_⟩;refine⟨ns,k+1,rfl,by lia,by decide,ite2 (λ_=>?_) (λ_=>?_)⟩
  .refine⟨⟨by lia,by lia⟩,λi z=>∃ (xs:List Int) (l:Int) (o p:Option D),z=[be (.rol (ns.map D.int)),be (.int k),be (.int n),be (.int l),be (.own (xs.map D.int)),o,p]/\xs.length=i/\Drawn xs,⟨[],left,_,_,rfl,rfl,(λx hx=>by cases hx)⟩,?_,?_⟩
   .rintro i x z hi ⟨xs,l,o,p,rfl,hl,hd⟩;k_places;have v3:i<n:=by simpa using(Em.mp hi).1
    refine⟨by decide,by simp;lia,?_⟩;refine⟨λd=>∃ v:Int,d= .int v,⟨⟨by decide,by decide⟩,_,rfl⟩,?_⟩;rintro _ ⟨l',rfl⟩;k_places;rw[rE];exact⟨_,l',_,_,rfl,by simp[hl],rF hd (cm (by decide)) (cn (by decide))⟩
   .rintro z ⟨xs,l,o,p,rfl,hl,hd⟩;k_places;exact hR xs (by simpa using hl) hd
  .refine⟨λd=>∃ v:Int,d= .int v/\0<=v/\v<2147483647,⟨by decide,_,rfl,cm (by decide),cn (by decide)⟩,?_⟩;rintro _ ⟨Ly,rfl,s1,s2⟩;k_places;refine⟨⟨by lia,by lia⟩,λi z=>∃ (xs:List Int) (sd:Int) (o:Option D),z=[be (.rol (ns.map D.int)),be (.int k),be (.int n),be (.int left),be (.own (xs.map D.int)),o,be (.int sd)]/\xs.length=i/\Drawn xs/\0<=sd/\sd<2147483647,⟨[],Ly,_,rfl,rfl,(λx hx=>by cases hx),s1,s2⟩,?_,?_⟩
   .rintro i x z hi ⟨xs,sd,o,rfl,hl,hd,s1,s2⟩;k_places;have v3:i<n:=by simpa using(Em.mp hi).1
    have ex:x= .int (i:Int):=by simp[v3] at hi;exact hi.symm
    subst ex;refine⟨λd=>∃ v:Int,d= .int v/\0<=v/\v<2147483647,⟨.inr ⟨by decide,by decide⟩,by decide,ns,_,rfl,by lia,by decide,_,rfl,cm (by decide),cn (by decide)⟩,?_⟩;rintro _ ⟨Oz,rfl,t1,t2⟩;k_places;refine⟨.inr ⟨by decide,by decide⟩,by decide,by decide,by simp;lia,?_⟩;rw[rE];exact⟨_,Oz,_,rfl,by simp[hl],rF hd (cm (by decide)) (cn (by decide)),t1,t2⟩
   .rintro z ⟨xs,sd,o,rfl,hl,hd,_⟩;k_places;exact hR xs (by simpa using hl) hd
abbrev nv(V:Bx):Prop:=V.D 1 "_law_lines" kx An
def CG(T:V.T "_law_lines" ku kx)(uA:V.m "range")(uC:V.m "len"):nv V:=by
 refine Tx.okDW T sc__law_lines (λds R h=>?_) (λf cdv A outer s H E J hr=>⟨_,((ah (am 1 sc__law_lines.nd (ao ac (aw (af (aa 0) ac) ac)))
   (ah (am 2 sc__law_lines.nd (ao ac (aw (af (aa 0) ac) ac)))
   (ah (fD (bx (aw (af (aa 0) ac) ac) ac) (ah (am 1 sc__law_lines.nd (ao ac (aw (af (aa 0) ac) ac)))
    (ar (am 2 sc__law_lines.nd (ao ac (aw (af (aa 0) ac) ac))))) bn)
   (ah (am 3 sc__law_lines.nd (af (bo (ad ay (ad ay (ad ay (ad ay ae))))) (aw (af (aa 0) ac) ac)))
   (ah (fE 4 sc__law_lines.nd ae)
   (ah (cC 5 PassesOwn.never rfl sc__law_lines.nd uA (aa 2) (ah (am 6 sc__law_lines.nd ay)
    (ah (cC 7 PassesOwn.never rfl sc__law_lines.nd uA (aa 1) (ah (am 8 sc__law_lines.nd (ao (au (aa 5) (aa 1)) (aa 7)))
     (ah (am 9 sc__law_lines.nd (aw (aV (af (aa 0) (ao ac (aV (aa 8) ac))) (af (bo (ad ac (ad ac ae))) (aw (aa 8) ac))) ac))
     (ar (am 6 sc__law_lines.nd (ao (aa 6) (af (aa 3) (aw (aa 9) (cN uC (ad (aa 3) ae))))))))))
    (ar (eE 4 (aa 6))))))
   (eA 4 (ar (aA (aa 4))))))))))),λds R h=>?_⟩)
 .obtain⟨_,rfl,_⟩:=h;rfl
 .obtain⟨xs,rfl,hl,hd,hR⟩:=h;have v9:∀ k:Nat,k<40->atI (xs.map D.int) (k:Int)=be (.int (cell xs k)):=λk hk=>cw (by lia) (by simpa using(by lia:k<xs.length));have a0:atI (xs.map D.int) 0=be (.int (cell xs 0)):=v9 0 (by decide);have a1:atI (xs.map D.int) 1=be (.int (cell xs 1)):=v9 1 (by decide);have a2:atI (xs.map D.int) 2=be (.int (cell xs 2)):=v9 2 (by decide);have a3:atI (xs.map D.int) 3=be (.int (cell xs 3)):=v9 3 (by decide);clear hl;refine⟨λd=>∃ v:Int,d= .int v/\1<=v/\v<=8,⟨_,a0,by decide,_,rfl,by lia⟩,?_⟩;rintro _ ⟨w0,rfl,OA⟩;k_places;refine⟨λd=>∃ v:Int,d= .int v/\1<=v/\v<=8,⟨_,a1,by decide,_,rfl,by lia⟩,?_⟩;rintro _ ⟨t0,rfl,Po⟩;k_places;refine⟨λz=>∃ w t:Nat,z=[be (.lst (xs.map D.int)),be (.int w),be (.int t),o_,o_,o_,o_,o_,o_,o_]/\(1<=w/\w<=8)/\(1<=t/\t<=8),⟨_,a2,by decide,ite2 (λ_=>?_) (λ_=>?_)⟩,?_⟩
  .refine⟨λd=>∃ v:Nat,d= .int v/\1<=v/\v<=8,⟨_,a0,by decide,(1+cell xs 0 % 8).toNat,by rw[EE (by lia)],by lia⟩,?_⟩;rintro _ ⟨w,rfl,hw⟩;k_places;refine⟨λd=>∃ v:Nat,d= .int v/\1<=v/\v<=8,⟨_,a1,by decide,(1+cell xs 1 % 8).toNat,by rw[EE (by lia)],by lia⟩,?_⟩;rintro _ ⟨t,rfl,ht⟩;k_places;exact⟨w,t,rfl,hw,ht⟩
  .obtain⟨w,rfl⟩:∃ w:Nat,w0=(w:Int):=⟨w0.toNat,by lia⟩;obtain⟨t,rfl⟩:∃ t:Nat,t0=(t:Int):=⟨t0.toNat,by lia⟩;exact⟨w,t,rfl,by lia,by lia⟩
  rintro _ ⟨w,t,rfl,hw,ht⟩;k_places;obtain⟨sg,es,hs⟩:=Aj (cell xs 3);refine⟨λd=>d= .str sg,⟨by simp,_,a3,by decide,_,es,rfl⟩,?_⟩;rintro _ rfl;k_places;refine⟨by simp,?_⟩;refine⟨⟨by lia,by lia⟩,λk z=>∃ (L:List y') (o1 o2 o3 o4 o5:Option D),z=[be (.lst (xs.map D.int)),be (.int w),be (.int t),be (.str sg),be (.own (L.map D.str)),o1,o2,o3,o4,o5]/\L.length=k/\∀ l∈L,l.length=w/\∀ c∈cs l,aG c,⟨[],_,_,_,_,_,rfl,rfl,(λx hx=>by cases hx)⟩,?_,?_⟩
  .rintro j x z hj ⟨L,o1,o2,o3,o4,o5,rfl,hL,HC⟩;k_places;have Iw:j<t:=by simpa using(Em.mp hj).1
   have ex:x= .int (j:Int):=by simp[Iw] at hj;exact hj.symm
   subst ex;refine⟨λd=>d= .str "",rfl,?_⟩;rintro _ rfl;k_places;refine⟨⟨by lia,by lia⟩,λi z=>∃ (ln:y') (o3 o4 o5:Option D),z=[be (.lst (xs.map D.int)),be (.int w),be (.int t),be (.str sg),be (.own (L.map D.str)),be (.int j),be (.str ln),o3,o4,o5]/\ln.length=i/\∀ c∈cs ln,aG c,⟨_,_,_,_,rfl,rfl,(λc hc=>by rw[rG] at hc;cases hc)⟩,?_,?_⟩
   .rintro i y z hi ⟨ln,o3,o4,o5,rfl,Kh,Lz⟩;k_places;have v3:i<w:=by simpa using(Em.mp hi).1
    have ey:y= .int (i:Int):=by simp[v3] at hi;exact hi.symm
    subst ey;have pb:=bz (a:=(j:Int)) (d:=(w:Int)) (A:=7) (B:=8) (by lia) (by lia);have pn:0<=(j:Int)*(w:Int):=Gh (by lia) (by lia);refine⟨λd=>∃ p:Nat,d= .int p/\p<=63,⟨.inl ⟨by lia,by lia⟩,((j:Int)*w+i).toNat,by rw[EE (by lia)],by lia⟩,?_⟩;rintro _ ⟨p,rfl,hp⟩;k_places;obtain⟨m,em,hm⟩:=Ak (p:Int);have ap:=v9 (8+p / 2) (by lia);have ec:((8+p / 2:Nat):Int)=8+(p:Int) / 2:=by lia
    rw[ec] at ap;refine⟨λd=>∃ v:Int,d= .int v,⟨⟨by decide,by decide⟩,_,ap,by simp,by decide,_,em,⟨by lia,by lia⟩,by decide,_,rfl⟩,?_⟩;rintro _ ⟨v,rfl⟩;k_places;obtain⟨c,⟨h1,h2⟩,h3⟩:=Ae hs v;refine⟨λd=>∃ x:y',d= .str x/\x.length=i+1/\∀ c∈cs x,aG c,⟨h1,by have:=hs.1;lia,c,⟨h1,h2⟩,?_,_,rfl,Al Kh Lz h3⟩,?_⟩
    .rw[Kh];show i+1<=1000000;lia
    rintro _ ⟨x,rfl,g1,g2⟩;k_places;exact⟨x,_,_,_,rfl,g1,g2⟩
   .rintro z ⟨ln,o3,o4,o5,rfl,Kh,Lz⟩;k_places;have LA:ln.length=w:=by simpa using Kh
    refine⟨by simp[hL];lia,?_⟩;rw[Am];refine⟨_,_,_,_,_,_,rfl,by simp[hL],λl hl=>?_⟩;rcases EC.mp hl with q|q
    .exact HC l q
    .rw[D8.mp q];exact⟨LA,Lz⟩
  .rintro z ⟨L,o1,o2,o3,o4,o5,rfl,hL,HC⟩;k_places;exact hR L (Rows.of ht.1 ht.2 (by simpa using hL) hw.1 hw.2 HC)
abbrev nw(V:Bx):Prop:=V.D 1 "_law_shift_pair" kz Ad
def CH(T:V.T "_law_shift_pair" ky kz)(uD:V.m "int"):nw V:=by
 refine Tx.okDW T sc__law_shift_pair (λds R h=>?_) (λf cdv A outer s H E J hr=>⟨_,((ah (bu (bx (aw (aV (af (aa 0) ac) ac) ac) ac) (ar (aA (bo (ad (aL (ad (ao ac (aw (af (aa 0) ac) ac)) (ad ac ae))) (ad (aL (ad ac (ad (ao ac (aw (af (aa 0) ac) ac)) ae))) ae))))) bn)
   (ah (bu (bx (aw (aV (af (aa 0) ac) ac) ac) ac) (ar (aA (bo (ad (aL (ad (ao ac (aw (af (aa 0) ac) ac)) (ad ac ae))) (ad (aL (ad (aS (aw (af (aa 0) ac) ac) ac) (ad (ao ac (aw (af (aa 0) ac) ac)) ae))) ae))))) bn)
   (ah (am 1 sc__law_shift_pair.nd (aS (aw (af (aa 0) ac) ac) ac))
   (ah (am 2 sc__law_shift_pair.nd (aS (aw (af (aa 0) ac) ac) ac))
   (ah (am 3 sc__law_shift_pair.nd (aS (aw (af (aa 0) ac) ac) ac))
   (ah (am 4 sc__law_shift_pair.nd (aS (aw (af (aa 0) ac) ac) ac))
   (ah (am 1 sc__law_shift_pair.nd (ao (aa 1) (gC uD (ad (gA (dv (aa 1) ac) (gz (dv (aa 2) ac))) ae))))
   (ah (bu (bx (au (aa 1) (aa 4)) (au (aa 2) (aa 3))) (ar (aA (bo (ad (aL (ad (aa 1) (ad (aa 2) ae))) (ad (aL (ad (bV (aa 2)) (ad (aa 1) ae))) ae))))) bn)
   (ar (aA (bo (ad (aL (ad (aa 1) (ad (aa 2) ae))) (ad (aL (ad (aa 3) (ad (aa 4) ae))) ae)))))))))))))),λds R h=>?_⟩)
 .obtain⟨_,rfl,_⟩:=h;rfl
 .obtain⟨xs,rfl,hl,hd,hR⟩:=h;have a3:=cw (xs:=xs) (k:=3) (by decide) (show 3<xs.length by lia);have a4:=cw (xs:=xs) (k:=4) (by decide) (show 4<xs.length by lia);have a5:=cw (xs:=xs) (k:=5) (by decide) (show 5<xs.length by lia);have a6:=cw (xs:=xs) (k:=6) (by decide) (show 6<xs.length by lia);have a7:=cw (xs:=xs) (k:=7) (by decide) (show 7<xs.length by lia);generalize cell xs 3=x3 at*;generalize cell xs 4=x4 at*;generalize cell xs 5=x5 at*;generalize cell xs 6=x6 at*;generalize cell xs 7=x7 at*;clear hl hd;refine⟨_,a3,⟨by decide,by decide⟩,by decide,ite2 (λ_=>?_) (λ_=>?_)⟩
  .refine⟨_,a4,by decide,by simp,_,a5,by decide,by simp,by simp,hR _ _ _ _ (by lia) (by lia) (by lia) (by lia) ?_⟩;have p:0<(1+x4 % 6)*(1+x5 % 6):=Ep (by lia) (by lia);lia
  refine⟨_,a3,⟨by decide,by decide⟩,by decide,ite2 (λ_=>?_) (λ_=>?_)⟩
  .refine⟨_,a4,by decide,by simp,_,a6,by decide,_,a5,by decide,by simp,by simp,hR _ _ _ _ (by lia) (by lia) (by lia) (by lia) ?_⟩;have p:0<(1+x4 % 6)*(1+x5 % 4):=Ep (by lia) (by lia);lia
  refine⟨λd=>∃ v:Int,d= .int v/\-12<=v/\v<=12,⟨_,a4,by decide,_,rfl,by lia⟩,?_⟩;rintro _ ⟨a,rfl,ha⟩;k_places;refine⟨λd=>∃ v:Int,d= .int v/\-12<=v/\v<=12,⟨_,a5,by decide,_,rfl,by lia⟩,?_⟩;rintro _ ⟨b,rfl,hb⟩;k_places;refine⟨λd=>∃ v:Int,d= .int v/\-12<=v/\v<=12,⟨_,a6,by decide,_,rfl,by lia⟩,?_⟩;rintro _ ⟨c,rfl,hc⟩;k_places;refine⟨λd=>∃ v:Int,d= .int v/\-12<=v/\v<=12,⟨_,a7,by decide,_,rfl,by lia⟩,?_⟩;rintro _ ⟨d,rfl,j3⟩;k_places;refine⟨λx=>∃ v:Int,x= .int v/\(-12<=v/\v<=12)/\¬ (v=0/\b=0),ite2 (λe=>?_) (λe=>?_),?_⟩
  .have e':=of_decide_eq_true e;by_cases M_:b=0
   .refine⟨_,rfl,?_⟩;subst e' M_;simp
   .refine⟨_,rfl,?_⟩;subst e';simp[M_]
  .have e':=of_decide_eq_false (EF.mpr e);refine⟨_,rfl,?_⟩;simp;lia
  rintro _ ⟨a,rfl,ha,JB⟩;k_places;refine⟨.inl (i64 ha.1 ha.2),.inl (i64 hb.1 hb.2),ite2 (λe=>?_) (λe=>?_)⟩
  .refine⟨by simp,by simp,by simp,hR a b (-b) a ha hb (by lia) ha ?_⟩;rw[E4];intro z;have s1:0<=a*a:=sq0 a;have s2:0<=b*b:=sq0 b;have z1:a*a=0:=by omega
   have z2:b*b=0:=by omega
   exact JB ⟨(FG.mp z1).elim id id,(FG.mp z2).elim id id⟩
  .have e':=of_decide_eq_false (EF.mpr e);exact⟨by simp,by simp,by simp,hR a b c d ha hb hc j3 e'⟩
abbrev ny(V:Bx):Prop:=V.D 1 "_law_motif_text" kB Ao
def CI(T:V.T "_law_motif_text" kA kB)(uT:V.m "str"):ny V:=by
 refine Tx.okDW T sc__law_motif_text (λds R h=>?_) (λf cdv A outer s H E J hr=>⟨_,((ah (am 3 sc__law_motif_text.nd (ao (ao (ao (ao (ao (ao (ao ay (cQ uT (ad (af (aa 1) ac) ae))) ay) (cQ uT (ad (af (aa 1) ac) ae))) ay) (cQ uT (ad (af (aa 2) ac) ae))) ay) (cQ uT (ad (af (aa 2) ac) ae))))
   (ar (aA (ao (ao (ao ay (qi (aa 0))) (aa 3)) ay))))),λds R h=>?_⟩)
 .obtain⟨_,_,_,_,_,rfl,_⟩:=h;rfl
 .obtain⟨L,a,b,c,d,rfl,hL,ha,hb,hc,hd,hR⟩:=h;have la:=bv ha;have lb:=bv hb;have lc:=bv hc;have ld:=bv hd;have l1:(";":y').length=1:=rfl;have l2:(",":y').length=1:=rfl;have l3:("[":y').length=1:=rfl;have l4:("]":y').length=1:=rfl;have ls:=rJ hL;have lj:=StrLaws.join_length_le "/" L;unfold B12 at ha hb hc hd;refine⟨λx=>x= .str ((((((((";":y')++(toString a:String))++",")++(toString b:String))++";")++(toString c:String))++",")++(toString d:String)),⟨_,rfl,by lia,?_,?_,_,rfl,by lia,?_,?_,_,rfl,by lia,?_,?_,_,rfl,by lia,?_,rfl⟩,?_⟩
  .lia
  .rw[aC];lia
  .rw[aC,aC];lia
  .rw[aC,aC,aC];lia
  .rw[aC,aC,aC,aC];lia
  .rw[aC,aC,aC,aC,aC];lia
  .rw[aC,aC,aC,aC,aC,aC];lia
  rintro _ rfl;k_places;have lg:(Txt.join "/" L).length<=72:=by
   have e:Txt.join "/" L=Str.join "/" L:=StrLaws.glued_eq_join _ _;rw[e];exact Ei lj ls
  refine⟨L,jU L,by lia,?_,?_,?_,hR⟩
  .lia
  .repeat rw[aC]
   lia
  .repeat rw[aC]
   lia
abbrev nz(V:Bx):Prop:=V.D 3 "_law_motif" kD Aq
def CJ(T:V.T "_law_motif" kC kD)(Ix:iH V)(LB:nv V)(LC:nw V)(LD:ny V):nz V:=by
 refine Tx.okDW T sc__law_motif (λds R h=>?_) (λf cdv A outer s H E J hr=>⟨_,((ah (am 2 sc__law_motif.nd (az Ix hr (ad (aa 0) (ad (aa 1) (ad ac ae)))))
   (ah (am 3 sc__law_motif.nd (az LB hr (ad (aa 2) ae)))
   (ah (qj rfl (az LC hr (ad (aa 2) ae)) (dg_cons 4 sc__law_motif.nd (dg_cons 5 sc__law_motif.nd dB)))
   (ah (am 6 sc__law_motif.nd (aL (ad (aa 3) (ad (aa 4) (ad (aa 5) (ad (aL (ad ac (ad ac (ad ac (ad ac (ad ac (ad ac ae))))))) (ad (bo (ad ac (ad ac (ad ac (ad ac (ad ac (ad ac (ad ac ae)))))))) ae)))))))
   (ar (aA (bo (ad (az LD hr (ad (aa 3) (ad (aa 4) (ad (aa 5) ae)))) (ad ac (ad (bo (ad (aa 6) ae)) ae))))))))))),λds R h=>?_⟩)
 .obtain⟨_,_,rfl,_⟩:=h;rfl
 .obtain⟨ns,k,rfl,hk,hR⟩:=h;refine⟨λx=>∃ xs:List Int,x= .lst (xs.map D.int)/\xs.length=40/\Drawn xs,⟨ns,k,40,rfl,hk,by decide,λxs h1 h2=>⟨xs,rfl,h1,h2⟩⟩,?_⟩;rintro _ ⟨xs,rfl,hl,hd⟩;k_places;refine⟨λx=>∃ L:List y',x= .lst (L.map D.str)/\Rows L,⟨xs,rfl,by lia,hd,λL h=>⟨L,rfl,h⟩⟩,?_⟩;rintro _ ⟨L,rfl,hL⟩;k_places;refine⟨xs,rfl,by lia,hd,λa b c d ha hb hc j3 hn=>⟨rfl,?_⟩⟩;refine⟨λx=>x=(br L a b c d).D,⟨by simp,by simp,by simp,rfl⟩,?_⟩;rintro _ rfl;k_places;exact⟨L,a,b,c,d,rfl,hL,ha,hb,hc,j3,by simp,by simp,hR L a b c d hL ha hb hc j3 hn⟩
abbrev nA(V:Bx):Prop:=V.D 1 "_law_wrapped" kE AC
def CK(T:V.T "_law_wrapped" gW kE)(uT:V.m "str")(Iy:V.m "list")(uD:V.m "int"):nA V:=by
 refine Tx.okDW T sc__law_wrapped (λds R h=>?_) (λf cdv A outer s H E J hr=>⟨_,((ah (bu (pZ (af (aa 0) ac) ac) (ar (aA (aa 0))) bn)
   (ah (am 2 sc__law_wrapped.nd (aS (aw (aV (aa 1) ac) ac) ac))
   (ah (am 3 sc__law_wrapped.nd (aS (aw (aV (aa 1) ac) ac) ac))
   (ah (am 4 sc__law_wrapped.nd (ao ac (aw (aV (aa 1) ac) ac)))
   (ah (am 5 sc__law_wrapped.nd (ao ac (aw (aV (aa 1) ac) ac)))
   (ah (am 6 sc__law_wrapped.nd (ao (ao (ao (ao ay (cQ uT (ad (aa 2) ae))) ay) (cQ uT (ad (aa 3) ae))) ay))
   (ah (am 7 sc__law_wrapped.nd (af (bo (ad ay (ad ay (ad (aa 6) (ad (ao (ao ay (cQ uT (ad (aa 4) ae))) (cQ uT (ad (aa 5) ae))) ae))))) (aw (aa 1) ac)))
   (ah (am 8 sc__law_wrapped.nd (bo (ad (aL (ad (bV ac) (ad ac (ad ac (ad ac (ad ac (ad ac ae))))))) (ad (aL (ad ac (ad ac (ad (bV ac) (ad ac (ad ac (ad ac ae))))))) ae))))
   (ah (am 8 sc__law_wrapped.nd (ao (aa 8) (bo (ad (aL (ad ac (ad ac (ad ac (ad ac (ad (bV (aa 2)) (ad (bV (aa 3)) ae))))))) (ad (aL (ad ac (ad ac (ad ac (ad ac (ad ac (ad ac ae))))))) ae)))))
   (ah (am 9 sc__law_wrapped.nd (af (aa 8) (aw (aa 1) ac)))
   (ah (fE 10 sc__law_wrapped.nd ae)
   (ah (gB 11 PassesOwn.never rfl sc__law_wrapped.nd (af (aa 0) ac) (ah (qe rfl (af (aa 11) ac) (dg_cons 12 sc__law_wrapped.nd (dg_cons 13 sc__law_wrapped.nd (dg_cons 14 sc__law_wrapped.nd (dg_cons 15 sc__law_wrapped.nd (dg_cons 16 sc__law_wrapped.nd (dg_cons 17 sc__law_wrapped.nd dB)))))))
    (ah (am 18 sc__law_wrapped.nd (aL (ad (ao (au (aa 12) (af (aa 9) ac)) (au (aa 13) (af (aa 9) ac))) (ad (ao (au (aa 12) (af (aa 9) ac)) (au (aa 13) (af (aa 9) ac))) ae))))
    (ah (am 18 sc__law_wrapped.nd (ao (aa 18) (aL (ad (ao (au (aa 14) (af (aa 9) ac)) (au (aa 15) (af (aa 9) ac))) (ad (ao (au (aa 14) (af (aa 9) ac)) (au (aa 15) (af (aa 9) ac))) ae)))))
    (ah (am 16 sc__law_wrapped.nd (ao (ao (aa 16) (au (aa 12) (af (aa 9) ac))) (au (aa 13) (af (aa 9) ac))))
    (ah (am 17 sc__law_wrapped.nd (ao (ao (aa 17) (au (aa 14) (af (aa 9) ac))) (au (aa 15) (af (aa 9) ac))))
    (ah (am 19 sc__law_wrapped.nd (xr Iy (ad (af (aa 11) ac) ae)))
    (ah (fD (bx (aw (aa 1) ac) ac) (ar (qt 19 rfl (compScope (by change dD _ (ag gW) ["_law_part","_law_draw","_law_across","_law_down","_law_old","_law_new","_law_shift","_law_head","_law_ways","_law_by","_law_leaves","_law_leaf","_law_a","_law_b","_law_c","_law_d","_law_e","_law_f","_law_way","_law_hues"] _=true;decide+kernel)) sc__law_wrapped.nd (af (aa 11) ac) (λcl s0 H0 fp=>(af (bo (ad (aa 20) (ad (aa 5) ae))) (gC uD (ad (dv (aa 20) (aa 4)) ae)))))) bn)
    (ar (eE 10 (aL (ad (af (aa 11) ac) (ad (af (aa 11) ac) (ad (af (aa 11) ac) (ad (ao (aa 18) (aL (ad (aa 16) (ad (aa 17) ae)))) (ad (aa 19) ae))))))))))))))))
   (eA 10 (ar (aA (bo (ad (ao (aa 7) (af (aa 0) ac)) (ad (ao (af (aa 0) ac) ac) (ad (aa 10) ae)))))))))))))))))))),λds R h=>?_⟩)
 .obtain⟨_,_,rfl,_⟩:=h;rfl
 .obtain⟨p,draw,rfl,wf,hd,ht,hW⟩:=h;refine⟨_,rfl,ite2 (λc=>?_) (λc=>?_)⟩
  .have c':=of_decide_eq_true c;exact hW.1 (by lia)
  have c':=of_decide_eq_false (EF.mpr c);have j3:p.depth<5:=by lia
  refine⟨λd=>∃ v:Int,d= .int v/\B12 v,⟨⟨by decide,by decide⟩,by decide,_,rfl,by unfold B12;lia⟩,?_⟩;rintro _ ⟨A,rfl,hA⟩;simp only[Eu,Ev,aW];refine⟨λd=>∃ v:Int,d= .int v/\B12 v,⟨⟨by decide,by decide⟩,by decide,_,rfl,by unfold B12;lia⟩,?_⟩;rintro _ ⟨B,rfl,hB⟩;simp only[Eu,Ev,aW];refine⟨λd=>∃ v:Int,d= .int v/\1<=v/\v<=6,⟨⟨by decide,by decide⟩,by decide,_,rfl,by lia⟩,?_⟩;rintro _ ⟨d8,rfl,ho⟩;simp only[Eu,Ev,aW];refine⟨λd=>∃ v:Int,d= .int v/\1<=v/\v<=6,⟨⟨by decide,by decide⟩,by decide,_,rfl,by lia⟩,?_⟩;rintro _ ⟨new,rfl,hn⟩;simp only[Eu,Ev,aW];have l1:("s":y').length=1:=rfl;have l2:(",":y').length=1:=rfl;have l3:(":":y').length=1:=rfl;have l4:("h":y').length=1:=rfl;have lA:=bv hA;have lB:=bv hB;have lo:=cU ho;have ln:=cU hn;obtain⟨hs,b0,b1,b2,b3,b4,b5,e1,e2,hb,hl,hR⟩:=AA hW j3 (k:=0) hA hB ho hn (by lia);unfold B12 at hA hB;refine⟨λx=>x= .str ((((("s":y')++(toString A:String))++",")++(toString B:String))++":"),⟨by lia,?_,?_,by lia,?_,?_,rfl⟩,?_⟩
  .lia
  .rw[aC];lia
  .rw[aC,aC];lia
  .rw[aC,aC,aC];lia
  rintro _ rfl;simp only[Eu,Ev,aW];refine⟨λx=>x= .str hs,⟨by lia,?_,by lia,?_,by simp,by decide,_,e1,rfl⟩,?_⟩
  .lia
  .rw[aC];lia
  rintro _ rfl;simp only[Eu,Ev,aW];refine⟨λx=>x= .lst [D.tup [.int (-1),.int 0,.int 0,.int 1,.int 0,.int 0],D.tup [.int 0,.int 1,.int (-1),.int 0,.int 0,.int 0]],⟨by simp,by simp,by simp,rfl⟩,?_⟩;rintro _ rfl;simp only[Eu,Ev,aW];refine⟨λx=>x= .lst ([D.tup [.int (-1),.int 0,.int 0,.int 1,.int 0,.int 0],D.tup [.int 0,.int 1,.int (-1),.int 0,.int 0,.int 0]]++[D.tup [.int 1,.int 0,.int 0,.int 1,.int (-A),.int (-B)],D.tup [.int 1,.int 0,.int 0,.int 1,.int 0,.int 0]]),⟨by simp,by simp,by simp,by simp,rfl⟩,?_⟩;rintro _ rfl;simp only[Eu,Ev,aW];refine⟨λx=>x= .tup [.int b0,.int b1,.int b2,.int b3,.int b4,.int b5],⟨by decide,_,e2,rfl⟩,?_⟩;rintro _ rfl;simp only[Eu,Ev,aW];refine⟨by simp,?_⟩;generalize D.str ((((("s":y')++(toString A:String))++",")++(toString B:String))++":")=sD;generalize D.lst ([D.tup [.int (-1),.int 0,.int 0,.int 1,.int 0,.int 0],D.tup [.int 0,.int 1,.int (-1),.int 0,.int 0,.int 0]]++[D.tup [.int 1,.int 0,.int 0,.int 1,.int (-A),.int (-B)],D.tup [.int 1,.int 0,.int 0,.int 1,.int 0,.int 0]])=wD;clear e1 e2 hW lA lB lo ln l1 l2 l3 l4 hA hB c';refine⟨_,rfl,λk z=>∃ Ib Ic t_ u5 LF LG LH LI Iz:Option D,z=[be p.D,be (.int draw),be (.int A),be (.int B),be (.int d8),be (.int new),be sD,be (.str hs),be wD,be (.tup [.int b0,.int b1,.int b2,.int b3,.int b4,.int b5]),be (.own (((p.leaves.take k).map (Leaf.T (decide (draw % 4=3)) d8 new b0 b1 b2 b3 b4 b5)).map Leaf.D)),Ib,Ic,t_,u5,LF,LG,LH,LI,Iz],⟨_,_,_,_,_,_,_,_,_,rfl⟩,?_,?_⟩
  .rintro k v z hk ⟨Ib,Ic,t_,u5,LF,LG,LH,LI,Iz,rfl⟩;k_places;rw[Eo] at hk;have n4:k<p.leaves.length:=by
    rcases Fl k p.leaves.length with q|q
    .exact q
    .rw[E3 q] at hk;cases hk
   have IA:p.leaves[k]?=be p.leaves[k]:=Es n4;rw[IA] at hk;cases hk;obtain⟨gd,nr⟩:=Pat.leaf_good wf p.leaves[k] (EK n4);have b7:(p.leaves.take k).length<=1000:=by rw[Fz];have:=Pat.leaves_32 hd;lia
   generalize p.leaves[k]=l at IA gd nr;obtain⟨r0,r1,r2,r3⟩:=nr.unit;obtain⟨q0,q1,q2,q3,q4,q5⟩:=hb;refine⟨_,rfl,rfl,?_⟩;simp only[Eu,Ev,aW];refine⟨λx=>x= .tup [.int (l.w0*b0+l.w1*b2),.int (l.w0*b1+l.w1*b3)],⟨_,rfl,.inr (n64 q0),_,rfl,.inr (n64 q2),_,rfl,.inr (n64 q1),_,rfl,.inr (n64 q3),by simp,rfl⟩,?_⟩;rintro _ rfl;simp only[Eu,Ev,aW];refine⟨λx=>x= .tup [.int (l.w0*b0+l.w1*b2),.int (l.w0*b1+l.w1*b3),.int (l.w2*b0+l.w3*b2),.int (l.w2*b1+l.w3*b3)],⟨_,rfl,.inr (n64 q0),_,rfl,.inr (n64 q2),_,rfl,.inr (n64 q1),_,rfl,.inr (n64 q3),by simp,by simp,rfl⟩,?_⟩;rintro _ rfl;simp only[Eu,Ev,aW];refine⟨λx=>x= .int (l.w4+l.w0*b4+l.w1*b5),⟨_,rfl,.inr (n64 q4),_,rfl,.inr (n64 q5),rfl⟩,?_⟩;rintro _ rfl;simp only[Eu,Ev,aW];refine⟨λx=>x= .int (l.w5+l.w2*b4+l.w3*b5),⟨_,rfl,.inr (n64 q4),_,rfl,.inr (n64 q5),rfl⟩,?_⟩;rintro _ rfl;simp only[Eu,Ev,aW];refine⟨λx=>x= .lst (l.hues.map D.int),⟨_,rfl,rfl⟩,?_⟩;rintro _ rfl;simp only[Eu,Ev,aW];refine⟨λz=>∃ Iz:List Int,Iz=(Leaf.T (decide (draw % 4=3)) d8 new b0 b1 b2 b3 b4 b5 l).hues/\z=[be p.D,be (.int draw),be (.int A),be (.int B),be (.int d8),be (.int new),be sD,be (.str hs),be wD,be (.tup [.int b0,.int b1,.int b2,.int b3,.int b4,.int b5]),be (.own (((p.leaves.take k).map (Leaf.T (decide (draw % 4=3)) d8 new b0 b1 b2 b3 b4 b5)).map Leaf.D)),be l.D,be (.int l.w0),be (.int l.w1),be (.int l.w2),be (.int l.w3),be (.int (l.w4+l.w0*b4+l.w1*b5)),be (.int (l.w5+l.w2*b4+l.w3*b5)),be (.tup [.int (l.w0*b0+l.w1*b2),.int (l.w0*b1+l.w1*b3),.int (l.w2*b0+l.w3*b2),.int (l.w2*b1+l.w3*b3)]),be (.lst (Iz.map D.int))],⟨by decide,ite2 (λc=>?_) (λc=>?_)⟩,?_⟩
   .have c3:=of_decide_eq_true c;refine⟨λx=>x= .lst ((l.hues.map (bB d8 new)).map D.int),⟨_,rfl,by rw[Ef,gd.many];decide,λk ys=>ys=((l.hues.take k).map (bB d8 new)).map D.int,rfl,?_,?_⟩,?_⟩
    .rintro k' x ys hx hl rfl;rw[Eo] at hx;cases e:l.hues[k']? with
     |none=>rw[e] at hx;cases hx
     |some hu=>
      rw[e] at hx;cases hx;refine⟨by simp,_,AB hu d8 new,?_⟩;dsimp only;rw[jW e];simp
    .rintro ys hl rfl;rw[Ef,FF]
    .rintro _ rfl;k_places;exact⟨_,by simp[Leaf.T,c3,Leaf.dye,Leaf.by],rfl⟩
   .have c3:=of_decide_eq_false (EF.mpr c);exact⟨_,by simp[Leaf.T,c3,Leaf.by],rfl⟩
   rintro _ ⟨hu,OB,rfl⟩;k_places;refine⟨_,rfl,_,rfl,_,rfl,by simp,by simp,by simp,by rw[Ef,Ef];lia,?_⟩;have eT:(D.tup [.lst (l.rows.map D.str),.tup [.int l.a,.int l.b],.tup [.int l.c,.int l.d],.tup ([.int (l.w0*b0+l.w1*b2),.int (l.w0*b1+l.w1*b3),.int (l.w2*b0+l.w3*b2),.int (l.w2*b1+l.w3*b3)]++[.int (l.w4+l.w0*b4+l.w1*b5),.int (l.w5+l.w2*b4+l.w3*b5)]),.lst (hu.map D.int)])=(Leaf.T (decide (draw % 4=3)) d8 new b0 b1 b2 b3 b4 b5 l).D:=by
    rw[OB];by_cases c3:draw % 4=3
    .simp[Leaf.T,c3,Leaf.D,Leaf.dye,Leaf.by]
    .simp[Leaf.T,c3,Leaf.D,Leaf.by]
   have e9:((p.leaves.take (k+1)).map (Leaf.T (decide (draw % 4=3)) d8 new b0 b1 b2 b3 b4 b5)).map Leaf.D=((p.leaves.take k).map (Leaf.T (decide (draw % 4=3)) d8 new b0 b1 b2 b3 b4 b5)).map Leaf.D++[(Leaf.T (decide (draw % 4=3)) d8 new b0 b1 b2 b3 b4 b5 l).D]:=by
    rw[jW IA,EQ,EQ,En,En,Fc,Fc]
   rw[e9,<- eT];exact⟨_,_,_,_,_,_,_,_,_,rfl⟩
  .rintro z ⟨Ib,Ic,t_,u5,LF,LG,LH,LI,Iz,rfl⟩;k_places;rw[Ef,FF];refine⟨_,rfl,by lia,_,rfl,by simp,hR⟩
abbrev iI(V:Bx):Prop:=V.D 1 "_law_gcd" kG zU
def CL(T:V.T "_law_gcd" kF kG)(uL:V.m "abs"):iI V:=by
 refine Tx.okDW T sc__law_gcd (λds R h=>?_) (λf cdv A outer s H E J hr=>⟨_,((ah (am 0 sc__law_gcd.nd (dY uL (ad (aa 0) ae)))
   (ah (am 1 sc__law_gcd.nd (dY uL (ad (aa 1) ae)))
   (ah (fF PassesOwn.never (cO (aa 1) ac) (ar (xm 0 1 rfl sc__law_gcd.nd (ad (aa 1) (ad (aw (aa 0) (aa 1)) ae)))))
   (ar (aA (aa 0))))))),λds R h=>?_⟩)
 .obtain⟨x,y,rfl,_⟩:=h;rfl
 .obtain⟨x,y,rfl,hR⟩:=h;refine⟨λd=>d= .int (if x<0 then -x else x),rfl,?_⟩;rintro _ rfl;k_places;refine⟨λd=>d= .int (if y<0 then -y else y),rfl,?_⟩;rintro _ rfl;k_places;have hx:0<=(if x<0 then -x else x):=by split<;>lia
  have hy:0<=(if y<0 then -y else y):=by split<;>lia
  have LJ:∀ e,(e∣(if x<0 then -x else x)/\e∣(if y<0 then -y else y))↔(e∣x/\e∣y):=λe=>by rw[rC,rC]
  generalize (if x<0 then -x else x)=a at hx LJ ⊢;generalize (if y<0 then -y else y)=b at hy LJ ⊢;refine⟨λm z=>∃ a b:Int,z=[be (.int a),be (.int b)]/\0<=a/\0<=b/\(∀ e,(e∣a/\e∣b)↔(e∣x/\e∣y))/\m=b.toNat,⟨_,a,b,rfl,hx,hy,LJ,rfl⟩,?_⟩;rintro m z ⟨a,b,rfl,ha,hb,JB,rfl⟩;k_places;refine ite2 (λc=>?_) (λc=>?_)
  .have c':¬ b=0:=by simpa using c
   have q1:=cm (a:=a) (show 0<b by lia);have q2:=cn (a:=a) (show 0<b by lia);refine⟨by lia,_,?_,b,a % b,rfl,hb,q1,λe=>?_,rfl⟩
   .lia
   .rw[<- JB e];constructor
    .rintro⟨h1,h2⟩;exact⟨(rD h1).mp h2,h1⟩
    .rintro⟨h1,h2⟩;exact⟨h2,(rD h2).mpr h1⟩
  .have c':b=0:=by simpa using c
   subst c';have g:=(JB a).mp ⟨Int.dvd_refl a,Int.dvd_zero a⟩;exact hR a ha g.1 g.2 λe h1 h2=>((JB e).mpr ⟨h1,h2⟩).1
abbrev iJ(V:Bx):Prop:=V.D 1 "_law_on" kI zT
def CM(T:V.T "_law_on" kH kI):iJ V:=by
 refine Tx.okDW T sc__law_on (λds R h=>?_) (λf cdv A outer s H E J hr=>⟨_,((ah (am 4 sc__law_on.nd (aS (au (af (aa 0) ac) (af (aa 1) ac)) (au (af (aa 0) ac) (af (aa 1) ac))))
   (ar (aA (gA (dv (pR (aS (au (aa 2) (af (aa 1) ac)) (au (aa 3) (af (aa 1) ac))) (aa 4)) ac) (gz (dv (pR (aS (au (af (aa 0) ac) (aa 3)) (au (af (aa 0) ac) (aa 2))) (aa 4)) ac))))))),λds R h=>?_⟩)
 .obtain⟨a,b,c,d,u,v,rfl,_⟩:=h;rfl
 .obtain⟨a,b,c,d,u,v,rfl,ha,hb,hc,hd,hn,hR⟩:=h;have IB:∀ {x:Int},x.natAbs<1073741824->-(2 ^ 64)<x/\x<2 ^ 64:=λh=>n64 (Nat.le_of_lt_succ h);refine⟨λx=>x= .int (a*d - b*c),⟨_,rfl,_,rfl,.inl (IB ha),_,rfl,_,rfl,.inl (IB hb),rfl⟩,?_⟩;rintro _ rfl;k_places;refine⟨_,rfl,.inr (IB hd),_,rfl,.inr (IB hc),by omega,ite2 (λe=>?_) (λe=>?_)⟩
  .have e':=of_decide_eq_true e;refine⟨_,rfl,.inl (IB ha),_,rfl,.inl (IB hb),by omega,?_⟩;have q:decide ((a*v - b*u).fmod (a*d - b*c)=0)=decide ((u*d - v*c).fmod (a*d - b*c)=0/\(a*v - b*u).fmod (a*d - b*c)=0):=by simp[e']
   have g:R (.bl (decide ((a*v - b*u).fmod (a*d - b*c)=0))):=by rw[q];exact hR
   exact g
  .have e':=of_decide_eq_false (EF.mpr e);have q:decide ((u*d - v*c).fmod (a*d - b*c)=0/\(a*v - b*u).fmod (a*d - b*c)=0)=false:=by simp[e']
   rw[q] at hR;exact hR
abbrev nB(V:Bx):Prop:=V.D 2 "_law_leaf_family" kK AE
def CN(T:V.T "_law_leaf_family" kJ kK)(uL:V.m "abs")(IC:iI V)(ID:iJ V):nB V:=by
 refine Tx.okDW T sc__law_leaf_family (λds R h=>?_) (λf cdv A outer s H E J hr=>⟨_,((ah (qe rfl (af (aa 0) ac) (dg_cons 1 sc__law_leaf_family.nd (dg_cons 2 sc__law_leaf_family.nd (dg_cons 3 sc__law_leaf_family.nd (dg_cons 4 sc__law_leaf_family.nd (dg_cons 5 sc__law_leaf_family.nd (dg_cons 6 sc__law_leaf_family.nd dB)))))))
   (ah (am 7 sc__law_leaf_family.nd (aL (ad (ao (au (aa 1) (af (af (aa 0) ac) ac)) (au (aa 3) (af (af (aa 0) ac) ac))) (ad (ao (au (aa 2) (af (af (aa 0) ac) ac)) (au (aa 4) (af (af (aa 0) ac) ac))) ae))))
   (ah (am 8 sc__law_leaf_family.nd (aL (ad (ao (au (aa 1) (af (af (aa 0) ac) ac)) (au (aa 3) (af (af (aa 0) ac) ac))) (ad (ao (au (aa 2) (af (af (aa 0) ac) ac)) (au (aa 4) (af (af (aa 0) ac) ac))) ae))))
   (ah (am 9 sc__law_leaf_family.nd (az IC hr (ad (af (aa 7) ac) (ad (af (aa 8) ac) ae))))
   (ah (am 10 sc__law_leaf_family.nd (aV (dY uL (ad (aS (au (af (aa 7) ac) (af (aa 8) ac)) (au (af (aa 7) ac) (af (aa 8) ac))) ae)) (aa 9)))
   (ah (am 11 sc__law_leaf_family.nd ac)
   (ah (fF PassesOwn.never (gy (dA (az ID hr (ad (aa 7) (ad (aa 8) (ad (aa 11) (ad (aa 9) ae))))))) (ar (am 11 sc__law_leaf_family.nd (ao (aa 11) ac))))
   (ar (aA (aL (ad (aa 10) (ad (aa 9) (ad (aa 11) ae)))))))))))))),λds R h=>?_⟩)
 .obtain⟨_,_,rfl,_⟩:=h;rfl
 .obtain⟨l,n,rfl,gd,nr,hR⟩:=h;obtain⟨h0,h1,h2,h3⟩:=nr.unit;obtain⟨z0,z1,z2,z3,ne,z5⟩:=Leaf.sizes gd nr;have ha:=gd.a;have hb:=gd.b;have hc:=gd.c;have hd:=gd.d;unfold B12 at ha hb hc hd;refine⟨_,rfl,rfl,?_⟩;simp only[Eu,Ev,aW];refine⟨λx=>x= .tup [.int l.o0,.int l.o1],⟨_,rfl,_,rfl,.inl (u64 h0),_,rfl,_,rfl,.inl (u64 h2),_,rfl,_,rfl,.inl (u64 h1),_,rfl,_,rfl,.inl (u64 h3),by simp,rfl⟩,?_⟩;rintro _ rfl;k_places;refine⟨λx=>x= .tup [.int l.t0,.int l.t1],⟨_,rfl,_,rfl,.inl (u64 h0),_,rfl,_,rfl,.inl (u64 h2),_,rfl,_,rfl,.inl (u64 h1),_,rfl,_,rfl,.inl (u64 h3),by simp,rfl⟩,?_⟩;rintro _ rfl;k_places;generalize l.o0=o0 at*;generalize l.o1=o1 at*;generalize l.t0=t0 at*;generalize l.t1=t1 at*;refine⟨λx=>∃ g:Int,x= .int g/\0<=g/\g∣o1/\g∣t1/\∀ e,e∣o1->e∣t1->e∣g,⟨_,rfl,_,rfl,o1,t1,rfl,λg q0 q1 q2 q3=>⟨g,rfl,q0,q1,q2,q3⟩⟩,?_⟩;rintro _ ⟨g,rfl,q0,q1,q2,q3⟩;k_places;obtain⟨w,s,f⟩:=AD ne q0 q1 q2 q3;have hg:=f.2.1;have k1:=bz (a:=o0) (d:=t1) (A:=24) (B:=24) z0 z3;have k2:=bz (a:=o1) (d:=t0) (A:=24) (B:=24) z1 z2;have Pp:=f.bd (N:=288) z5;have j7:=f.cells;have ew:(if o0*t1 - o1*t0<0 then -(o0*t1 - o1*t0) else o0*t1 - o1*t0) / g=w:=by
   have hp:=Ep f.1 hg;have:(if o0*t1 - o1*t0<0 then -(o0*t1 - o1*t0) else o0*t1 - o1*t0)=w*g:=by split<;>lia
   rw[this];exact EG _ (by lia)
  refine⟨λx=>x= .int w,⟨_,rfl,_,rfl,.inl (n64 z0),_,rfl,_,rfl,.inl (n64 z1),⟨by lia,by lia⟩,?_⟩,?_⟩
  .exact congrArg D.int ew
  rintro _ rfl;k_places;refine⟨λx=>x= .int 0,rfl,?_⟩;rintro _ rfl;k_places;have hp:=Ep f.1 hg;refine⟨λm z=>∃ x:Int,z=[be l.D,be (.int l.w0),be (.int l.w1),be (.int l.w2),be (.int l.w3),be (.int l.w4),be (.int l.w5),be (.tup [.int o0,.int o1]),be (.tup [.int t0,.int t1]),be (.int g),be (.int w),be (.int x)]/\0<=x/\x<=s/\m=(s - x).toNat,⟨_,0,rfl,by lia,f.2.2.1,rfl⟩,?_⟩;rintro m z ⟨x,rfl,x0,x1,rfl⟩;k_places;refine⟨o0,o1,t0,t1,x,g,rfl,by lia,by lia,by lia,by lia,ne,?_⟩;refine ite2 (λc=>?_) (λc=>?_)
  .have c':¬ ((x*t1 - g*t0).fmod (o0*t1 - o1*t0)=0/\(o0*g - o1*x).fmod (o0*t1 - o1*t0)=0):=notT c;have xs:x≠s:=by
    rintro rfl;obtain⟨_,_,_,_,m',n',k',l',_,e1,e2,e3,e4⟩:=id f;exact c' (rz e3 e4)
   refine⟨λd=>d= .int (x+1),rfl,?_⟩;rintro _ rfl;k_places;exact⟨_,by lia,x+1,rfl,by lia,by lia,rfl⟩
  .have c':(x*t1 - g*t0).fmod (o0*t1 - o1*t0)=0/\(o0*g - o1*x).fmod (o0*t1 - o1*t0)=0:=by
    exact notF c
   obtain⟨i,j,e1,e2⟩:=rQ ne c';have:x=s:=f.uniq_lean e1 e2 x0 x1;subst this;exact⟨by simp,hR w g x f (by lia)⟩
abbrev nC(V:Bx):Prop:=V.D 1 "_law_in_family" kM zS
def CO(T:V.T "_law_in_family" kL kM):nC V:=by
 refine Tx.okDW T B2 (λds R h=>?_) (λf cdv A outer s H E J hr=>⟨_,((ar (aA (gA (dv (aw (aa 2) (af (aa 0) ac)) ac) (gz (dv (aw (aS (aa 1) (au (aV (aa 2) (af (aa 0) ac)) (af (aa 0) ac))) (af (aa 0) ac)) ac)))))),λds R h=>?_⟩)
 .obtain⟨w,h,s,x,y,rfl,_⟩:=h;rfl
 .obtain⟨w,h,s,x,y,rfl,hw,hh,x_,hs,l_,hR⟩:=h;refine⟨_,rfl,hh,ite2 (λc=>?_) (λc=>?_)⟩
  .have c':=of_decide_eq_true c;refine⟨_,rfl,⟨hh,x_⟩,_,rfl,.inr ⟨by lia,by lia⟩,_,rfl,hw,?_⟩;have e:decide ((x - y / h*s) % w=0)=decide (y % h=0/\(x - y / h*s) % w=0):=by simp[c']
   have g:R (.bl (decide ((x - y / h*s) % w=0))):=by rw[e];exact hR
   exact g
  .have c':=of_decide_eq_false (EF.mpr c);have e:decide (y % h=0/\(x - y / h*s) % w=0)=false:=by simp[c']
   rw[e] at hR;exact hR
abbrev nD(V:Bx):Prop:=V.D 2 "_law_both" kO AH
def CP(T:V.T "_law_both" kN kO)(IC:iI V)(LK:nC V):nD V:=by
  refine Tx.okDW T sc__law_both (λds R h=>?_) (λf cdv A outer s H E J hr=>⟨_,((ah (am 2 sc__law_both.nd (aV (au (af (aa 0) ac) (af (aa 1) ac)) (az IC hr (ad (af (aa 0) ac) (ad (af (aa 1) ac) ae)))))
      (ah (am 3 sc__law_both.nd (af (aa 0) ac))
      (ah (fF PassesOwn.never (wV (au (aa 2) (aa 3)) ac) (ah (am 4 sc__law_both.nd (aw (au (af (aa 0) ac) (aV (aa 3) (af (aa 0) ac))) (af (aa 0) ac)))
        (ah (fF PassesOwn.never (dZ (aa 4) (aa 2)) (ah (bu (dA (az LK hr (ad (aa 1) (ad (aa 4) (ad (aa 3) ae))))) (ar (aA (aL (ad (aa 2) (ad (aa 3) (ad (aa 4) ae)))))) bn)
          (ar (am 4 sc__law_both.nd (ao (aa 4) (af (aa 0) ac))))))
        (ar (am 3 sc__law_both.nd (ao (aa 3) (af (aa 0) ac)))))))
      (ar (aA du)))))),λds R h=>?_⟩)
  . obtain⟨_,_,_,_,_,_,rfl,_⟩:=h;rfl
  . obtain⟨w1,h1,s1,w2,h2,s2,rfl,f1,f2,hR⟩:=h;obtain⟨a1,a2,a3,a4,a5,a6⟩:=f1;obtain⟨b1,b2,b3,b4,b5,b6⟩:=f2;obtain⟨g,u,W,Hh,S,A,M1,eW,M⟩:=AG ⟨a1,a2,a3,a4,a5,a6⟩ ⟨b1,b2,b3,b4,b5,b6⟩;have Na:=hR W Hh S A M;have wb:W<=518400:=by
      have:=(jT a1 b1 M1).2.1;have:=bz (a:=w1) (d:=w2) (A:=720) (B:=720) (by lia) (by lia);lia
    have mw:=M.w0;have mh:=M.h0;have ms:=M.s0;have Pq:=M.sw;refine⟨λx=>x= .int W,⟨_,rfl,_,rfl,.inl ⟨by lia,by lia⟩,_,rfl,_,rfl,w1,w2,rfl,λG q0 q1 q2 q3=>?_⟩,?_⟩
    . have eG:=M1.gcd q0 q1 q2 q3;subst eG;have hg:=M1.pos a1;have LL:=M1.le a1;exact⟨⟨hg,by lia⟩,by rw[<- eW]⟩
    rintro _ rfl;k_places;refine⟨λx=>x= .int h1,⟨_,rfl,rfl⟩,?_⟩;rintro _ rfl;k_places;obtain⟨i0,j0,eS,eH⟩:=M.up1;have OC:1<=j0:=by
      rcases(by lia:j0<=0\/1<=j0) with z|z
      . have:=E2 z (show 0<=h1 by lia);lia
      . exact z
    refine⟨λm z=>∃ (j:Int) (o:Option D),z=[be (.tup [.int w1,.int h1,.int s1]),be (.tup [.int w2,.int h2,.int s2]),be (.int W),be (.int (j*h1)),o]/\1<=j/\j<=j0/\m=(j0 - j).toNat,⟨_,1,_,by rw[Int.one_mul];rfl,by lia,OC,rfl⟩,?_⟩;rintro m z ⟨j,o,rfl,G_,OD,rfl⟩;k_places;have OE:0<j*h1:=Ep (by lia) a3;have OF:j*h1<=Hh:=by
      rw[eH];exact Ex OD (by lia)
    have Pr:=Gk OF (show 0<=W by lia);refine⟨.inl ⟨by lia,by lia⟩,ite2 (λc=>?_) (λc=>?_)⟩
    . have c':=of_decide_eq_true c;have Ps:j*h1<=720:=by
        have:=(cF (w:=W) (h:=j*h1) mw OE).2;lia
      have OG:j*h1 / h1=j:=EG _ (by lia);refine⟨λx=>∃ v:Int,x= .int v/\0<=v/\v<w1/\∃ i,v=i*w1+j*s1,⟨_,rfl,_,rfl,⟨by lia,by lia⟩,.inl ⟨by lia,by lia⟩,_,rfl,a1,_,rfl,cm a1,cn a1,?_⟩,?_⟩
      . rw[OG];refine⟨-(s1*j / w1),?_⟩;have:=ES (s1*j) w1;rw[this];have e1:s1*j=j*s1:=Ey _ _;have e2:w1*(s1*j / w1)=s1*j / w1*w1:=Ey _ _;rw[e2,E1];lia
      rintro _ ⟨x0,rfl,x1,x2,i1,Nb⟩;k_places;refine⟨λm z=>∃ (x:Int),z=[be (.tup [.int w1,.int h1,.int s1]),be (.tup [.int w2,.int h2,.int s2]),be (.int W),be (.int (j*h1)),be (.int x)]/\0<=x/\(∃ i,x=i*w1+j*s1)/\(j=j0->x<=S)/\m=(W - x).toNat,⟨_,x0,rfl,x1,⟨i1,Nb⟩,λej=>?_,rfl⟩,?_⟩
      . subst ej;obtain⟨k,ek,k0⟩:=AI a1 x2 x1 ms eS ⟨i1,Nb⟩;have:=Gh k0 (show 0<=w1 by lia);lia
      rintro m z ⟨x,rfl,y0,⟨i2,ex⟩,yS,rfl⟩;k_places;refine ite2 (λc=>?_) (λc=>?_)
      . have cW:=of_decide_eq_true c;refine⟨w2,h2,s2,x,j*h1,rfl,b1,b3,by lia,b5,by lia,?_⟩;refine ite2 (λq=>?_) (λq=>?_)
        . have q':=of_decide_eq_true q;obtain⟨i3,k3,e3,e4⟩:=AF q';obtain⟨z1,z2⟩:=M.high a3 G_ ⟨i2,ex⟩ ⟨i3,k3,e3,e4⟩;have LM:j*h1=Hh:=by lia
          have:=z2 LM y0 cW;subst this;have:=Na.1 (by rw[<- LM];lia);rw[<- LM] at this;exact⟨by simp,this⟩
        . have q':=of_decide_eq_false (EF.mpr q);refine⟨λd=>d= .int (x+w1),⟨_,rfl,rfl⟩,?_⟩;rintro _ rfl;k_places;refine⟨_,by lia,x+w1,rfl,by lia,⟨i2+1,by grind⟩,λej=>?_,rfl⟩;subst ej;have hx:=yS rfl;have ne:x≠S:=by
            rintro rfl;obtain⟨i4,j4,e5,e6⟩:=M.up2;exact q' (in_fam (i:=i4) (j:=j4) b3 e5 (by rw[<- eH];exact e6))
          have:∃ t:Int,S=x+t*w1:=⟨i0 - i2,by rw[ex];grind⟩;obtain⟨t,et⟩:=this;have t1:1<=t:=by
            rcases(by lia:t<=0\/1<=t) with z|z
            . have:=E2 z (show 0<=w1 by lia);lia
            . exact z
          have:=Ex t1 (show 0<=w1 by lia);lia
      . have cW:=of_decide_eq_false (EF.mpr c);have Pt:j<j0:=by
          rcases(by lia:j<j0\/j=j0) with z|z
          . exact z
          . have:=yS z;lia
        refine⟨λd=>d= .int ((j+1)*h1),⟨_,rfl,by congr 1;grind⟩,?_⟩;rintro _ rfl;k_places;exact⟨_,by lia,j+1,_,rfl,by lia,by lia,rfl⟩
    . have c':=of_decide_eq_false (EF.mpr c);exact Na.2 (by lia)
abbrev nE(V:Bx):Prop:=V.D 3 "_law_family" kQ AJ
def CQ(T:V.T "_law_family" kP kQ)(Ki:nB V)(LO:nD V):nE V:=by
  refine Tx.okDW T sc__law_family (λds R h=>?_) (λf cdv A outer s H E J hr=>⟨_,((ah (am 1 sc__law_family.nd (az Ki hr (ad (af (aa 0) ac) ae)))
      (ah (gB 2 PassesOwn.never rfl sc__law_family.nd (xB (aa 0) ac) (ah (am 1 sc__law_family.nd (az LO hr (ad (aa 1) (ad (az Ki hr (ad (aa 2) ae)) ae))))
        (ar (bu (qa (aa 1) du) (ar (aA du)) bn))))
      (ar (aA (aa 1)))))),λds R h=>?_⟩)
  . obtain⟨_,_,rfl,_⟩:=h;rfl
  . obtain⟨ls,n,rfl,j8,hg,hR⟩:=h;cases ls with
    |nil=>exact absurd rfl j8
    |cons l0 ls=>
    refine⟨λx=>∃ w h s:Int,x= .tup [.int w,.int h,.int s]/\FamOf l0.o0 l0.o1 l0.t0 l0.t1 w h s/\w*h<=288,⟨_,ce (j:=0) rfl,l0,n,rfl,(hg l0 Ed).1,(hg l0 Ed).2,λw h s f q=>⟨w,h,s,rfl,f,q⟩⟩,?_⟩;rintro _ ⟨w0,h0,s0,rfl,f0,q0⟩;k_places
    try simp only[Eu,Ev]
    have ec:cutD (FO Leaf.D (l0::ls)) (be 1) o_=ls.map Leaf.D:=by rw[En,cut1]
    refine⟨λk z=>∃ (w h s:Int) (o:Option D),z=[be (.lst ((l0::ls).map Leaf.D)),be (.tup [.int w,.int h,.int s]),o]/\Fam0 w h s/\w*h<=720/\∀ x y,InF w h s x y↔bI (l0::ls.take k) x y,⟨w0,h0,s0,_,rfl,⟨f0.1,f0.2.1,f0.2.2.1,f0.2.2.2.1⟩,by lia,λx y=>?_⟩,?_,?_⟩
    . rw[f0.lat];constructor
      . intro q l z;rcases Ea.mp z with e|e
        . rw[e];exact q
        . cases e
      . intro q;exact q l0 Ed
    . rintro k v z hk ⟨w,h,s,o,rfl,fm,Nc,lat⟩;k_places;rw[ec,Eo] at hk;have n4:k<ls.length:=by
        rcases Fl k ls.length with q|q
        . exact q
        . rw[E3 q] at hk;cases hk
      have IA:ls[k]?=be ls[k]:=Es n4;rw[IA] at hk;cases hk;obtain⟨gd,nr⟩:=hg ls[k] (Ec _ (EK n4));have JC:∀ l∈ls.drop (k+1),l.Good/\l.Near n:=λl q=>hg l (Ec _ (Hn q));have z7:∀ x y,bI (l0::ls) x y↔(bI (l0::ls.take k) x y/\ls[k].Lat x y)/\bI (ls.drop (k+1)) x y:=λx y=>by
        have ed:ls=ls.take k++ls[k]::ls.drop (k+1):=by rw[<- Fw n4,List.take_append_drop]
        constructor
        . intro q;refine⟨⟨λl z=>?_,q _ (Ec _ (EK n4))⟩,λl z=>q l (Ec _ (Hn z))⟩;rcases Ea.mp z with e|e
          . exact q l (e ▸ Ed)
          . exact q l (Ec _ (GV e))
        . rintro⟨⟨q1,q2⟩,q3⟩ l z;rcases Ea.mp z with e|e
          . exact q1 l (e ▸ Ed)
          . rw[ed] at e;rcases EC.mp e with e|e
            . exact q1 l (Ec _ e)
            . rcases Ea.mp e with e|e
              . rw[e];exact q2
              . exact q3 l e
      have g_:∀ x y,bI (l0::ls.take (k+1)) x y↔bI (l0::ls.take k) x y/\ls[k].Lat x y:=λx y=>by
        rw[jW IA];constructor
        . intro q;refine⟨λl z=>q l ?_,q _ (Ec _ (Ek _ Ed))⟩;rcases Ea.mp z with e|e
          . rw[e];exact Ed
          . exact Ec _ (EV _ e)
        . rintro⟨q1,q2⟩ l z;rcases Ea.mp z with e|e
          . exact q1 l (e ▸ Ed)
          . rcases EC.mp e with e|e
            . exact q1 l (Ec _ e)
            . rw[D8.mp e];exact q2
      generalize ls[k]=l at gd nr z7 g_;obtain⟨p1,p2⟩:=cF fm.w0 fm.h0;refine⟨λx=>(∃ w h s:Int,x= .tup [.int w,.int h,.int s]/\Fam0 w h s/\w*h<=720/\∀ x y,InF w h s x y↔bI (l0::ls.take (k+1)) x y)\/(x= .non/\R .non),⟨l,n,rfl,gd,nr,λw2 h2 s2 f2 b2=>?_⟩,?_⟩
      . obtain⟨r1,r2⟩:=cF f2.1 f2.2.1;refine⟨w,h,s,w2,h2,s2,rfl,⟨fm.w0,by lia,fm.h0,by lia,fm.s0,fm.sw⟩,⟨f2.1,by lia,f2.2.1,by lia,f2.2.2.1,f2.2.2.2.1⟩,λW Hh S A M=>⟨λq=>?_,λq=>?_⟩⟩
        . refine .inl ⟨W,Hh,S,rfl,⟨M.w0,M.h0,M.s0,M.sw⟩,q,λx y=>?_⟩;rw[M.lat,lat,f2.lat,g_];exact Iff.rfl
        . refine .inr ⟨rfl,?_⟩;obtain⟨w3,h3,s3,f3,e3⟩:=rS (ls.drop (k+1)) W Hh S ⟨M.w0,M.h0,M.s0,M.sw⟩ JC;refine(hR w3 h3 s3 f3 λx y=>?_).2 ?_
          . rw[e3,M.lat,lat,f2.lat,z7];exact Iff.rfl
          . have:=(InF.le M.w0 M.h0 f3.w0 f3.h0 (λx y z=>((e3 x y).mp z).1)).1;lia
      . rintro _ (⟨W,Hh,S,rfl,OH,q,e'⟩|⟨rfl,hn⟩);k_places
        . try simp only[Eu,Ev]
          exact⟨W,Hh,S,_,rfl,OH,q,e'⟩
        . try simp only[Eu,Ev]
          exact hn
    . rintro z ⟨w,h,s,o,rfl,fm,Nc,lat⟩;k_places;rw[ec,Ef,FF] at lat;exact(hR w h s fm lat).1 Nc
abbrev nF(V:Bx):Prop:=V.D 4 "_law_over" kS AL
def CS(T:V.T "_law_over" kR kS)(uM:V.m "max")(LP:nE V):nF V:=by
 refine Tx.okDW T sc__law_over (λds R h=>?_) (λf cdv A outer s H E J hr=>⟨_,((ah (am 2 sc__law_over.nd (ao (af (aa 0) ac) (af (aa 1) ac)))
   (ah (bu (fC (gx (pZ (eI rfl uM (ad (af (aa 0) ac) (ad (af (aa 1) ac) ae))) ac) (gw (qa (az LP hr (ad (aa 2) ae)) du)))) (ar (aA (aa 0))) bn)
   (ar (aA (bo (ad (ao (ao (ao (ao ay (af (aa 0) ac)) ay) (af (aa 1) ac)) ay) (ad (ao ac (eI rfl uM (ad (af (aa 0) ac) (ad (af (aa 1) ac) ae)))) (ad (aa 2) ae))))))))),λds R h=>?_⟩)
 .obtain⟨_,_,rfl,_⟩:=h;rfl
 .obtain⟨p,q,rfl,wp,wq,dp,dq,Kj,Kk⟩:=h;have n1:=Pat.leaves_32 dp;have n2:=Pat.leaves_32 dq;refine⟨λx=>x= .lst ((Pat.over p q).leaves.map Leaf.D),⟨_,rfl,_,rfl,?_,?_⟩,?_⟩
  .rw[Ef,Ef];lia
  .rw[Pat.leaves,EQ]
  rintro _ rfl;k_places;refine⟨_,rfl,_,rfl,ite2 (λc=>Kj) (λc=>?_)⟩;have c':=of_decide_eq_false (EF.mpr c);have ep:p.depth<5/\q.depth<5:=by
   split at c'<;>lia
  refine⟨(Pat.over p q).leaves,(Pat.over p q).depth,rfl,?_,λl hl=>Pat.leaf_good (p:= .over p q) ⟨wp,wq⟩ l hl,λw h s f lat=>⟨λsm=>?_,λ_=>Kj⟩⟩
  .intro z;have:(Pat.over p q).leaves.length=0:=by rw[z];rfl
   rw[Pat.leaves,Eg] at this;have:=Pat.leaves_pos p;lia
  have t1:=Pat.text_short wp dp;have t2:=Pat.text_short wq dq;have l1:("(":y').length=1:=rfl;have l2:("|":y').length=1:=rfl;have l3:(")":y').length=1:=rfl;have OI:(Pat.over p q).Fits:=⟨w,h,s,⟨f,λx y=>(lat x y).trans (Pat.lat_leaves (.over p q) x y)⟩,sm⟩;refine⟨_,rfl,?_,?_,_,rfl,?_,?_,_,rfl,_,rfl,by simp,?_⟩
  .lia
  .rw[aC];lia
  .rw[aC,aC];lia
  .rw[aC,aC,aC];lia
  have g:=Kk ep.1 ep.2 OI;have e:(1+(if(q.depth:Int)>(p.depth:Int) then(q.depth:Int) else(p.depth:Int)))=(((Pat.over p q).depth:Nat):Int):=by
   rw[Pat.depth];split<;>lia
  unfold Pat.D at g;rw[<- e] at g;exact g
abbrev nG(V:Bx):Prop:=V.D 5 "_law_pattern" kU AM
def CT(T:V.T "_law_pattern" kT kU)(uA:V.m "range")(Ix:iH V)(Kl:nz V)(Km:nA V)(Kn:nF V):nG V:=by
  refine Tx.okDW T sc__law_pattern (λds R h=>?_) (λf cdv A outer s H E J hr=>⟨_,((ah (am 2 sc__law_pattern.nd (az Ix hr (ad (aa 0) (ad (aa 1) (ad ac ae)))))
      (ah (am 3 sc__law_pattern.nd (az Kl hr (ad (aa 0) (ad (ao (aa 1) ac) ae))))
      (ah (cC 4 PassesOwn.never rfl sc__law_pattern.nd uA (aw (af (aa 2) ac) ac) (ah (am 5 sc__law_pattern.nd (af (aa 2) (ao ac (au ac (aa 4)))))
        (ar (fD (bx (aw (aa 5) ac) ac) (ar (am 3 sc__law_pattern.nd (az Km hr (ad (aa 3) (ad (aV (aa 5) ac) ae))))) (ah (am 6 sc__law_pattern.nd (az Kl hr (ad (aa 0) (ad (ao (ao (aa 1) ac) (au ac (aa 4))) ae))))
         (ah (fD (bx (aw (aV (aa 5) ac) ac) ac) (ar (am 6 sc__law_pattern.nd (az Km hr (ad (aa 6) (ad (af (aa 2) (ao ac (au ac (aa 4)))) ae))))) bn)
         (ar (am 3 sc__law_pattern.nd (af (bo (ad (az Kn hr (ad (aa 3) (ad (aa 6) ae))) (ad (az Kn hr (ad (aa 6) (ad (aa 3) ae))) ae))) (aw (aV (aa 5) ac) ac))))))))))
      (ar (aA (aa 3))))))),λds R h=>?_⟩)
  . obtain⟨_,_,rfl,_⟩:=h;rfl
  . obtain⟨ns,k,rfl,hk,hR⟩:=h;refine⟨λx=>∃ xs:List Int,x= .lst (xs.map D.int)/\xs.length=13/\Drawn xs,⟨ns,k,13,rfl,hk,by decide,λxs h1 h2=>⟨xs,rfl,h1,h2⟩⟩,?_⟩;rintro _ ⟨xs,rfl,hl,hd⟩;k_places;refine⟨λx=>∃ p:Pat,x=p.D/\p.Ok,⟨ns,k+2,rfl,by lia,λL a b c d h1 h2 h3 h4 h5 h6=>⟨.mot L a b c d,rfl,⟨h1,h2,h3,h4,h5,h6⟩,by simp[Pat.depth],Pat.fits_mot h2 h3 h4 h5 h6⟩⟩,?_⟩;rintro _ ⟨p0,rfl,OJ⟩;k_places;have a0:=cw (xs:=xs) (k:=0) (by decide) (show 0<xs.length by lia);have h7:=cm (a:=cell xs 0) (show(0:Int)<7 by decide);have h8:=cn (a:=cell xs 0) (show(0:Int)<7 by decide);refine⟨_,a0,by decide,⟨by lia,by lia⟩,λi z=>∃ (p:Pat) (o1 o2 o3:Option D),z=[be (.rol (ns.map D.int)),be (.int k),be (.lst (xs.map D.int)),be p.D,o1,o2,o3]/\p.Ok,⟨p0,_,_,_,rfl,OJ⟩,?_,?_⟩
    . rintro i v z hi ⟨p,o1,o2,o3,rfl,ok⟩;k_places;obtain⟨v3,rfl⟩:=cS hi;have a1:=cw (xs:=xs) (k:=1+2*(i:Int)) (by lia) (by lia);have a2:=cw (xs:=xs) (k:=2+2*(i:Int)) (by lia) (by lia);generalize cell xs (1+2*(i:Int))=st at a1;generalize cell xs (2+2*(i:Int))=sv at a2;refine⟨λx=>x= .int st,⟨.inr ⟨by lia,by lia⟩,_,a1,rfl⟩,?_⟩;rintro _ rfl;k_places;refine⟨λz=>∃ (p:Pat) (o3:Option D),z=[be (.rol (ns.map D.int)),be (.int k),be (.lst (xs.map D.int)),be p.D,be (.int i),be (.int st),o3]/\p.Ok,⟨by decide,ite2 (λc=>?_) (λc=>?_)⟩,?_⟩
      . refine⟨λx=>∃ p:Pat,x=p.D/\p.Ok,⟨⟨by decide,by decide⟩,p,_,rfl,ok.wf,ok.deep,by have:=Pat.text_short ok.wf ok.deep;lia,Wraps.of ok λq hq=>⟨q,rfl,hq⟩⟩,?_⟩;rintro _ ⟨q,rfl,gV⟩;k_places;exact⟨q,_,rfl,gV⟩
      . refine⟨λx=>∃ p:Pat,x=p.D/\p.Ok,⟨.inr ⟨by lia,by lia⟩,ns,k+4+2*(i:Int),rfl,by lia,λL a b c d h1 h2 h3 h4 h5 h6=>⟨.mot L a b c d,rfl,⟨h1,h2,h3,h4,h5,h6⟩,by simp[Pat.depth],Pat.fits_mot h2 h3 h4 h5 h6⟩⟩,?_⟩;rintro _ ⟨q,rfl,gV⟩;k_places;refine⟨λz=>∃ (q:Pat),z=[be (.rol (ns.map D.int)),be (.int k),be (.lst (xs.map D.int)),be p.D,be (.int i),be (.int st),be q.D]/\q.Ok,⟨⟨by decide,by decide⟩,by decide,ite2 (λc=>?_) (λc=>?_)⟩,?_⟩
        . refine⟨λx=>∃ p:Pat,x=p.D/\p.Ok,⟨.inr ⟨by lia,by lia⟩,_,a2,q,_,rfl,gV.wf,gV.deep,by have:=Pat.text_short gV.wf gV.deep;lia,Wraps.of gV λq hq=>⟨q,rfl,hq⟩⟩,?_⟩;rintro _ ⟨q,rfl,gV⟩;k_places;exact⟨q,rfl,gV⟩
        . exact⟨q,rfl,gV⟩
        rintro _ ⟨q,rfl,gV⟩;k_places;refine⟨λx=>∃ p:Pat,x=p.D/\p.Ok,?_,?_⟩
        . have d6:∀ r r':Pat,r.Ok->r'.Ok->∃ x,atI [r.D,r'.D] (st / 4 % 2)=be x/\∃ p:Pat,x=p.D/\p.Ok:=λr r' hr OK=>by
            rcases(by lia:st / 4 % 2=0\/st / 4 % 2=1) with e|e<;>rw[e]
            . exact⟨_,rfl,r,rfl,hr⟩
            . exact⟨_,rfl,r',rfl,OK⟩
          have Nd:p.depth<5->q.depth<5->(Pat.over p q).Fits->(Pat.over p q).Ok:=λd1 d2 ft=>⟨⟨ok.wf,gV.wf⟩,by simp only[Pat.depth];lia,ft⟩;have Nf:q.depth<5->p.depth<5->(Pat.over q p).Fits->(Pat.over q p).Ok:=λd1 d2 ft=>⟨⟨gV.wf,ok.wf⟩,by simp only[Pat.depth];lia,ft⟩;refine⟨p,q,rfl,ok.wf,gV.wf,ok.deep,gV.deep,?_,λd1 d2 ft=>?_⟩<;>refine⟨q,p,rfl,gV.wf,ok.wf,gV.deep,ok.deep,?_,λd3 d4 Ng=>?_⟩<;>refine⟨by simp,⟨by decide,by decide⟩,by decide,?_⟩
          . exact d6 _ _ ok gV
          . exact d6 _ _ ok (Nf d3 d4 Ng)
          . exact d6 _ _ (Nd d1 d2 ft) gV
          . exact d6 _ _ (Nd d1 d2 ft) (Nf d3 d4 Ng)
        rintro _ ⟨q',rfl,LQ⟩;k_places;exact⟨q',_,rfl,LQ⟩
      rintro _ ⟨q,o3,rfl,gV⟩;k_places;exact⟨q,_,_,_,rfl,gV⟩
    . rintro z ⟨p,o1,o2,o3,rfl,ok⟩;k_places;exact hR p ok
abbrev iK(V:Bx):Prop:=V.E 1 "WrongSign" kX Bz
def CU(T:V.Te "WrongSign" "WrongSign.__init__" kW kX)(IE:V.b "MotifError")(uAM:V.ea "WrongSign")(LR:V.xf "WrongSign" "place"):iK V:=by
 refine Txe.okE T B3 (λds R h=>?_) (λf cdv A outer s H E J hr=>⟨_,((qF IE uAM (ad (aa 1) ae) (qG uAM LR (aa 1) qE))),λds R h=>?_⟩)
 .obtain⟨i,rfl,_⟩:=h;rfl
 .obtain⟨i,rfl,hR⟩:=h;exact⟨by show(1:Nat)<=1000;decide,rfl,hR⟩
abbrev dg(V:Bx):Prop:=V.Q 1 "Reading" "may_take" kZ AT
def CV(T:V.Tm "Reading" "may_take" "Reading.may_take" kY kZ)(uC:V.m "len")(HD:V.a "Reading" "text")(uF:V.a "Reading" "place"):dg V:=by
 refine Txm.okM T B4 (λds M R RX h=>?_) (λf cdv A outer s H E J hr hx=>⟨_,((aB (bZ (mt_w (yi (gM (aK uF (ai (aa 0))) (qQ uC (aR (aK HD (ai (aa 0))) bq))) (yf (yd (qN (aK HD (ai (aa 0))) (aK uF (ai (aa 0)))) (ai (aa 1)))))) (aE (aM (ai ay))) bS)
   (aB (gP uF (ai (aa 0)) (gK (aK uF (ai (aa 0))) (ai ac)))
   (aE (aM (qN (aK HD (ai (aa 0))) (jK (aK uF (ai (aa 0))) (ai ac)))))))),λds M R RX b9 h=>?_⟩)
 .obtain⟨_,_,_,_,_,rfl,_⟩:=h;rfl
 .obtain⟨a,t,k,l,al,rfl,rfl,d9,hR⟩:=h;refine⟨_,aN,_,cZ,_,aN,_,jX,Ei d9.sz (by decide),?_⟩;cases l with
  |nil=>
   refine ifdT (by rw[d9.nil]) (ifT rfl ?_);exact hR
  |cons c l=>
   have lt:=d9.lt;refine ifdF (by lia) ?_;refine⟨_,aN,_,jX,_,aN,_,cZ,c,⟨Ei d9.sz (by decide),ce d9.get⟩,?_⟩;refine ite2 (λe=>?_) (λe=>?_)
   .have e2:(!(!(Builtin.Str.occurrences al ⟨#[c]⟩ 0 al.length 1).isEmpty))=true:=e;rw[si] at e2;have nc:c ∉ cs al:=by simpa using e2
    rw[db nc,de nc] at hR;exact hR
   .have e2:¬ (!(!(Builtin.Str.occurrences al ⟨#[c]⟩ 0 al.length 1).isEmpty))=true:=e;rw[si] at e2;have nc:c∈cs al:=by simpa using e2
    rw[dI nc,dJ nc] at hR;refine⟨_,aN,_,cZ,_,aN,by show(2:Nat)<1000;decide,?_⟩;rw[show mput (RdM a t k) a (.ins "Reading" (putD ("place":y') (.int ((k:Int)+1)) (rdF t k)))=RdM a t (k+1) by rw[AR];exact eV];refine⟨_,aN,_,jX,_,aN,_,cZ,c,⟨Ei d9.sz (by decide),?_⟩,hR⟩;rw[show((k+1:Nat):Int) - 1=(k:Int) by lia];exact ce d9.get
abbrev cA(V:Bx):Prop:=V.Q 3 "Reading" "take" lh AU
def CW(T:V.Tm "Reading" "take" "Reading.take" lf lh)(uF:V.a "Reading" "place")(uI:dg V)(uY:iK V):cA V:=by
 refine Txm.okM T sc_Reading_take (λds M R RX h=>?_) (λf cdv A outer s H E J hr hx=>⟨_,((aB (bf 2 sc_Reading_take.nd (aY (CalMth.one uI) hx hr (ai (aa 0)) (aD (ad (aa 1) ae))))
   (aB (bZ (bY (bx (aa 2) ay)) (aE (jN uY hr hx rfl (aR (aK uF (ai (aa 0))) bq))) bS)
   (aE (aM (ai (aa 2))))))),λds M R RX b9 h=>?_⟩)
 .obtain⟨_,_,_,_,_,rfl,_⟩:=h;rfl
 .obtain⟨a,t,k,l,al,rfl,rfl,d9,hR,hX⟩:=h;refine⟨λd M'=>d= .str (mayS al l)/\M'=RdM a t (k+mayN al l),⟨_,D8.mpr rfl,_,aN,cI,a,t,k,l,al,rfl,rfl,d9,rfl,rfl⟩,?_⟩;rintro _ _ ⟨rfl,rfl⟩;k_places;have no:(∀ c l',l=c::l'->c ∉ cs al)->mayS al l=""/\mayN al l=0:=λh=>by
   cases l with
   |nil=>exact⟨rfl,rfl⟩
   |cons c l=>exact⟨db (h c l rfl),de (h c l rfl)⟩
  by_cases h:∃ c l',l=c::l'/\c∈cs al
  .obtain⟨c,l',rfl,hc⟩:=h;rw[dI hc,dJ hc];exact hR c l' rfl hc
  .have h':∀ c l',l=c::l'->c ∉ cs al:=λc l' e hc=>h ⟨c,l',e,hc⟩;obtain⟨e1,e2⟩:=no h';rw[e1,e2];refine⟨_,aN,_,cZ,by show(1:Nat)<=1000;decide,(k:Int),rfl,?_⟩;rw[b9];exact hX h' _
abbrev nH(V:Bx):Prop:=V.MM 4 "line_from" lm A2
def CY(T:V.T "line_from" ll lm)(uA:V.m "range")(uK:V.gs "SIGNS" ".123456")(uB:cA V)(uI:dg V):nH V:=by
 refine Tx.okM T sc_line_from (λds M R RX h=>?_) (λf cdv A outer s H E J hr hx=>⟨_,((aB (bf 3 sc_line_from.nd (ai ay))
   (aB (yL 4 PassesOwn.leaving rfl sc_line_from.nd uA (ai (aa 2)) (aE (bf 3 sc_line_from.nd (gK (ai (aa 3)) (fK (bY (dZ (aa 4) (aa 1))) (aY (CalMth.one uB) hx hr (ai (aa 0)) (aD (ad (eK uK) ae))) (aY (CalMth.one uI) hx hr (ai (aa 0)) (aD (ad (eK uK) ae))))))))
   (aE (aM (ai (aa 3))))))),λds M R RX b9 h=>?_⟩)
 .obtain⟨_,_,_,_,_,_,rfl,_⟩:=h;rfl
 .obtain⟨a,t,k,l,n,m,rfl,rfl,d9,Pu,Pw,hR,hX⟩:=h;refine⟨λd M'=>d= .str ""/\M'=RdM a t k,⟨rfl,rfl⟩,?_⟩;rintro _ _ ⟨rfl,rfl⟩;k_places;refine⟨⟨by lia,by lia⟩,λi z M'=>i<=m/\∃ col,z=[be (.ptr a),be (.int n),be (.int m),be (.str ⟨(sgPre i l).toArray⟩),col]/\M'=RdM a t (k+(sgPre i l).length)/\min i n<=(sgPre i l).length,⟨EA _,o_,rfl,rfl,by simp⟩,?_,?_⟩
  .rintro i x z M' hi ⟨Px,col,rfl,rfl,LS⟩;k_places;obtain⟨v_,rfl⟩:=cS hi;have v_:i<m:=by lia
   have Py:=gQ i l;rcases sgPre_succ i l with⟨c,l',h1,h2,h3,h4⟩|⟨l',h1,h2,h3⟩
   .have c_:At t (k+(sgPre i l).length) (c::l'):=by have:=d9;rw[h1] at this;exact this.app
    refine⟨λd M'=>d= .str ⟨(sgPre (i+1) l).toArray⟩/\M'=RdM a t (k+(sgPre i l).length+1),?_,?_⟩
    .refine ite2 (λ_=>?_) (λ_=>?_)
     .refine⟨_,D8.mpr rfl,_,aN,bT,a,t,_,_,".123456",rfl,rfl,c_,λc' l2 e hc=>?_,λd5=>absurd (signs_is.mpr h3) (d5 c l' rfl)⟩;cases e;refine⟨by rw[dN,show(⟨#[c]⟩:y').length=1 from rfl];lia,?_,rfl⟩;rw[show(⟨#[c]⟩:y')=⟨[c].toArray⟩ from rfl,eX,h4]
     .refine⟨_,D8.mpr rfl,_,aN,cI,a,t,_,_,".123456",rfl,rfl,c_,?_⟩;rw[dI (signs_is.mpr h3),dJ (signs_is.mpr h3)];refine⟨by rw[dN,show(⟨#[c]⟩:y').length=1 from rfl];lia,?_,rfl⟩;rw[show(⟨#[c]⟩:y')=⟨[c].toArray⟩ from rfl,eX,h4]
    .rintro _ _ ⟨rfl,rfl⟩;k_places;refine⟨v_,_,rfl,?_,?_⟩
     .rw[h4,Eg];rfl
     .rw[h4,Eg,h2];show _<=i+1;lia
   .have c_:At t (k+(sgPre i l).length) l':=by have:=d9;rw[h1] at this;exact this.app
    have d5:∀ c l2,l'=c::l2->c ∉ cs ".123456":=λc l2 q z=>by
     have:=h2 c l2 q;rw[signs_is.mp z] at this;cases this
    have w6:mayS ".123456" l'=""/\mayN ".123456" l'=0:=by
     cases l' with
     |nil=>exact⟨rfl,rfl⟩
     |cons c l2=>exact⟨db (d5 c l2 rfl),de (d5 c l2 rfl)⟩
    refine⟨λd M'=>d= .str ⟨(sgPre (i+1) l).toArray⟩/\M'=RdM a t (k+(sgPre i l).length)/\¬ i<n,?_,?_⟩
    .refine ite2 (λc=>?_) (λc=>?_)
     .have c':=of_decide_eq_true c;refine⟨_,D8.mpr rfl,_,aN,bT,a,t,_,_,".123456",rfl,rfl,c_,λc' l2 e hc=>absurd hc (d5 c' l2 e),λ_ M'=>?_⟩;rw[b9];have:=hX (by rw[h3 m (by lia)];lia) M';rw[h3 m (by lia)] at this;exact this
     .have c':¬ i<n:=λz=>c (decide_eq_true (by lia));refine⟨_,D8.mpr rfl,_,aN,cI,a,t,_,_,".123456",rfl,rfl,c_,?_⟩;rw[w6.1,w6.2];refine⟨by rw[dN,show("":y').length=0 from rfl];lia,?_,rfl,c'⟩;rw[show("":y')=⟨([]:List Nat).toArray⟩ from rfl,eX,EI,h3 (i+1) (by lia)]
    .rintro _ _ ⟨rfl,rfl,HC⟩;k_places;refine⟨v_,_,rfl,by rw[h3 (i+1) (by lia)],?_⟩;rw[h3 (i+1) (by lia)];lia
  .intro z M' hz;rw[cT,FJ] at hz;obtain⟨_,col,rfl,rfl,LS⟩:=hz;exact hR (by lia)
abbrev nI(V:Bx):Prop:=V.MM 5 "lines_from" lq A6
def CZ(T:V.T "lines_from" lp lq)(uC:V.m "len")(Ko:nH V)(Kp:V.gi "LONGEST" 8)(uI:dg V):nI V:=by
  refine Tx.okM T sc_lines_from (λds M R RX h=>?_) (λf cdv A outer s H E J hr hx=>⟨_,((aB (bf 1 sc_lines_from.nd (ym (aR (bc (CalMM.frame Ko) hx hr (aD (ad (aa 0) (ad ac (ad (fH Kp) ae))))) bq)))
      (aB (bf 2 sc_lines_from.nd (qQ uC (aR (yQ (ai (aa 1)) (ai ac)) bq)))
      (aB (yJ PassesOwn.leaving (mt_w (yg (qO (yO uC (ai (aa 1))) (ai (fH Kp))) (ye (gM (aY (CalMth.one (CalMth.frame uI)) hx hr (ai (aa 0)) (aD (ad ay ae))) (ai ay))))) (aE (ck (yT (ai (aa 1)) (bc (CalMM.frame Ko) hx hr (aD (ad (aa 0) (ad (aa 2) (ad (aa 2) ae)))))))))
      (qV 1 (aE (aM (ai (aa 1))))))))),λds M R RX b9 h=>?_⟩)
  . obtain⟨_,_,_,_,rfl,_⟩:=h;rfl
  . obtain⟨a,t,k,l,rfl,rfl,d9,hR,hX⟩:=h;obtain⟨l1,Kq,hg⟩:=sgPre_split 8 l;have Nh:=sgPre_sign 8 l;have Hq:=gQ 8 l;refine⟨λd M'=>∃ p,p≠a/\1<=(sgPre 8 l).length/\d= .ptr p/\M'=(p,.lst [.str ⟨(sgPre 8 l).toArray⟩])::RdM a t (k+(sgPre 8 l).length),⟨[],RdM a t k,rfl,a,t,k,l,1,8,rfl,rfl,d9,by decide,by decide,λh1=>⟨by show 1<=1000;decide,λp hp=>?_⟩,λh1 M'=>?_⟩,?_⟩
    . exact⟨p,λe=>hp (by rw[e];exact D8.mpr rfl),h1,rfl,rfl⟩
    . rw[b9];refine hX _ (λr=>?_) _;have e0:sgPre 8 l=[]:=FR (by lia);rw[e0] at Kq hg ⊢;rw[Kq];have:=so (w:=1) (n:=0) (x:=[]) (l:=l1) (λc z=>nomatch z) (by decide) (by decide) (λ_=>rfl) (hg.resolve_left (by decide)) r k;refine walk_bad (λz=>nomatch z) λc l' q=>?_;rw[dH];unfold cH;rw[hg.resolve_left (by decide) c l' q,if_neg Ej];exact if_pos (.inl rfl)
    rintro _ _ ⟨p,OL,h1,rfl,rfl⟩;k_places;refine⟨λd M'=>d= .int (sgPre 8 l).length/\M'=(p,.lst [.str ⟨(sgPre 8 l).toArray⟩])::RdM a t (k+(sgPre 8 l).length),⟨_,cJ,_,rfl,by rw[dN];lia,by rw[dN],rfl⟩,?_⟩;rintro _ _ ⟨rfl,rfl⟩;k_places;refine⟨λm z M'=>∃ (L:List (List Nat)) (w0:Nat) (l2:List Nat),RowsL L (sgPre 8 l).length/\l=rowsL L++l2/\LinAt w0 (sgPre 8 l).length L.length l2/\(∀ r,walk (.lin 0 0 0::r) l k=walk (.lin w0 (sgPre 8 l).length (L.length - 1)::r) l2 (k+(rowsL L).length))/\m=8 - L.length/\z=[be (.ptr a),be (.ptr p),be (.int (sgPre 8 l).length)]/\M'=(p,.lst (lstD L))::RdM a t (k+(rowsL L).length),⟨7,[sgPre 8 l],0,l1,⟨by simp,h1,Hq,λx hx=>?_⟩,Kq,⟨h1,by simp,λ_=>hg,λz=>absurd z (by simp)⟩,λr=>?_,rfl,rfl,rfl⟩,?_⟩
    . rw[D8.mp hx];exact⟨rfl,Nh⟩
    . have:=eU (w:=0) (k:=0) (r:=r) (sgPre 8 l) 0 l1 k Nh (by simp;lia);rw[<- Kq,FI] at this;exact this
    rintro m z M' ⟨L,w0,l2,hL,HA,Ie,hw,rfl,rfl,rfl⟩;k_places;have v7:=hL.many;have l9:At t (k+(rowsL L).length) l2:=by have:=d9;rw[HA] at this;exact this.app
    have JD:(lstD L).length=L.length:=by simp[lstD]
    have done:(L.length=8\/∀ l',l2≠47::l')->R (.lst (lstD L)) (RdM a t (k+(rowsL L).length)):=λst=>hR L _ l2 hL HA λr=>by rw[hw r,A5 Ie (by lia) st]
    refine⟨_,cJ,?_⟩;rw[JD];refine ite2 (λc=>?_) (λc=>?_)
    . have c':L.length<8:=by have:=of_decide_eq_true c;lia
      refine⟨_,D8.mpr rfl,_,A3 OL,cI,[(p,_)],RdM a t _,rfl,a,t,_,l2,"/",rfl,rfl,l9,?_⟩;by_cases Ni:∃ l',l2=47::l'
      . obtain⟨l3,rfl⟩:=Ni;have Nj:(47:Nat)∈cs "/":=by decide
        rw[dI Nj,dJ Nj];obtain⟨l4,LU,OM⟩:=sgPre_split (sgPre 8 l).length l3;have LV:=sgPre_sign (sgPre 8 l).length l3;have ON:=gQ (sgPre 8 l).length l3;refine⟨⟨_,cJ⟩,[(p,_)],RdM a t _,rfl,a,t,_,l3,(sgPre 8 l).length,(sgPre 8 l).length,rfl,rfl,l9.next,D7 _,Hq,λh2=>?_,λh2 M'=>?_⟩
        . have b7:(sgPre (sgPre 8 l).length l3).length=(sgPre 8 l).length:=by lia
          refine⟨_,cJ,by rw[JD];lia,?_⟩;refine⟨8 - (L.length+1),by lia,L++[sgPre (sgPre 8 l).length l3],(sgPre 8 l).length,l4,⟨by rw[Eg];simp;lia,h1,Hq,λx hx=>?_⟩,?_,⟨h1,by rw[Eg];simp,λz=>?_,λ_=>rfl⟩,λr=>?_,by rw[Eg];rfl,rfl,?_⟩
          . rcases EC.mp hx with q|q
            . exact hL.each x q
            . rw[D8.mp q];exact⟨b7,LV⟩
          . rw[gR L _ (λq=>by rw[q] at v7;simp at v7),EL,ER,<- LU];exact HA
          . rw[Eg] at z;simp at z;rw[z] at v7;simp at v7
          . rw[hw r,sk Ie c' r];have:=eU (w:=(sgPre 8 l).length) (k:=L.length) (r:=r) (sgPre (sgPre 8 l).length l3) 0 l4 (k+(rowsL L).length+1) LV (by rw[if_pos (by lia)];lia);rw[<- LU,FI,b7] at this;rw[this,gR L _ (λq=>by rw[q] at v7;simp at v7),Eg,Eg];show walk (.lin _ _ L.length::r) l4 _=walk (.lin _ _ (L.length+1 - 1)::r) l4 _;congr 1;rw[Eb,b7];lia
          . show mput ((p,MO.lst (lstD L))::RdM a t _) p _=_;rw[sj,gR L _ (λq=>by rw[q] at v7;simp at v7)];show _::RdM a t _=_;congr 1
            . simp[lstD]
            . congr 1;simp;lia
        . rw[b9];refine hX _ (λr=>?_) _;rw[hw r,sk Ie c' r];have:=so (w:=(sgPre 8 l).length) (n:=L.length) LV h2 Hq (λq=>by lia) (OM.resolve_left (by lia)) r (k+(rowsL L).length+1);rw[<- LU] at this;exact this
      . have d5:∀ l',l2≠47::l':=λl' q=>Ni ⟨l',q⟩;have w6:mayS "/" l2=""/\mayN "/" l2=0:=by
          cases l2 with
          |nil=>exact⟨rfl,rfl⟩
          |cons c l3=>
            have:c ∉ cs "/":=λq=>d5 l3 (by rw[show c=47 from D8.mp q]);exact⟨db this,de this⟩
        rw[w6.1,w6.2];refine⟨_,cJ,?_⟩;rw[show mdel ([(p,MO.lst (lstD L))]++RdM a t (k+(rowsL L).length+0)) p=RdM a t (k+(rowsL L).length) from jZ];exact done (.inr d5)
    . have c':L.length=8:=by
        have:¬ ((L.length:Int)<8):=λz=>c (decide_eq_true z);lia
      refine⟨_,cJ,?_⟩;rw[jZ];exact done (.inl c')
abbrev nJ(V:Bx):Prop:=V.MM 4 "number_from" lu AZ
def C0(T:V.T "number_from" lr lu)(uD:V.m "int")(uI:dg V)(uB:cA V):nJ V:=by
  refine Tx.okM T sc_number_from (λds M R RX h=>?_) (λf cdv A outer s H E J hr hx=>⟨_,((aB (bZ (gM (aY (CalMth.one uI) hx hr (ai (aa 0)) (aD (ad ay ae))) (ai ay)) (aE (aM (ai ac))) bS)
      (aB (bf 1 sc_number_from.nd (gK (aY (CalMth.one uI) hx hr (ai (aa 0)) (aD (ad ay ae))) (aY (CalMth.one uB) hx hr (ai (aa 0)) (aD (ad ay ae)))))
      (aB (qU (bY (dA (xZ (aa 1) (ad ay ae)))) (aE (bf 1 sc_number_from.nd (gK (ai (aa 1)) (aY (CalMth.one uI) hx hr (ai (aa 0)) (aD (ad ay ae)))))) bS)
      (aE (aM (ai (gC uD (ad (aa 1) ae))))))))),λds M R RX b9 h=>?_⟩)
  . obtain⟨_,_,_,_,rfl,_⟩:=h;rfl
  . obtain⟨a,t,k,l,rfl,rfl,d9,hR,hX⟩:=h;refine⟨_,D8.mpr rfl,_,aN,cI,a,t,k,l,"0",rfl,rfl,d9,?_⟩;by_cases z0:∃ l',l=48::l'
    . obtain⟨l',rfl⟩:=z0;have e0:(48:Nat)∈cs "0":=by decide
      rw[dI e0,dJ e0];refine hR 0 l' (by unfold B12;lia) ?_ λe r=>?_
      . rw[show numL 0=[48] by decide+kernel];rfl
      . rw[show numL 0=[48] by decide+kernel,aF (st':= .sign e::r) (by simp[step,aH,aJ])];rfl
    have n0:mayS "0" l=""/\mayN "0" l=0:=by
      cases l with
      |nil=>exact⟨rfl,rfl⟩
      |cons c l=>
        have:c ∉ cs "0":=λq=>z0 ⟨l,by rw[show c=48 from D8.mp q]⟩;exact⟨db this,de this⟩
    rw[n0.1,n0.2];obtain⟨pre,l1,hp,rfl,hS,hN,h0⟩:∃ pre l1,(pre=[]\/pre=[45])/\l=pre++l1/\mayS "-" l=⟨pre.toArray⟩/\mayN "-" l=pre.length/\(pre=[]->∀ c l',l1=c::l'->c≠48/\c≠45):=by
      by_cases z1:∃ l',l=45::l'
      . obtain⟨l',rfl⟩:=z1;exact⟨[45],l',.inr rfl,rfl,rfl,rfl,λq=>nomatch q⟩
      . refine⟨[],l,.inl rfl,rfl,?_⟩;cases l with
        |nil=>exact⟨rfl,rfl,λ_ c l' q=>nomatch q⟩
        |cons c l=>
          have:c ∉ cs "-":=λq=>z1 ⟨l,by rw[show c=45 from D8.mp q]⟩;refine⟨db this,de this,λ_ c' l' q=>?_⟩;cases q;exact⟨λe=>z0 ⟨l,by rw[e]⟩,λe=>z1 ⟨l,by rw[e]⟩⟩
    have c_:=d9.app;refine⟨λd M'=>∃ c l2,l1=c::l2/\(49<=c/\c<=57)/\d= .str ⟨(pre++[c]).toArray⟩/\M'=RdM a t (k+pre.length+1),?_,?_⟩
    . refine⟨_,D8.mpr rfl,_,aN,cI,a,t,k,_,"-",rfl,rfl,d9,?_⟩;rw[hS,hN];refine⟨_,D8.mpr rfl,_,aN,bT,a,t,k+pre.length,l1,"123456789",rfl,rfl,c_,λc l2 e hc=>?_,λd5 M'=>?_⟩
      . refine⟨?_,c,l2,e,digits19.mp hc,?_,rfl⟩
        . rcases hp with rfl|rfl<;>simp[Str.length]
        . rw[show(⟨#[c]⟩:y')=⟨[c].toArray⟩ from rfl,eX]
      . rw[b9];exact hX _ (AX hp rfl (λc l' q=>λz=>d5 c l' q (digits19.mpr z)) h0 k) M'
    . rintro _ _ ⟨c,l2,rfl,hc,rfl,rfl⟩;k_places;have l9:=c_.next;refine⟨λz M'=>∃ x l3,((c=49/\∃ d,(48<=d/\d<=50)/\x=[d])\/(x=[]/\(c=49->∀ d l',l3=d::l'->¬ (48<=d/\d<=50))))/\l2=x++l3/\z=[be (.ptr a),be (.str ⟨(pre++c::x).toArray⟩)]/\M'=RdM a t (k+pre.length+1+x.length),?_,?_⟩
      . show if Txt.endswith ⟨(pre++[c]).toArray⟩ "1"=true then _ else _
        rw[AY];refine ite2 (λe=>?_) (λe=>?_)
        . have e':=of_decide_eq_true e;by_cases z2:∃ d l3,l2=d::l3/\(48<=d/\d<=50)
          . obtain⟨d,l3,rfl,hd⟩:=z2;refine⟨λv M'=>v= .str ⟨(pre++[c,d]).toArray⟩/\M'=RdM a t (k+pre.length+1+1),⟨_,D8.mpr rfl,_,aN,cI,a,t,_,_,"012",rfl,rfl,l9,?_⟩,?_⟩
            . rw[dI (digits02.mpr hd),dJ (digits02.mpr hd)];refine⟨?_,?_,rfl⟩
              . rcases hp with rfl|rfl<;>simp[Str.length]
              . rw[show(⟨#[d]⟩:y')=⟨[d].toArray⟩ from rfl,eX];simp
            . rintro _ _ ⟨rfl,rfl⟩;k_places;exact⟨[d],l3,.inl ⟨e',d,hd,rfl⟩,rfl,rfl,rfl⟩
          . have d5:∀ d l',l2=d::l'->¬ (48<=d/\d<=50):=λd l' q z=>z2 ⟨d,l',q,z⟩;have hm:mayS "012" l2=""/\mayN "012" l2=0:=by
              cases l2 with
              |nil=>exact⟨rfl,rfl⟩
              |cons d l2=>exact⟨db (λq=>d5 d l2 rfl (digits02.mp q)),de (λq=>d5 d l2 rfl (digits02.mp q))⟩
            refine⟨λv M'=>v= .str ⟨(pre++[c]).toArray⟩/\M'=RdM a t (k+pre.length+1),⟨_,D8.mpr rfl,_,aN,cI,a,t,_,_,"012",rfl,rfl,l9,?_⟩,?_⟩
            . rw[hm.1,hm.2];refine⟨?_,?_,rfl⟩
              . rcases hp with rfl|rfl<;>simp[Str.length,show(Str.ofString "").cps.size=0 from rfl]
              . rw[show("":y')=⟨([]:List Nat).toArray⟩ from rfl,eX];simp
            . rintro _ _ ⟨rfl,rfl⟩;k_places;exact⟨[],l2,.inr ⟨rfl,λ_=>d5⟩,rfl,rfl,rfl⟩
        . have e':¬ c=49:=λz=>e (decide_eq_true z);exact⟨[],l2,.inr ⟨rfl,λz=>absurd z e'⟩,rfl,rfl,rfl⟩
      . rintro _ _ ⟨x,l3,hx,rfl,rfl,rfl⟩;k_places;have hn:isNumL (pre++c::x):=by
          rcases hx with⟨rfl,d,hd,rfl⟩|⟨rfl,_⟩
          . rcases hp with rfl|rfl
            . exact .inr (.inl ⟨d,hd,rfl⟩)
            . exact .inr (.inr (.inr ⟨d,hd,rfl⟩))
          . rcases hp with rfl|rfl
            . exact .inl ⟨c,by lia,rfl⟩
            . exact .inr (.inr (.inl ⟨c,hc,rfl⟩))
        obtain⟨v,hv,ev⟩:=AN hn;refine⟨v,⟨?_,?_⟩,?_⟩
        . rw[<- ev];exact jY hv
        . rw[<- ev];have:=bv hv;rw[<- bt] at this ⊢;show(numL v).length<=640;exact Ei this (by decide)
        . have:=hR v l3 hv (by rw[ev];simp) λe r=>by rw[ev];exact AW hp hc hx k e r rfl
          rw[ev] at this;have e2:k+(pre++c::x).length=k+pre.length+1+x.length:=by simp;lia
          rw[e2] at this;exact this
abbrev fZ(V:Bx):Prop:=V.MM 5 "shift_from" lw A1
def C1(T:V.T "shift_from" lv lw)(Kr:nJ V)(uB:cA V):fZ V:=by
 refine Tx.okM T sc_shift_from (λds M R RX h=>?_) (λf cdv A outer s H E J hr hx=>⟨_,((aB (bf 1 sc_shift_from.nd (bc Kr hx hr (aD (ad (aa 0) ae))))
   (aB (ck (aY (CalMth.one uB) hx hr (ai (aa 0)) (aD (ad ay ae))))
   (aE (aM (yk (aR (ai (aa 1)) (aR (bc Kr hx hr (aD (ad (aa 0) ae))) bq)))))))),λds M R RX b9 h=>?_⟩)
 .obtain⟨_,_,_,_,rfl,_⟩:=h;rfl
 .obtain⟨a,t,k,l,rfl,rfl,d9,hR,hX⟩:=h;refine⟨λd M'=>∃ x l1,B12 x/\l=numL x++l1/\(∀ e r,walk (.num:: .sign e::r) l k=walk (.sign e::r) l1 (k+(numL x).length))/\d= .int x/\M'=RdM a t (k+(numL x).length),⟨a,t,k,l,rfl,rfl,d9,λx l' hx e hw=>⟨x,l',hx,e,hw,rfl,rfl⟩,λj hj M'=>?_⟩,?_⟩
  .rw[b9];exact hX j (λr=>hj _) M'
  rintro _ _ ⟨x,l1,i6,rfl,n9,rfl,rfl⟩;k_places;have c_:=d9.app;refine⟨_,D8.mpr rfl,_,aN,bT,a,t,_,l1,",",rfl,rfl,c_,λc l2 e hc=>?_,λd5 M'=>?_⟩
  .have ec:c=44:=D8.mp hc;subst ec;subst e;refine⟨a,t,_,l2,rfl,rfl,c_.next,λy l' hy e hw=>?_,λj hj M'=>?_⟩
   .subst e;refine⟨by simp,hR x y l' i6 hy rfl λe r=>?_⟩;rw[n9 44 _,dM,hw e r]
   .rw[b9];refine hX j (λr=>?_) M';rw[n9 44 _,dM,hj]
  .rw[b9];refine hX _ (λr=>?_) M';rw[n9 44 _,dL λl' q=>d5 44 l' q (by decide)]
abbrev iL(V:Bx):Prop:=V.D 1 "levelled" ly zW
def C3(T:V.T "levelled" lx ly):iL V:=by
 refine Tx.okDW T sc_levelled (λds R h=>?_) (λf cdv A outer s H E J hr=>⟨_,((ah (fF PassesOwn.never (cO (af (aa 1) ac) ac) (ah (am 2 sc_levelled.nd (wI (af (aa 0) ac) (af (aa 1) ac)))
    (ah (am 3 sc_levelled.nd (aL (ad (aS (af (aa 0) ac) (au (aa 2) (af (aa 1) ac))) (ad (aS (af (aa 0) ac) (au (aa 2) (af (aa 1) ac))) ae))))
    (ah (am 0 sc_levelled.nd (aa 1))
    (ar (am 1 sc_levelled.nd (aa 3)))))))
   (ah (fD (dZ (af (aa 0) ac) ac) (ar (am 0 sc_levelled.nd (aL (ad (bV (af (aa 0) ac)) (ad (bV (af (aa 0) ac)) ae))))) bn)
   (ar (aA (aL (ad (aa 0) (ad (aa 1) ae)))))))),λds R h=>?_⟩)
 .obtain⟨a,b,c,d,rfl,_⟩:=h;rfl
 .obtain⟨a,b,c,d,rfl,hb,hd,hR⟩:=h;refine⟨λm z=>∃ (f0 f1 s0 s1:Int) (t r:Option D),z=[be (.tup [.int f0,.int f1]),be (.tup [.int s0,.int s1]),t,r]/\Uni a b c d f0 f1 s0 s1/\f1.natAbs<4611686018427387904/\s1.natAbs<4611686018427387904/\m=s1.natAbs,⟨_,a,b,c,d,o_,o_,rfl,Uni.refl a b c d,hb,hd,rfl⟩,?_⟩;rintro m z ⟨f0,f1,s0,s1,t,r,rfl,hu,hf,hs,rfl⟩;k_places;refine⟨_,rfl,ite2 (λcc=>?_) (λcc=>?_)⟩
  .have c':¬ s1=0:=by simpa using cc
   obtain⟨g1,g2⟩:=fdm f1 s1 c';refine⟨λd=>d= .int (f1.fdiv s1),⟨_,rfl,_,rfl,⟨c',hs⟩,rfl⟩,?_⟩;rintro _ rfl;k_places;refine⟨λd=>d= .tup [.int (f0 - f1.fdiv s1*s0),.int (f1 - f1.fdiv s1*s1)],⟨_,rfl,_,rfl,.inl ⟨by lia,by lia⟩,_,rfl,_,rfl,.inl ⟨by lia,by lia⟩,by simp,rfl⟩,?_⟩;rintro _ rfl;k_places;refine⟨λd=>d= .tup [.int s0,.int s1],rfl,?_⟩;rintro _ rfl;k_places;refine⟨λd=>d= .tup [.int (f0 - f1.fdiv s1*s0),.int (f1 - f1.fdiv s1*s1)],rfl,?_⟩;rintro _ rfl;k_places;exact⟨_,g1,s0,s1,_,_,_,_,rfl,hu.step _,hs,by lia,rfl⟩
  .have c':s1=0:=by simpa using cc
   subst c';refine⟨λz=>∃ p0 p1:Int,z=[be (.tup [.int p0,.int p1]),be (.tup [.int s0,.int 0]),t,r]/\Lev a b c d p0 p1 s0,⟨_,rfl,ite2 (λe=>?_) (λe=>?_)⟩,?_⟩
   .have e':=of_decide_eq_true e;refine⟨λd=>d= .tup [.int (-f0),.int (-f1)],⟨_,rfl,_,rfl,by simp,rfl⟩,?_⟩;rintro _ rfl;k_places;exact⟨_,_,rfl,by lia,hu.neg⟩
   .have e':=of_decide_eq_false (EF.mpr e);exact⟨_,_,rfl,by lia,hu⟩
   .rintro _ ⟨p0,p1,rfl,hL⟩;k_places;exact⟨by simp,hR p0 p1 s0 hL⟩
abbrev iM(V:Bx):Prop:=V.D 2 "spread" lC zX
def C4(T:V.T "spread" lz lC)(uL:V.m "abs")(IF:iL V):iM V:=by
 refine Tx.okDW T sc_spread (λds R h=>?_) (λf cdv A outer s H E J hr=>⟨_,((ah (bu (bx (au (af (aa 0) ac) (af (aa 1) ac)) (au (af (aa 0) ac) (af (aa 1) ac))) (ar (aA du)) bn)
   (ah (am 2 sc_spread.nd (az IF hr (ad (aa 0) (ad (aa 1) ae))))
   (ah (am 3 sc_spread.nd (dY uL (ad (af (af (aa 2) ac) ac) ae)))
   (ar (aA (aL (ad (aa 3) (ad (af (af (aa 2) ac) ac) (ad (aw (af (af (aa 2) ac) ac) (aa 3)) ae)))))))))),λds R h=>?_⟩)
 .obtain⟨a,b,c,d,rfl,_⟩:=h;rfl
 .obtain⟨a,b,c,d,rfl,ha,hb,hc,hd,hN,hR⟩:=h;refine⟨_,rfl,_,rfl,.inl ⟨by lia,by lia⟩,_,rfl,_,rfl,.inl ⟨by lia,by lia⟩,ite2 (λe=>?_) (λe=>?_)⟩
  .exact hN (of_decide_eq_true e)
  .have e':=of_decide_eq_false (EF.mpr e);refine⟨λx=>∃ p0 p1 q0:Int,x= .tup [.tup [.int p0,.int p1],.tup [.int q0,.int 0]]/\Lev a b c d p0 p1 q0,⟨a,b,c,d,rfl,hb,hd,λp0 p1 q0 hL=>⟨p0,p1,q0,rfl,hL⟩⟩,?_⟩;rintro _ ⟨p0,p1,q0,rfl,hL⟩;k_places;have hF:=fN e' hL;refine⟨λx=>x= .int (if q0<0 then -q0 else q0),⟨_,rfl,_,rfl,rfl⟩,?_⟩;rintro _ rfl;k_places;exact⟨_,rfl,_,rfl,_,rfl,_,rfl,hF.1,by simp,hR e' _ _ _ hF⟩
abbrev fk(V:Bx):Prop:=V.D 1 "home" lF zV
def C5(T:V.T "home" lD lF):fk V:=by
 refine Tx.okDW T sc_home (λds R h=>?_) (λf cdv A outer s H E J hr=>⟨_,((ah (am 3 sc_home.nd (af (aa 0) ac))
   (ah (am 4 sc_home.nd (af (aa 0) ac))
   (ah (am 5 sc_home.nd (af (aa 0) ac))
   (ar (aA (aL (ad (aw (aS (aa 1) (au (aV (aa 2) (aa 4)) (aa 5))) (aa 3)) (ad (aw (aa 2) (aa 4)) ae))))))))),λds R h=>?_⟩)
 .obtain⟨w,h,s,x,y,rfl,_⟩:=h;rfl
 .obtain⟨w,h,s,x,y,rfl,hw,hh,x_,hs,l_,hR⟩:=h;refine⟨λd=>d= .int w,⟨_,rfl,rfl⟩,?_⟩;rintro _ rfl;k_places;refine⟨λd=>d= .int h,⟨_,rfl,rfl⟩,?_⟩;rintro _ rfl;k_places;refine⟨λd=>d= .int s,⟨_,rfl,rfl⟩,?_⟩;rintro _ rfl;k_places;exact⟨⟨hh,x_⟩,.inr ⟨by lia,by lia⟩,hw,hh,by simp,hR⟩
abbrev nK(V:Bx):Prop:=V.MM 2 "hues_by_home" lH Bb
def C6(T:V.T "hues_by_home" lG lH)(Ig:V.m "enumerate")(uV:fk V)(uK:V.gs "SIGNS" ".123456"):nK V:=by
 refine Tx.okM T sc_hues_by_home (λds M R RX h=>?_) (λf cdv A outer s H E J hr hx=>⟨_,((aB (bf 2 sc_hues_by_home.nd zk)
   (aB (zb PassesOwn.leaving rfl Ig (ai (aa 0)) (dg_cons 3 sc_hues_by_home.nd (dg_cons 4 sc_hues_by_home.nd dB)) (aE (zc PassesOwn.leaving rfl Ig (ai (aa 4)) (dg_cons 5 sc_hues_by_home.nd (dg_cons 6 sc_hues_by_home.nd dB)) (aE (qU (bY (cO (aa 6) ay)) (aE (ck (zn (pC hr) (ai (aa 2)) (aD (ad (az uV hr (ad (aa 1) (ad (aa 5) (ad (aa 3) ae)))) (ad (yc (eK uK) (ad (aa 6) ae)) ae)))))) bS)))))
   (qV 2 (aE (aM (ai (aa 2)))))))),λds M R RX b9 h=>?_⟩)
 .obtain⟨_,_,_,_,_,rfl,_⟩:=h;rfl
 .obtain⟨L,wd,w,h,s,rfl,hL,hw,hh,x_,hs,l_,hR⟩:=h;have OO:=hL.w8;refine⟨λd M'=>∃ p,p ∉ av M/\d= .ptr p/\M'=(p,.dti [])::M,λp hp=>⟨p,hp,rfl,rfl⟩,?_⟩;rintro _ _ ⟨p,hp,rfl,rfl⟩;k_places;refine⟨λj z M'=>∃ (kv:List ((Int × Int) × Int)) (x3 x4 x5 x6:Option D),hAll w h s j (L.drop j) kv=hAll w h s 0 L []/\kv.length<=8*j/\z=[be (.lst (lstD L)),be (.tup [.int w,.int h,.int s]),be (.ptr p),x3,x4,x5,x6]/\M'=(p,.dti kv)::M,⟨[],o_,o_,o_,o_,rfl,by simp,rfl,rfl⟩,?_,?_⟩
  .rintro j d z M' hd ⟨kv,x3,x4,x5,x6,e1,OP,rfl,rfl⟩;k_places;obtain⟨x,i6,rfl⟩:=A9 hd;have hj:j<L.length:=(Em.mp i6).1;have Pz:=hL.many;obtain⟨xl,xs⟩:=hL.each x (F6 i6);rw[sr i6] at e1;refine⟨A8 xs,λi z M'=>∃ (Hr:List ((Int × Int) × Int)) (x5 x6:Option D),hRow w h s j i (x.drop i) Hr=hRow w h s j 0 x kv/\Hr.length<=8*j+i/\i<=x.length/\z=[be (.lst (lstD L)),be (.tup [.int w,.int h,.int s]),be (.ptr p),be (.int j),be (.str ⟨x.toArray⟩),x5,x6]/\M'=(p,.dti Hr)::M,⟨kv,x5,x6,rfl,by lia,EA _,rfl,rfl⟩,?_,?_⟩
   .rintro i d z M' J5 ⟨Hr,y5,y6,e2,LW,hi,rfl,rfl⟩;k_places;obtain⟨c,hc,rfl⟩:=Ba J5;have v_:i<x.length:=(Em.mp hc).1;have sc:=xs c (F6 hc);rw[sr hc,hRow] at e2;refine⟨λz M'=>∃ JE:List ((Int × Int) × Int),hRow w h s j (i+1) (x.drop (i+1)) JE=hRow w h s j 0 x kv/\JE.length<=8*j+(i+1)/\z=[be (.lst (lstD L)),be (.tup [.int w,.int h,.int s]),be (.ptr p),be (.int j),be (.str ⟨x.toArray⟩),be (.int i),be (.str ⟨#[c]⟩)]/\M'=(p,.dti JE)::M,?_,?_⟩
    .show if(!decide ((⟨#[c]⟩:y')="."))=true then _ else _;by_cases t9:c=46
     .subst t9;rw[if_pos rfl] at e2;exact⟨Hr,e2,by lia,rfl,rfl⟩
     .rw[if_neg t9] at e2;refine ifT (by simp[one_sign,t9]) ?_;have c6:49<=c/\c<=54:=by unfold aG at sc;lia
      obtain⟨ix,rest,ho,Jj⟩:=A7 c6;refine⟨⟨_,cJ⟩,w,h,s,i,j,rfl,hw,hh,x_,hs,l_,ix,rest,ho,_,cJ,by have:=sq Hr (hmX w h s i j) ((j:Int) % h) ((c:Int) - 48);lia,λv=>?_⟩;rw[sj,Jj];exact⟨_,e2,by have:=sq Hr (hmX w h s i j) ((j:Int) % h) ((c:Int) - 48);lia,rfl,rfl⟩
    .rintro z M' ⟨JE,e3,h3,rfl,rfl⟩;k_places;exact⟨JE,_,_,e3,h3,v_,rfl,rfl⟩
   .rintro z M' hz;rw[gI,dN] at hz;obtain⟨Hr,y5,y6,e2,LW,hi,rfl,rfl⟩:=hz;rw[Ho] at e2;refine⟨Hr,_,_,_,_,?_,by lia,rfl,rfl⟩;rw[<- e1,hAll,<- e2];rfl
  .rintro z M' hz;rw[show(lstD L).length=L.length by simp[lstD]] at hz;obtain⟨kv,x3,x4,x5,x6,e1,OP,rfl,rfl⟩:=hz;rw[Ho] at e1;refine⟨_,cJ,?_⟩;rw[jZ];have e2:kv=hAll w h s 0 L []:=e1;rw[<- e2] at hR;exact hR
abbrev nL(V:Bx):Prop:=V.M 3 "Motif" lK Bc
def C7(T:V.Ti "Motif" "Motif.__init__" lJ lK)(IG:iM V)(LX:nK V)(HE:V.a "Motif" "place")(uJ:V.a "Motif" "shifts")(HF:V.a "Motif" "hues"):nL V:=by
 refine Txi.okIM T B5 (λds R h=>?_) (λf cdv A outer s H E J hr hx=>⟨_,((aB (gP HE (ai (aa 0)) (ai (aa 1)))
   (aB (gP uJ (ai (aa 0)) (ai (az IG hr (ad (aa 3) (ad (aa 4) ae)))))
   (aE (gP HF (ai (aa 0)) (fK (qP (aK uJ (ai (aa 0))) (ai du)) zj (bc LX hx hr (aR (ai (aa 2)) (aR (aK uJ (ai (aa 0))) bq))))))))),λa ds R d5 h=>?_⟩)
 .obtain⟨_,_,_,_,_,_,_,rfl,_⟩:=h;rfl
 .obtain⟨k,L,wd,x,y,u,v,rfl,hL,i6,hy,hu,hv,h0,h1⟩:=h;unfold B12 at i6 hy hu hv;refine⟨_,cy,by show(0:Nat)<1000;decide,?_⟩;rw[eV,Bd];refine⟨x,y,u,v,rfl,by lia,by lia,by lia,by lia,λe=>?_,λe w h s F=>?_⟩
  .refine⟨_,cy,by show(1:Nat)<1000;decide,?_⟩;rw[eV,ss];refine⟨_,cy,_,kd,?_⟩;refine⟨_,cy,by show(2:Nat)<1000;decide,?_⟩;rw[eV,su];exact⟨_,rfl,h0 e⟩
  .refine⟨_,cy,by show(1:Nat)<1000;decide,?_⟩;rw[eV,ss];refine⟨_,cy,_,kd,?_⟩;obtain⟨b1,b2,b3⟩:=F.bd (N:=288) (by
    have m1:=bz (a:=x) (d:=v) (A:=12) (B:=12) (by lia) (by lia);have m2:=bz (a:=y) (d:=u) (A:=12) (B:=12) (by lia) (by lia);lia)
   refine⟨_,cy,_,kd,L,wd,w,h,s,rfl,hL,F.1,F.2.1,by lia,F.2.2.1,by lia,?_⟩;refine⟨_,cy,by show(2:Nat)<1000;decide,?_⟩;rw[eV,su];exact⟨_,rfl,h1 e w h s F⟩
abbrev iN(V:Bx):Prop:=V.MM 6 "motif_from" lM Bk
def C8(T:V.T "motif_from" lL lM)(LY:nI V)(uX:fZ V)(uF:V.a "Reading" "place")(LZ:nL V)(uB:cA V):iN V:=by
  refine Tx.okM T sc_motif_from (λds M R RX h=>?_) (λf cdv A outer s H E J hr hx=>⟨_,((aB (bf 1 sc_motif_from.nd (aK uF (ai (aa 0))))
      (aB (ck (aY (CalMth.one uB) hx hr (ai (aa 0)) (aD (ad ay ae))))
      (aB (bf 2 sc_motif_from.nd (bc LY hx hr (aD (ad (aa 0) ae))))
      (aB (ck (aY (CalMth.one uB) hx hr (ai (aa 0)) (aD (ad ay ae))))
      (aB (bf 3 sc_motif_from.nd (bc uX hx hr (aD (ad (aa 0) ae))))
      (aB (ck (aY (CalMth.one uB) hx hr (ai (aa 0)) (aD (ad ay ae))))
      (aB (bf 4 sc_motif_from.nd (bc uX hx hr (aD (ad (aa 0) ae))))
      (aB (ck (aY (CalMth.one uB) hx hr (ai (aa 0)) (aD (ad ay ae))))
      (aE (aM (ai (jB LZ hr (ad (aa 1) (ad (aa 2) (ad (aa 3) (ad (aa 4) ae))))))))))))))))),λds M R RX b9 h=>?_⟩)
  . obtain⟨_,_,_,_,rfl,_⟩:=h;rfl
  . obtain⟨a,t,k,l,rfl,rfl,d9,hR,hX⟩:=h;refine⟨λd M'=>d= .int k/\M'=RdM a t k,⟨_,aN,_,cZ,rfl,rfl⟩,?_⟩;rintro _ _ ⟨rfl,rfl⟩;k_places;refine⟨_,D8.mpr rfl,_,aN,bT,a,t,_,l,"[",rfl,rfl,d9,λc l1 e hc=>?_,λd5 M'=>?_⟩
    . have ec:c=91:=D8.mp hc;subst ec;subst e;have hb:∀ r,walk (.pat 5::r) (91::l1) k=walk (motW r) l1 (k+1):=λr=>aF (by rw[bK];rfl);refine⟨λd M'=>∃ (L:List (List Nat)) (w:Nat) (l2:List Nat),RowsL L w/\l1=rowsL L++l2/\(∀ r,walk (.lin 0 0 0::r) l1 (k+1)=walk (.sign 59::r) l2 (k+1+(rowsL L).length))/\d= .lst (lstD L)/\M'=RdM a t (k+1+(rowsL L).length),⟨a,t,_,l1,rfl,rfl,d9.next,λL w l' h1 h2 h3=>⟨L,w,l',h1,h2,h3,rfl,rfl⟩,λj hj M'=>?_⟩,?_⟩
      . rw[b9];exact hX j (λr=>by rw[hb];exact hj _) M'
      rintro _ _ ⟨L,w,l2,hL,rfl,v8,rfl,rfl⟩;k_places;have l9:=d9.next.app;have Jw:∀ r,walk (.pat 5::r) (91::(rowsL L++l2)) k=walk (.sign 59:: .num:: .sign 44:: .num:: .sign 59:: .num:: .sign 44:: .num:: .sign 93::r) l2 (k+1+(rowsL L).length):=λr=>by rw[hb];exact v8 _
      refine⟨_,D8.mpr rfl,_,aN,bT,a,t,_,l2,";",rfl,rfl,l9,λc l3 e hc=>?_,λd5 M'=>?_⟩
      . have ec:c=59:=D8.mp hc;subst ec;subst e;have Hs:=l9.next;have L0:∀ r,walk (.pat 5::r) (91::(rowsL L++59::l3)) k=walk (.num:: .sign 44:: .num:: .sign 59:: .num:: .sign 44:: .num:: .sign 93::r) l3 (k+1+(rowsL L).length+1):=λr=>by rw[Jw,dM]
        refine⟨λd M'=>∃ x y l4,B12 x/\B12 y/\l3=numL x++44::(numL y++l4)/\(∀ e r,walk (.num:: .sign 44:: .num:: .sign e::r) l3 (k+1+(rowsL L).length+1)=walk (.sign e::r) l4 (k+1+(rowsL L).length+1+(numL x).length+1+(numL y).length))/\d= .tup [.int x,.int y]/\M'=RdM a t (k+1+(rowsL L).length+1+(numL x).length+1+(numL y).length),⟨a,t,_,l3,rfl,rfl,Hs,λx y l' h1 h2 h3 h4=>⟨x,y,l',h1,h2,h3,h4,rfl,rfl⟩,λj hj M'=>?_⟩,?_⟩
        . rw[b9];exact hX j (λr=>by rw[L0];exact hj _) M'
        rintro _ _ ⟨x,y,l4,i6,hy,rfl,Nk,rfl,rfl⟩;k_places;have JF:At t (k+1+(rowsL L).length+1+(numL x).length+1+(numL y).length) l4:=Hs.app.next.app;refine⟨_,D8.mpr rfl,_,aN,bT,a,t,_,l4,";",rfl,rfl,JF,λc l5 e hc=>?_,λd5 M'=>?_⟩
        . have ec:c=59:=D8.mp hc;subst ec;subst e;have JG:=JF.next;have Nl:∀ r,walk (.pat 5::r) (91::(rowsL L++59::(numL x++44::(numL y++59::l5)))) k=walk (.num:: .sign 44:: .num:: .sign 93::r) l5 (k+1+(rowsL L).length+1+(numL x).length+1+(numL y).length+1):=λr=>by rw[L0,Nk,dM]
          refine⟨λd M'=>∃ u v l6,B12 u/\B12 v/\l5=numL u++44::(numL v++l6)/\(∀ e r,walk (.num:: .sign 44:: .num:: .sign e::r) l5 (k+1+(rowsL L).length+1+(numL x).length+1+(numL y).length+1)=walk (.sign e::r) l6 (k+1+(rowsL L).length+1+(numL x).length+1+(numL y).length+1+(numL u).length+1+(numL v).length))/\d= .tup [.int u,.int v]/\M'=RdM a t (k+1+(rowsL L).length+1+(numL x).length+1+(numL y).length+1+(numL u).length+1+(numL v).length),⟨a,t,_,l5,rfl,rfl,JG,λx y l' h1 h2 h3 h4=>⟨x,y,l',h1,h2,h3,h4,rfl,rfl⟩,λj hj M'=>?_⟩,?_⟩
          . rw[b9];exact hX j (λr=>by rw[Nl];exact hj _) M'
          rintro _ _ ⟨u,v,l6,hu,hv,rfl,Nm,rfl,rfl⟩;k_places;have L3:At t (k+1+(rowsL L).length+1+(numL x).length+1+(numL y).length+1+(numL u).length+1+(numL v).length) l6:=JG.app.next.app;refine⟨_,D8.mpr rfl,_,aN,bT,a,t,_,l6,"]",rfl,rfl,L3,λc l7 e hc=>?_,λd5 M'=>?_⟩
          . have ec:c=93:=D8.mp hc;subst ec;subst e;obtain⟨Kj,Kk⟩:=Bj hL;have Nn:(Pat.mot (L.map λx=>(⟨x.toArray⟩:y')) x y u v).tl=motL L x y u v:=by rw[Pat.tl,Kk]
            have JH:∀ w,FormOf (Pat.mot (L.map λx=>(⟨x.toArray⟩:y')) x y u v) k w->R w (RdM a t (k+1+(rowsL L).length+1+(numL x).length+1+(numL y).length+1+(numL u).length+1+(numL v).length+1)):=λw hw=>by
              have:=hR (Pat.mot (L.map λx=>(⟨x.toArray⟩:y')) x y u v) l7 ⟨Kj,i6,hy,hu,hv⟩ rfl (by rw[Nn];simp[motL]) w hw;rw[Nn] at this;have e:k+(motL L x y u v).length=k+1+(rowsL L).length+1+(numL x).length+1+(numL y).length+1+(numL u).length+1+(numL v).length+1:=by
                simp[motL];lia
              rw[e] at this;exact this
            refine⟨k,L,w,x,y,u,v,rfl,hL,i6,hy,hu,hv,λe=>?_,λe w h s F=>?_⟩
            . exact JH _ ⟨.non,[],rfl,λ_=>rfl,λz=>absurd e z⟩
            . exact JH _ ⟨_,_,rfl,λz=>absurd z e,λ_=>⟨w,h,s,F,rfl,by rw[Kk]⟩⟩
          . rw[b9];refine hX _ (λr=>?_) M';rw[Nl,Nm,dL λl' q=>d5 93 l' q (by decide)]
        . rw[b9];refine hX _ (λr=>?_) M';rw[L0,Nk,dL λl' q=>d5 59 l' q (by decide)]
      . rw[b9];refine hX _ (λr=>?_) M';rw[Jw,dL λl' q=>d5 59 l' q (by decide)]
    . rw[b9];refine hX _ (λr=>?_) M';refine walk_bad (λz=>nomatch z) λc l' q=>?_;rw[bK];unfold bJ;have:¬ c=91:=λz=>d5 c l' q (by rw[z];decide);rw[if_neg this,if_pos rfl]
abbrev iO(V:Bx):Prop:=V.M 1 "Mirror" lP Bg
def C9(T:V.Ti "Mirror" "Mirror.__init__" lN lP)(uQ:V.a "Mirror" "form"):iO V:=by
 refine Txi.okI T B6 (λds R h=>?_) (λf cdv A outer s H E J hr=>⟨_,((bE uQ (aa 1) dE)),λds R h=>?_⟩)
 .obtain⟨_,_,rfl,_⟩:=h;rfl
 .obtain⟨x,fs,rfl,hR⟩:=h;exact⟨by decide,hR⟩
abbrev iQ(V:Bx):Prop:=V.M 1 "Turn" lR Bh
def Da(T:V.Ti "Turn" "Turn.__init__" lQ lR)(uO:V.a "Turn" "form"):iQ V:=by
 refine Txi.okI T B7 (λds R h=>?_) (λf cdv A outer s H E J hr=>⟨_,((bE uO (aa 1) dE)),λds R h=>?_⟩)
 .obtain⟨_,_,rfl,_⟩:=h;rfl
 .obtain⟨x,fs,rfl,hR⟩:=h;exact⟨by decide,hR⟩
abbrev iR(V:Bx):Prop:=V.M 1 "Over" lV Be
def Db(T:V.Ti "Over" "Over.__init__" lU lV)(uP:V.a "Over" "above")(uR:V.a "Over" "below"):iR V:=by
 refine Txi.okI T B8 (λds R h=>?_) (λf cdv A outer s H E J hr=>⟨_,((bE uP (aa 1) (bE uR (aa 2) dE))),λds R h=>?_⟩)
 .obtain⟨_,_,_,_,rfl,_⟩:=h;rfl
 .obtain⟨x,y,fs,gs,rfl,hR⟩:=h;refine⟨by decide,by show(1:Nat)<1000;decide,?_⟩;show R (putD _ _ (putD _ _ []));rw[putD,putD,if_neg (by decide+kernel)];exact hR
abbrev iS(V:Bx):Prop:=V.M 1 "Shifted" lY Bf
def Dc(T:V.Ti "Shifted" "Shifted.__init__" lW lY)(uN:V.a "Shifted" "form")(uZ:V.a "Shifted" "x")(HG:V.a "Shifted" "y"):iS V:=by
 refine Txi.okI T B9 (λds R h=>?_) (λf cdv A outer s H E J hr=>⟨_,((bE uN (aa 1) (bE uZ (aa 2) (bE HG (aa 3) dE)))),λds R h=>?_⟩)
 .obtain⟨_,_,_,_,rfl,_⟩:=h;rfl
 .obtain⟨x,fs,a,b,rfl,hR⟩:=h;refine⟨by decide,by show(1:Nat)<1000;decide,by show(2:Nat)<1000;decide,?_⟩;show R (putD _ _ (putD _ _ (putD _ _ [])));rw[show putD ("x":y') (.int a) (putD ("form":y') (.obj x fs) [])=([("form",.obj x fs),("x",.int a)]:List (y' × D)) by rw[putD,putD,if_neg (by decide+kernel)];rfl,putD,if_neg (by decide+kernel),putD,if_neg (by decide+kernel)];exact hR
abbrev iT(V:Bx):Prop:=V.M 1 "Rehue" ma Bi
def Dd(T:V.Ti "Rehue" "Rehue.__init__" lZ ma)(uS:V.a "Rehue" "form")(HH:V.a "Rehue" "old")(HI:V.a "Rehue" "new"):iT V:=by
 refine Txi.okI T Ca (λds R h=>?_) (λf cdv A outer s H E J hr=>⟨_,((bE uS (aa 1) (bE HH (aa 2) (bE HI (aa 3) dE)))),λds R h=>?_⟩)
 .obtain⟨_,_,_,_,rfl,_⟩:=h;rfl
 .obtain⟨x,fs,a,b,rfl,hR⟩:=h;refine⟨by decide,by show(1:Nat)<1000;decide,by show(2:Nat)<1000;decide,?_⟩;show R (putD _ _ (putD _ _ (putD _ _ [])));rw[show putD ("old":y') (.int a) (putD ("form":y') (.obj x fs) [])=([("form",.obj x fs),("old",.int a)]:List (y' × D)) by rw[putD,putD,if_neg (by decide+kernel)];rfl,putD,if_neg (by decide+kernel),putD,if_neg (by decide+kernel)];exact hR
variable{n j:Nat}
def De(hL:6<=n)(T:V.T "over_from" gX fV)(uH:V.MM n "form_from" cz (df j))(JI:iR V)(uB:cA V):V.MM (n+1) "over_from" fV (sA j):=by
 refine Tx.okM T sc_over_from (λds M R RX h=>?_) (λf cdv A outer s H E J hr hx=>⟨_,((aB (bf 2 sc_over_from.nd (bc (hn:=by omega) uH hx hr (aD (ad (aa 0) (ad (aa 1) ae)))))
   (aB (ck (aY (hn:=by omega) (CalMth.one uB) hx hr (ai (aa 0)) (aD (ad ay ae))))
   (aB (bf 3 sc_over_from.nd (bc (hn:=by omega) uH hx hr (aD (ad (aa 0) (ad (aa 1) ae)))))
   (aB (ck (aY (hn:=by omega) (CalMth.one uB) hx hr (ai (aa 0)) (aD (ad ay ae))))
   (aE (aM (ai (jB (hn:=by omega) JI hr (ad (aa 2) (ad (aa 3) ae))))))))))),λds M R RX b9 h=>?_⟩)
 .obtain⟨_,_,_,_,_,rfl,_⟩:=h;rfl
 .obtain⟨a,t,k,l,d,rfl,rfl,d9,Ih,G_,hR,hX⟩:=h;refine⟨λv M'=>∃ p l1,p.Syn/\p.depth+d<=5/\l=p.tl++l1/\FormOf p k v/\M'=RdM a t (k+p.tl.length),⟨a,t,k,l,d,rfl,rfl,d9,Ih,G_,λp l' h1 h2 h3 v h4=>⟨p,l',h1,h2,h3,h4,rfl⟩,λi hi M'=>?_⟩,?_⟩
  .rw[b9];exact hX i (λr=>hi _) M'
  rintro v _ ⟨p,l1,hp,L4,rfl,hv,rfl⟩;k_places;obtain⟨fs,rfl⟩:=hv.obj;have c_:=d9.app;have n9:∀ r,walk (.pat d:: .sign 124:: .pat d:: .sign 41::r) (p.tl++l1) k=walk (.sign 124:: .pat d:: .sign 41::r) l1 (k+p.tl.length):=λr=>cx hp d _ l1 k L4;refine⟨_,D8.mpr rfl,_,aN,bT,a,t,_,l1,"|",rfl,rfl,c_,λc l2 e hc=>?_,λd5 M'=>?_⟩
  .have ec:c=124:=D8.mp hc;subst ec;subst e;refine⟨λv M'=>∃ q l3,q.Syn/\q.depth+d<=5/\l2=q.tl++l3/\FormOf q (k+p.tl.length+1) v/\M'=RdM a t (k+p.tl.length+1+q.tl.length),⟨a,t,_,l2,d,rfl,rfl,c_.next,Ih,G_,λp l' h1 h2 h3 v h4=>⟨p,l',h1,h2,h3,h4,rfl⟩,λi hi M'=>?_⟩,?_⟩
   .rw[b9];exact hX i (λr=>by rw[n9,dM];exact hi _) M'
   rintro v _ ⟨q,l3,hq,No,rfl,Np,rfl⟩;k_places;obtain⟨gs,rfl⟩:=Np.obj;have Hs:=c_.next.app;have OQ:∀ r,walk (.pat d:: .sign 124:: .pat d:: .sign 41::r) (p.tl++124::(q.tl++l3)) k=walk (.sign 41::r) l3 (k+p.tl.length+1+q.tl.length):=λr=>by rw[n9,dM,cx hq d _ l3 _ No]
   refine⟨_,D8.mpr rfl,_,aN,bT,a,t,_,l3,")",rfl,rfl,Hs,λc l4 e hc=>?_,λd5 M'=>?_⟩
   .have ec:c=41:=D8.mp hc;subst ec;subst e;exact⟨_,_,_,_,rfl,hR p q l4 hp hq L4 No rfl _ _ hv Np⟩
   .rw[b9];refine hX _ (λr=>?_) M';rw[OQ,dL λl' q=>d5 41 l' q (by decide)]
  .rw[b9];refine hX _ (λr=>?_) M';rw[n9,dL λl' q=>d5 124 l' q (by decide)]
def Df(hL:6<=n)(T:V.T "shifted_from" gY fW)(uX:fZ V)(uH:V.MM n "form_from" cz (df j))(JJ:iS V)(uB:cA V):V.MM (n+1) "shifted_from" fW (sB j):=by
 refine Tx.okM T sc_shifted_from (λds M R RX h=>?_) (λf cdv A outer s H E J hr hx=>⟨_,((aB (bf 2 sc_shifted_from.nd (bc (hn:=by omega) uX hx hr (aD (ad (aa 0) ae))))
   (aB (ck (aY (hn:=by omega) (CalMth.one uB) hx hr (ai (aa 0)) (aD (ad ay ae))))
   (aE (aM (gN (hn:=by omega) JJ hr (aR (bc (hn:=by omega) uH hx hr (aD (ad (aa 0) (ad (aa 1) ae)))) (aR (ai (af (aa 2) ac)) (aR (ai (af (aa 2) ac)) bq))))))))),λds M R RX b9 h=>?_⟩)
 .obtain⟨_,_,_,_,_,rfl,_⟩:=h;rfl
 .obtain⟨a,t,k,l,d,rfl,rfl,d9,Ih,G_,hR,hX⟩:=h;refine⟨λv M'=>∃ x y l1,B12 x/\B12 y/\l=numL x++44::(numL y++l1)/\(∀ e r,walk (.num:: .sign 44:: .num:: .sign e::r) l k=walk (.sign e::r) l1 (k+(numL x).length+1+(numL y).length))/\v= .tup [.int x,.int y]/\M'=RdM a t (k+(numL x).length+1+(numL y).length),⟨a,t,_,l,rfl,rfl,d9,λx y l' h1 h2 h3 h4=>⟨x,y,l',h1,h2,h3,h4,rfl,rfl⟩,λi hi M'=>?_⟩,?_⟩
  .rw[b9];exact hX i (λr=>hi _) M'
  rintro _ _ ⟨x,y,l1,i6,hy,rfl,n9,rfl,rfl⟩;k_places;have c_:At t (k+(numL x).length+1+(numL y).length) l1:=d9.app.next.app;refine⟨_,D8.mpr rfl,_,aN,bT,a,t,_,l1,":",rfl,rfl,c_,λc l2 e hc=>?_,λd5 M'=>?_⟩
  .have ec:c=58:=D8.mp hc;subst ec;subst e;refine⟨a,t,_,l2,d,rfl,rfl,c_.next,Ih,G_,λp l' h1 h2 h3 v h4=>?_,λi hi M'=>?_⟩
   .obtain⟨fs,rfl⟩:=h4.obj;subst h3;exact⟨_,rfl,_,rfl,_,_,_,_,rfl,hR x y p l' i6 hy h1 h2 rfl _ h4⟩
   .rw[b9];refine hX i (λr=>?_) M';rw[n9,dM];exact hi _
  .rw[b9];refine hX _ (λr=>?_) M';rw[n9,dL λl' q=>d5 58 l' q (by decide)]
def Dg(hL:6<=n)(T:V.T "rehue_from" gZ fX)(uD:V.m "int")(uH:V.MM n "form_from" cz (df j))(JK:iT V)(uB:cA V):V.MM (n+1) "rehue_from" fX (sC j):=by
 refine Tx.okM T sc_rehue_from (λds M R RX h=>?_) (λf cdv A outer s H E J hr hx=>⟨_,((aB (bf 2 sc_rehue_from.nd (qR uD (aR (aY (hn:=by omega) (CalMth.one uB) hx hr (ai (aa 0)) (aD (ad ay ae))) bq)))
   (aB (bf 3 sc_rehue_from.nd (qR uD (aR (aY (hn:=by omega) (CalMth.one uB) hx hr (ai (aa 0)) (aD (ad ay ae))) bq)))
   (aE (aM (gN (hn:=by omega) JK hr (aR (bc (hn:=by omega) uH hx hr (aD (ad (aa 0) (ad (aa 1) ae)))) (aR (ai (aa 2)) (aR (ai (aa 3)) bq))))))))),λds M R RX b9 h=>?_⟩)
 .obtain⟨_,_,_,_,_,rfl,_⟩:=h;rfl
 .obtain⟨a,t,k,l,d,rfl,rfl,d9,Ih,G_,hR,hX⟩:=h;refine⟨λv M'=>∃ c l1,(49<=c/\c<=54)/\l=c::l1/\v= .int ((c:Int) - 48)/\M'=RdM a t (k+1),⟨_,D8.mpr rfl,_,aN,bT,a,t,_,l,"123456",rfl,rfl,d9,λc l1 e hc=>?_,λd5 M'=>?_⟩,?_⟩
  .exact⟨_,⟨digit_of (hue_dig.mp hc),by show(1:Nat)<=640;decide⟩,c,l1,hue_dig.mp hc,e,rfl,rfl⟩
  .rw[b9];exact hX _ (λr=>sy d5) M'
  rintro _ _ ⟨c,l1,hc,rfl,rfl,rfl⟩;k_places;refine⟨λv M'=>∃ e l2,(49<=e/\e<=54)/\l1=e::l2/\v= .int ((e:Int) - 48)/\M'=RdM a t (k+2),⟨_,D8.mpr rfl,_,aN,bT,a,t,_,l1,"123456",rfl,rfl,d9.next,λc l1 e hc=>?_,λd5 M'=>?_⟩,?_⟩
  .exact⟨_,⟨digit_of (hue_dig.mp hc),by show(1:Nat)<=640;decide⟩,c,l1,hue_dig.mp hc,e,rfl,rfl⟩
  .rw[b9];exact hX _ (λr=>by rw[ke hc,sy d5]) M'
  rintro _ _ ⟨e,l2,he,rfl,rfl,rfl⟩;k_places;refine⟨a,t,_,l2,d,rfl,rfl,d9.next.next,Ih,G_,λp l' h1 h2 h3 v h4=>?_,λi hi M'=>?_⟩
  .obtain⟨fs,rfl⟩:=h4.obj;subst h3;exact⟨_,_,_,_,rfl,hR c e p l' hc he h1 h2 rfl _ h4⟩
  .rw[b9];refine hX i (λr=>?_) M';rw[ke hc,ke he];exact hi _
def Dh(hL:6<=n)(T:V.T "form_from" hJ cz)(OR:V.MM n "over_from" fV (sA j))(OS:V.MM n "shifted_from" fW (sB j))(uH:V.MM n "form_from" cz (df j))(OT:V.MM n "rehue_from" fX (sC j))(JL:iN V)(JM:V.gi "DEEP" 5)(JN:iO V)(JO:iQ V)(uI:dg V):V.MM (n+1) "form_from" cz (df (j+1)):=by
 refine Tx.okM T sc_form_from (λds M R RX h=>?_) (λf cdv A outer s H E J hr hx=>⟨_,((aB (bf 2 sc_form_from.nd (fK (bY (dZ (aa 1) (fH JM))) (aY (hn:=by omega) (CalMth.one uI) hx hr (ai (aa 0)) (aD (ad ay ae))) (ai ay)))
   (aB (bZ (bY (bx (aa 2) ay)) (aE (aM (bc (hn:=by omega) OR hx hr (aD (ad (aa 0) (ad (ao (aa 1) ac) ae)))))) bS)
   (aB (bZ (bY (bx (aa 2) ay)) (aE (aM (bc (hn:=by omega) OS hx hr (aD (ad (aa 0) (ad (ao (aa 1) ac) ae)))))) bS)
   (aB (bZ (bY (bx (aa 2) ay)) (aE (aM (gN (hn:=by omega) JN hr (aR (bc (hn:=by omega) uH hx hr (aD (ad (aa 0) (ad (ao (aa 1) ac) ae)))) bq)))) bS)
   (aB (bZ (bY (bx (aa 2) ay)) (aE (aM (gN (hn:=by omega) JO hr (aR (bc (hn:=by omega) uH hx hr (aD (ad (aa 0) (ad (ao (aa 1) ac) ae)))) bq)))) bS)
   (aB (bZ (bY (bx (aa 2) ay)) (aE (aM (bc (hn:=by omega) OT hx hr (aD (ad (aa 0) (ad (ao (aa 1) ac) ae)))))) bS)
   (aE (aM (bc (hn:=by omega) JL hx hr (aD (ad (aa 0) ae)))))))))))),λds M R RX b9 h=>?_⟩)
 .obtain⟨_,_,_,_,_,rfl,_⟩:=h;rfl
 .obtain⟨a,t,k,l,d,rfl,rfl,d9,Ih,G_,hR,hX⟩:=h;have PB:d<=5:=by lia
  refine⟨λv M'=>(v= .str ""/\M'=RdM a t k/\(d=5\/∀ c l',l=c::l'->c ∉ cs "(smth"))\/(∃ c l',l=c::l'/\c∈cs "(smth"/\d<5/\v= .str ⟨#[c]⟩/\M'=RdM a t (k+1)),?_,?_⟩
  .show if decide ((d:Int)<5)=true then _ else _
   refine ite2 (λc=>?_) (λc=>?_)
   .have c':d<5:=by have:=of_decide_eq_true c;lia
    refine⟨_,D8.mpr rfl,_,aN,cI,a,t,_,l,"(smth",rfl,rfl,d9,?_⟩;by_cases h:∃ c l',l=c::l'/\c∈cs "(smth"
    .obtain⟨c,l',rfl,hc⟩:=h;rw[dI hc,dJ hc];exact .inr ⟨c,l',rfl,hc,c',rfl,rfl⟩
    .have d5:∀ c l',l=c::l'->c ∉ cs "(smth":=λc l' e hc=>h ⟨c,l',e,hc⟩;have hm:mayS "(smth" l=""/\mayN "(smth" l=0:=by
      cases l with
      |nil=>exact⟨rfl,rfl⟩
      |cons c l=>exact⟨db (d5 c l rfl),de (d5 c l rfl)⟩
     rw[hm.1,hm.2];exact .inl ⟨rfl,rfl,.inr d5⟩
   .have c':d=5:=by
     have:¬ ((d:Int)<5):=λz=>c (decide_eq_true z);lia
    exact .inl ⟨rfl,rfl,.inl c'⟩
  rintro _ _ (⟨rfl,rfl,d5⟩|⟨c,l1,rfl,hc,g5,rfl,rfl⟩);k_places
  .refine⟨a,t,k,l,rfl,rfl,d9,λp l' h1 h2 h3 v h4=>hR p l' h1 (by lia) h3 v h4,λi hi M'=>?_⟩;rw[b9];exact hX i (λr=>by rw[Bl d5];exact hi r) M'
  have c_:=d9.next;have hj:1<=j:=by lia
  have OU:cs "(smth"=[40,115,109,116,104]:=rfl;rw[OU] at hc;simp only[Ea,E6,or_false] at hc;have nd:¬ d=5:=by lia
  rcases hc with rfl|rfl|rfl|rfl|rfl
  .have hw:∀ r,walk (.pat d::r) (40::l1) k=walk (.pat (d+1):: .sign 124:: .pat (d+1):: .sign 41::r) l1 (k+1):=λr=>aF (by rw[bK];unfold bJ;rw[if_neg (by decide),if_neg nd,if_pos rfl]);refine⟨a,t,k+1,l1,d+1,rfl,rfl,c_,by lia,hj,λp q l' h1 h2 h3 h4 h5 u u' h6 h7=>?_,λi hi M'=>?_⟩
   .have:=hR (.over p q) l' ⟨h1,h2⟩ (by rw[Pat.depth];lia) (by rw[h5,Pat.tl];simp) _ ⟨u,u',rfl,h6,h7⟩;have e:k+(Pat.over p q).tl.length=k+1+p.tl.length+1+q.tl.length+1:=by rw[Pat.tl];simp;lia
    rw[e] at this;exact this
   .rw[b9];exact hX i (λr=>by rw[hw];exact hi r) M'
  .have hw:∀ r,walk (.pat d::r) (115::l1) k=walk (.num:: .sign 44:: .num:: .sign 58:: .pat (d+1)::r) l1 (k+1):=λr=>aF (by rw[bK];unfold bJ;rw[if_neg (by decide),if_neg nd,if_neg (by decide),if_pos rfl]);refine⟨a,t,k+1,l1,d+1,rfl,rfl,c_,by lia,hj,λx y p l' h1 h2 h3 h4 h5 u h6=>?_,λi hi M'=>?_⟩
   .have:=hR (.sh x y p) l' ⟨h1,h2,h3⟩ (by rw[Pat.depth];lia) (by rw[h5,Pat.tl];simp) _ ⟨u,rfl,h6⟩;have e:k+(Pat.sh x y p).tl.length=k+1+(numL x).length+1+(numL y).length+1+p.tl.length:=by rw[Pat.tl];simp;lia
    rw[e] at this;exact this
   .rw[b9];exact hX i (λr=>by rw[hw];exact hi r) M'
  .have hw:∀ r,walk (.pat d::r) (109::l1) k=walk (.pat (d+1)::r) l1 (k+1):=λr=>aF (by rw[bK];unfold bJ;rw[if_neg (by decide),if_neg nd,if_neg (by decide),if_neg (by decide),if_neg (by decide),if_pos (.inl rfl)]);refine⟨a,t,k+1,l1,d+1,rfl,rfl,c_,by lia,hj,λp l' h1 h2 h3 v h4=>?_,λi hi M'=>?_⟩
   .obtain⟨fs,rfl⟩:=h4.obj;have:=hR (.mir p) l' h1 (by rw[Pat.depth];lia) (by rw[h3,Pat.tl];simp) _ ⟨_,rfl,h4⟩;have e:k+(Pat.mir p).tl.length=k+1+p.tl.length:=by rw[Pat.tl];simp;lia
    rw[e] at this;exact⟨_,_,rfl,this⟩
   .rw[b9];exact hX i (λr=>by rw[hw];exact hi r) M'
  .have hw:∀ r,walk (.pat d::r) (116::l1) k=walk (.pat (d+1)::r) l1 (k+1):=λr=>aF (by rw[bK];unfold bJ;rw[if_neg (by decide),if_neg nd,if_neg (by decide),if_neg (by decide),if_neg (by decide),if_pos (.inr rfl)]);refine⟨a,t,k+1,l1,d+1,rfl,rfl,c_,by lia,hj,λp l' h1 h2 h3 v h4=>?_,λi hi M'=>?_⟩
   .obtain⟨fs,rfl⟩:=h4.obj;have:=hR (.tur p) l' h1 (by rw[Pat.depth];lia) (by rw[h3,Pat.tl];simp) _ ⟨_,rfl,h4⟩;have e:k+(Pat.tur p).tl.length=k+1+p.tl.length:=by rw[Pat.tl];simp;lia
    rw[e] at this;exact⟨_,_,rfl,this⟩
   .rw[b9];exact hX i (λr=>by rw[hw];exact hi r) M'
  .have hw:∀ r,walk (.pat d::r) (104::l1) k=walk (.hue:: .hue:: .pat (d+1)::r) l1 (k+1):=λr=>aF (by rw[bK];unfold bJ;rw[if_neg (by decide),if_neg nd,if_neg (by decide),if_neg (by decide),if_pos rfl]);refine⟨a,t,k+1,l1,d+1,rfl,rfl,c_,by lia,hj,λc e p l' h1 h2 h3 h4 h5 u h6=>?_,λi hi M'=>?_⟩
   .have:=hR (.hue ((c:Int) - 48) ((e:Int) - 48) p) l' ⟨by lia,by lia,h3⟩ (by rw[Pat.depth];lia) (by rw[h5,Pat.tl,gS h1,gS h2];simp) _ ⟨u,rfl,h6⟩;have e:k+(Pat.hue ((c:Int) - 48) ((e:Int) - 48) p).tl.length=k+1+2+p.tl.length:=by rw[Pat.tl,gS h1,gS h2];simp;lia
    rw[e] at this;exact this
   .rw[b9];exact hX i (λr=>by rw[hw];exact hi r) M'
def Di(OV:V.T "over_from" gX fV)(OW:V.T "shifted_from" gY fW)(OX:V.T "rehue_from" gZ fX)(Nq:V.T "form_from" hJ cz)(JI:iR V)(uB:cA V)(uX:fZ V)(JJ:iS V)(uD:V.m "int")(JK:iT V)(JL:iN V)(JM:V.gi "DEEP" 5)(JN:iO V)(JO:iQ V)(uI:dg V):∀ j,V.MM (6+2*j) "form_from" cz (df j):=by
 intro j;induction j with
 |zero=>exact CalMM.never Nq (λds M R RX=>Bm)
 |succ j ih=>
  have JP:=ih;have L5:=De (n:=6+2*j) (j:=j) (by omega) OV JP JI uB;have L6:=Df (n:=6+2*j) (j:=j) (by omega) OW uX JP JJ uB;have L7:=Dg (n:=6+2*j) (j:=j) (by omega) OX uD JP JK uB;have JP:=Cal.mono ih (Fb _);exact Dh (n:=6+2*j+1) (j:=j) (by omega) Nq L5 L6 JP L7 JL JM JN JO uI
abbrev nM(V:Bx):Prop:=V.M 1 "Reading" mf AS
def Dj(T:V.Ti "Reading" "Reading.__init__" me mf)(HD:V.a "Reading" "text")(uF:V.a "Reading" "place"):nM V:=by
 refine Txi.okI T Cb (λds R h=>?_) (λf cdv A outer s H E J hr=>⟨_,((bE HD (aa 1) (bE uF ac dE))),λds R h=>?_⟩)
 .obtain⟨_,rfl,_⟩:=h;rfl
 .obtain⟨t,rfl,hR⟩:=h;refine⟨by decide,by show(1:Nat)<1000;decide,?_⟩;show R (putD _ _ (putD _ _ []));rw[putD,putD,if_neg (by decide+kernel)];exact hR
abbrev nN(V:Bx):Prop:=V.M 1 "Pattern" mj By
def Dk(T:V.Ti "Pattern" "Pattern.__init__" mi mj)(L8:V.a "Pattern" "text")(uW:V.a "Pattern" "shifts")(IH:V.a "Pattern" "form"):nN V:=by
 refine Txi.okI T Cc (λds R h=>?_) (λf cdv A outer s H E J hr=>⟨_,((bE L8 (aa 1) (bE uW (aa 2) (bE IH (aa 3) dE)))),λds R h=>?_⟩)
 .obtain⟨_,_,_,_,_,_,rfl,_⟩:=h;rfl
 .obtain⟨t,w,h,s,x,fs,rfl,hR⟩:=h;refine⟨by decide,by show(1:Nat)<1000;decide,by show(2:Nat)<1000;decide,?_⟩;show R (putD _ _ (putD _ _ (putD _ _ [])));rw[show putD ("shifts":y') (.tup [.int w,.int h,.int s]) (putD ("text":y') (.str t) [])=([("text",.str t),("shifts",.tup [.int w,.int h,.int s])]:List (y' × D)) by rw[putD,putD,if_neg (by decide+kernel)];rfl,putD,if_neg (by decide+kernel),putD,if_neg (by decide+kernel)];exact hR
abbrev iU(V:Bx):Prop:=V.E 1 "OneLine" mm BA
def Dl(T:V.Te "OneLine" "OneLine.__init__" ml mm)(IE:V.b "MotifError")(uAT:V.ea "OneLine")(L9:V.xf "OneLine" "place"):iU V:=by
 refine Txe.okE T Cd (λds R h=>?_) (λf cdv A outer s H E J hr=>⟨_,((qF IE uAT (ad (aa 1) ae) (qG uAT L9 (aa 1) qE))),λds R h=>?_⟩)
 .obtain⟨i,rfl,_⟩:=h;rfl
 .obtain⟨i,rfl,hR⟩:=h;exact⟨by show(1:Nat)<=1000;decide,rfl,hR⟩
abbrev nO(V:Bx):Prop:=V.D 2 "measure" mo Aa
def Dm(T:V.T "measure" mn mo)(IF:iL V):nO V:=by
 refine Tx.okDW T sc_measure (λds R h=>?_) (λf cdv A outer s H E J hr=>⟨_,((ah (am 2 sc_measure.nd (af (az IF hr (ad (aL (ad ac (ad (aa 0) ae))) (ad (aL (ad ac (ad (aa 1) ae))) ae))) ac))
   (ar (aA (aL (ad (af (aa 2) ac) (ad (af (aa 2) ac) ae))))))),λds R h=>?_⟩)
 .obtain⟨x,y,rfl,_⟩:=h;rfl
 .obtain⟨x,y,rfl,hx,hy,hR⟩:=h;refine⟨λd=>∃ p0 p1:Int,d= .tup [.int p0,.int p1]/\Meas x y p1 p0,⟨by simp,by simp,1,x,0,y,rfl,hx,hy,λp0 p1 q0 hL=>⟨_,rfl,p0,p1,rfl,rA ⟨hL.1,hL.2⟩⟩⟩,?_⟩;rintro _ ⟨p0,p1,rfl,hM⟩;k_places;exact⟨_,rfl,_,rfl,by simp,hR p1 p0 hM⟩
abbrev iV(V:Bx):Prop:=V.D 3 "met" mv Ab
def Dn(T:V.T "met" mq mv)(JQ:nO V):iV V:=by
 refine Tx.okDW T sc_met (λds R h=>?_) (λf cdv A outer s H E J hr=>⟨_,((ah (am 2 sc_met.nd (az JQ hr (ad (af (aa 0) ac) (ad (af (aa 1) ac) ae))))
   (ah (am 3 sc_met.nd (aV (au (af (aa 0) ac) (af (aa 1) ac)) (af (aa 2) ac)))
   (ah (am 4 sc_met.nd (aV (au (af (aa 0) ac) (af (aa 1) ac)) (af (az JQ hr (ad (af (aa 0) ac) (ad (af (aa 1) ac) ae))) ac)))
   (ah (am 5 sc_met.nd (au (aV (aa 4) (af (aa 0) ac)) (af (aa 0) ac)))
   (ah (am 6 sc_met.nd (aS (au (aV (aa 4) (af (aa 1) ac)) (af (aa 1) ac)) (aa 5)))
   (ah (am 7 sc_met.nd (aV (af (aa 2) ac) (af (az JQ hr (ad (af (aa 2) ac) (ad (aa 6) ae))) ac)))
   (ah (am 8 sc_met.nd (au (aV (au (aa 7) (aa 6)) (af (aa 2) ac)) (af (aa 2) ac)))
   (ar (aA (aL (ad (aa 3) (ad (au (aa 4) (aa 7)) (ad (aw (ao (au (aa 7) (aa 5)) (au (aa 8) (af (aa 0) ac))) (aa 3)) ae)))))))))))))),λds R h=>?_⟩)
 .obtain⟨_,_,_,_,_,_,rfl,_⟩:=h;rfl
 .obtain⟨w1,h1,s1,w2,h2,s2,rfl,a1,a2,a3,a4,a5,a6,b1,b2,b3,b4,b5,b6,hR⟩:=h;refine⟨λd=>∃ g u:Int,d= .tup [.int g,.int u]/\Meas w1 w2 g u,⟨_,rfl,_,rfl,w1,w2,rfl,by omega,by omega,λg u M=>⟨g,u,rfl,M⟩⟩,?_⟩;rintro _ ⟨g,u,rfl,M1⟩;k_places;have hg:=M1.pos a1;have LL:=M1.le a1;refine⟨λd=>d= .int (w1*w2 / g),⟨_,rfl,_,rfl,.inl (b64B a1 a2),_,rfl,d30B hg (FZ LL a2),rfl⟩,?_⟩;rintro _ rfl;k_places;refine⟨λd=>∃ k u':Int,d= .int (h1*h2 / k)/\Meas h1 h2 k u',⟨_,rfl,_,rfl,.inl (b64B a3 a4),_,rfl,_,rfl,h1,h2,rfl,by omega,by omega,λk u' M=>⟨_,rfl,d30B (M.pos a3) (FZ (M.le a3) a4),k,u',rfl,M⟩⟩,?_⟩;rintro _ ⟨k,u',rfl,M2⟩;k_places;obtain⟨r0,r1,r2,r3,r4,r5⟩:=jT a3 b3 M2;have OY:h1*h2<=1125899906842624:=by
   have:=bz (a:=h1) (d:=h2) (A:=33554432) (B:=33554432) (by omega) (by omega);omega
  refine⟨λd=>d= .int (h1*h2 / k / h1*s1),⟨_,rfl,d30B a3 a4,_,rfl,.inr (s64B a5 a6 a2),rfl⟩,?_⟩;rintro _ rfl;k_places;refine⟨λd=>d= .int (h1*h2 / k / h2*s2 - h1*h2 / k / h1*s1),⟨_,rfl,d30B b3 b4,_,rfl,.inr (s64B b5 b6 b2),rfl⟩,?_⟩;rintro _ rfl;k_places;have t1:=bz (a:=h1*h2 / k / h1) (d:=s1) (A:=33554432) (B:=33554432) (by omega) (by omega);have t2:=bz (a:=h1*h2 / k / h2) (d:=s2) (A:=33554432) (B:=33554432) (by omega) (by omega);refine⟨λd=>∃ gg t8:Int,d= .int (g / gg)/\Meas g (h1*h2 / k / h2*s2 - h1*h2 / k / h1*s1) gg t8,⟨_,rfl,_,rfl,g,_,rfl,by omega,by omega,λgg t8 M=>⟨_,rfl,d30B (M.pos hg) (FZ (M.le hg) (FZ LL a2)),gg,t8,rfl,M⟩⟩,?_⟩;rintro _ ⟨gg,t8,rfl,M3⟩;k_places;have G':=M3.pos hg;have c1:0<=g / gg:=Gw (by omega) (by omega);have c2:g / gg<=g:=Gx _ (by omega);have c4:=zM (c:=g / gg) (gap:=h1*h2 / k / h2*s2 - h1*h2 / k / h1*s1) (N:=2251799813685248) hg c1 c2 (by omega);have mr:=jS a1 b1 a3 b3 M1 M2 M3;refine⟨λd=>d= .int (g / gg*(h1*h2 / k / h2*s2 - h1*h2 / k / h1*s1) / g*u),⟨.inl ⟨by omega,by omega⟩,_,rfl,⟨by omega,by omega⟩,_,rfl,.inl ⟨by omega,by omega⟩,rfl⟩,?_⟩;rintro _ rfl;k_places;obtain⟨w0,w3,_⟩:=jT a1 b1 M1;have OZ:w1*w2<=1125899906842624:=by
   have:=bz (a:=w1) (d:=w2) (A:=33554432) (B:=33554432) (by omega) (by omega);omega
  have Jw:=bz (a:=h1*h2 / k) (d:=g / gg) (A:=1125899906842624) (B:=33554432) (by omega) (by omega);exact⟨.inl ⟨by omega,by omega⟩,.inl ⟨by omega,by omega⟩,_,rfl,.inr ⟨by omega,by omega⟩,w0,by simp,hR _ _ _ _ mr⟩
abbrev iW(V:Bx):Prop:=V.D 1 "mirrored" my zY
def Do(T:V.T "mirrored" mx my):iW V:=by
 refine Tx.okDW T Ce (λds R h=>?_) (λf cdv A outer s H E J hr=>⟨_,((ar (aA (aL (ad (af (aa 0) ac) (ad (af (aa 0) ac) (ad (aw (bV (af (aa 0) ac)) (af (aa 0) ac)) ae))))))),λds R h=>?_⟩)
 .obtain⟨w,h,s,rfl,_⟩:=h;rfl
 .obtain⟨w,h,s,rfl,hw,hR⟩:=h;exact⟨_,rfl,_,rfl,_,rfl,_,rfl,hw,by simp,hR⟩
abbrev iX(V:Bx):Prop:=V.D 3 "turned" mB zZ
def Dp(T:V.T "turned" mz mB)(IG:iM V):iX V:=by
 refine Tx.okDW T Cf (λds R h=>?_) (λf cdv A outer s H E J hr=>⟨_,((ar (aA (az IG hr (ad (aL (ad ac (ad (af (aa 0) ac) ae))) (ad (aL (ad (bV (af (aa 0) ac)) (ad (af (aa 0) ac) ae))) ae)))))),λds R h=>?_⟩)
 .obtain⟨w,h,s,rfl,_⟩:=h;rfl
 .obtain⟨w,h,s,rfl,hw,hh,v8,x_,hs,l_,hR⟩:=h;have hp:0<w*h:=Ep hw hh;have hn:¬ 0*s=w* -h:=by rw[E4];lia
  exact⟨_,rfl,by simp,_,rfl,_,rfl,by simp,0,w,-h,s,rfl,by lia,by lia,by lia,by lia,λe=>absurd e hn,λ_ w' h' s' f=>hR w' h' s' f⟩
def ok_Motif_family(hL:3<=n)(T:V.Tm "Motif" "family" "Motif.family" hU cq)(uJ:V.a "Motif" "shifts")(HE:V.a "Motif" "place")(uAA:iU V):V.Q (n+1) "Motif" "family" cq (ofX (bP (j+1) "Motif")):=by
 refine Txm.okM T Cg (λds M R RX h=>?_) (λf cdv A outer s H E J hr hx=>⟨_,((aB (bZ (qP (aK uJ (ai (aa 0))) (ai du)) (aE (jN (hn:=by omega) uAA hr hx rfl (aR (aK HE (ai (aa 0))) bq))) bS)
   (aE (aM (aK uJ (ai (aa 0))))))),λds M R RX b9 h=>?_⟩)
 .obtain⟨_,_,_,rfl,_⟩:=h;rfl
 .obtain⟨p,k,v,rfl,hv,hs,hd,hc,e_,hX,hR⟩:=h;cases p with
  |over p q=>exact absurd (show("Over":y')="Motif" from hc) (by decide+kernel)
  |sh a b p=>exact absurd (show("Shifted":y')="Motif" from hc) (by decide+kernel)
  |mir p=>exact absurd (show("Mirror":y')="Motif" from hc) (by decide+kernel)
  |tur p=>exact absurd (show("Turn":y')="Motif" from hc) (by decide+kernel)
  |hue f g p=>exact absurd (show("Rehue":y')="Motif" from hc) (by decide+kernel)
  |mot L a b c d=>
   obtain⟨sh,hu,rfl,h0,h1⟩:=hv;refine⟨_,⟨rfl,rfl⟩,_,kg,?_⟩;by_cases e:a*d=b*c
   .rw[h0 e];refine⟨_,⟨rfl,rfl⟩,_,Bn,by show(1:Nat)<=1000;decide,(k:Int),rfl,?_⟩;rw[b9];exact hX k (by rw[Pat.lineAt,if_pos e])
   .obtain⟨w,h,s,F,rfl,rfl⟩:=h1 e;exact⟨_,⟨rfl,rfl⟩,_,kg,hR (by rw[Pat.lineAt,if_neg e]) w h s (Pat.Fam.mot F)⟩
def Dq(hL:3<=n)(T:V.Tm "Over" "family" "Over.family" hV hZ)(JR:iV V)(uP:V.a "Over" "above")(uR:V.a "Over" "below")(uG:∀ x,x∈(["Motif","Over","Shifted","Mirror","Turn","Rehue"]:List y')->V.Q n x "family" cq (ofX (bP j x))):V.Q (n+1) "Over" "family" hZ (ofX (bP (j+1) "Over")):=by
 refine Txm.okM T sc_Over_family (λds M R RX h=>?_) (λf cdv A outer s H E J hr hx=>⟨_,((aB (bf 1 sc_Over_family.nd (dF (hn:=by omega) uG hx hr (aK uP (ai (aa 0)))))
   (aE (aM (bc (hn:=by omega) (CalD.toM JR) hx hr (aR (ai (aa 1)) (aR (dF (hn:=by omega) uG hx hr (aK uR (ai (aa 0)))) bq))))))),λds M R RX b9 h=>?_⟩)
 .obtain⟨_,_,_,rfl,_⟩:=h;rfl
 .obtain⟨p,k,v,rfl,hv,hs,hd,hc,e_,hX,hR⟩:=h;cases p with
  |mot L a b c d=>exact absurd (show("Motif":y')="Over" from hc) (by decide+kernel)
  |sh a b p=>exact absurd (show("Shifted":y')="Over" from hc) (by decide+kernel)
  |mir p=>exact absurd (show("Mirror":y')="Over" from hc) (by decide+kernel)
  |tur p=>exact absurd (show("Turn":y')="Over" from hc) (by decide+kernel)
  |hue f g p=>exact absurd (show("Rehue":y')="Over" from hc) (by decide+kernel)
  |over p q=>
   obtain⟨u,u',rfl,hu,JS⟩:=hv;obtain⟨fs,rfl,hf,_⟩:=hu.objm;obtain⟨gs,rfl,hg,_⟩:=JS.objm;rw[Pat.depth] at hd;refine⟨λd M'=>(∃ w h s,p.lineAt (k+1)=o_/\p.Fam w h s/\d= .tup [.int w,.int h,.int s])/\M'=M,⟨_,⟨rfl,rfl⟩,_,rfl,p.cls,p.cls_mem,fs,⟨rfl,rfl⟩,hf,p,k+1,_,rfl,hu,hs.1,by lia,rfl,e_.1,λi hi=>?_,λhn w h s F=>⟨⟨w,h,s,hn,F,rfl⟩,rfl⟩⟩,?_⟩
   .rw[b9];exact hX i (by rw[Pat.lineAt,hi])
   rintro _ _ ⟨⟨w1,h1,s1,L_,F1,rfl⟩,rfl⟩;k_places;refine⟨_,⟨rfl,rfl⟩,_,eZ (by decide+kernel),q.cls,q.cls_mem,gs,⟨rfl,rfl⟩,hg,q,k+1+p.tl.length+1,_,rfl,JS,hs.2,by lia,rfl,e_.2.1,λi hi=>?_,λx' w2 h2 s2 F2=>?_⟩
   .rw[b9];exact hX i (by rw[Pat.lineAt,L_];exact hi)
   .obtain⟨f1,f2⟩:=e_.2.2 (Pat.line_wf _ hs.1 L_) (Pat.line_wf _ hs.2 x');obtain⟨a1,a2,a3,a4,a5,a6⟩:=f1.small F1;obtain⟨b1,b2,b3,b4,b5,b6⟩:=f2.small F2;exact⟨w1,h1,s1,w2,h2,s2,rfl,a1,a2,a3,a4,a5,a6,b1,b2,b3,b4,b5,b6,λw h s A MR=>hR (by rw[Pat.lineAt,L_];exact x') w h s (Pat.Fam.over F1 F2 MR)⟩
def Dr(hL:3<=n)(T:V.Tm "Shifted" "family" "Shifted.family" ia ib)(uN:V.a "Shifted" "form")(uG:∀ x,x∈(["Motif","Over","Shifted","Mirror","Turn","Rehue"]:List y')->V.Q n x "family" cq (ofX (bP j x))):V.Q (n+1) "Shifted" "family" ib (ofX (bP (j+1) "Shifted")):=by
 refine Txm.okM T Ch (λds M R RX h=>?_) (λf cdv A outer s H E J hr hx=>⟨_,((aE (aM (dF (hn:=by omega) uG hx hr (aK uN (ai (aa 0))))))),λds M R RX b9 h=>?_⟩)
 .obtain⟨_,_,_,rfl,_⟩:=h;rfl
 .obtain⟨p,k,v,rfl,hv,hs,hd,hc,e_,hX,hR⟩:=h;cases p with
  |mot L a b c d=>exact absurd (show("Motif":y')="Shifted" from hc) (by decide+kernel)
  |over p q=>exact absurd (show("Over":y')="Shifted" from hc) (by decide+kernel)
  |mir p=>exact absurd (show("Mirror":y')="Shifted" from hc) (by decide+kernel)
  |tur p=>exact absurd (show("Turn":y')="Shifted" from hc) (by decide+kernel)
  |hue f g p=>exact absurd (show("Rehue":y')="Shifted" from hc) (by decide+kernel)
  |sh a b p=>
   obtain⟨u,rfl,hu⟩:=hv;obtain⟨fs,rfl,hf,_⟩:=hu.objm;rw[Pat.depth] at hd;refine⟨_,⟨rfl,rfl⟩,_,rfl,p.cls,p.cls_mem,fs,⟨rfl,rfl⟩,hf,p,_,_,rfl,hu,hs.2.2,by lia,rfl,e_,λi hi=>?_,λhn w h s F=>?_⟩
   .rw[b9];exact hX i (by rw[Pat.lineAt];exact hi)
   .exact hR (by rw[Pat.lineAt];exact hn) w h s (F.sh a b)
def Ds(hL:3<=n)(T:V.Tm "Mirror" "family" "Mirror.family" ic ie)(JT:iW V)(uQ:V.a "Mirror" "form")(uG:∀ x,x∈(["Motif","Over","Shifted","Mirror","Turn","Rehue"]:List y')->V.Q n x "family" cq (ofX (bP j x))):V.Q (n+1) "Mirror" "family" ie (ofX (bP (j+1) "Mirror")):=by
 refine Txm.okM T Ci (λds M R RX h=>?_) (λf cdv A outer s H E J hr hx=>⟨_,((aE (aM (bc (hn:=by omega) (CalD.toM JT) hx hr (aR (dF (hn:=by omega) uG hx hr (aK uQ (ai (aa 0)))) bq))))),λds M R RX b9 h=>?_⟩)
 .obtain⟨_,_,_,rfl,_⟩:=h;rfl
 .obtain⟨p,k,v,rfl,hv,hs,hd,hc,e_,hX,hR⟩:=h;cases p with
  |mot L a b c d=>exact absurd (show("Motif":y')="Mirror" from hc) (by decide+kernel)
  |over p q=>exact absurd (show("Over":y')="Mirror" from hc) (by decide+kernel)
  |sh a b p=>exact absurd (show("Shifted":y')="Mirror" from hc) (by decide+kernel)
  |tur p=>exact absurd (show("Turn":y')="Mirror" from hc) (by decide+kernel)
  |hue f g p=>exact absurd (show("Rehue":y')="Mirror" from hc) (by decide+kernel)
  |mir p=>
   obtain⟨u,rfl,hu⟩:=hv;obtain⟨fs,rfl,hf,_⟩:=hu.objm;rw[Pat.depth] at hd;refine⟨_,⟨rfl,rfl⟩,_,rfl,p.cls,p.cls_mem,fs,⟨rfl,rfl⟩,hf,p,_,_,rfl,hu,hs,by lia,rfl,e_,λi hi=>?_,λhn w h s F=>?_⟩
   .rw[b9];exact hX i (by rw[Pat.lineAt];exact hi)
   .exact⟨w,h,s,rfl,F.f.w0,hR (by rw[Pat.lineAt];exact hn) w h _ F.mir⟩
def Dt(hL:3<=n)(T:V.Tm "Turn" "family" "Turn.family" ig ii)(JU:iX V)(uO:V.a "Turn" "form")(uG:∀ x,x∈(["Motif","Over","Shifted","Mirror","Turn","Rehue"]:List y')->V.Q n x "family" cq (ofX (bP j x))):V.Q (n+1) "Turn" "family" ii (ofX (bP (j+1) "Turn")):=by
 refine Txm.okM T Cj (λds M R RX h=>?_) (λf cdv A outer s H E J hr hx=>⟨_,((aE (aM (bc (hn:=by omega) (CalD.toM JU) hx hr (aR (dF (hn:=by omega) uG hx hr (aK uO (ai (aa 0)))) bq))))),λds M R RX b9 h=>?_⟩)
 .obtain⟨_,_,_,rfl,_⟩:=h;rfl
 .obtain⟨p,k,v,rfl,hv,hs,hd,hc,e_,hX,hR⟩:=h;cases p with
  |mot L a b c d=>exact absurd (show("Motif":y')="Turn" from hc) (by decide+kernel)
  |over p q=>exact absurd (show("Over":y')="Turn" from hc) (by decide+kernel)
  |sh a b p=>exact absurd (show("Shifted":y')="Turn" from hc) (by decide+kernel)
  |mir p=>exact absurd (show("Mirror":y')="Turn" from hc) (by decide+kernel)
  |hue f g p=>exact absurd (show("Rehue":y')="Turn" from hc) (by decide+kernel)
  |tur p=>
   obtain⟨u,rfl,hu⟩:=hv;obtain⟨fs,rfl,hf,_⟩:=hu.objm;rw[Pat.depth] at hd;refine⟨_,⟨rfl,rfl⟩,_,rfl,p.cls,p.cls_mem,fs,⟨rfl,rfl⟩,hf,p,_,_,rfl,hu,hs,by lia,rfl,e_.1,λi hi=>?_,λhn w h s F=>?_⟩
   .rw[b9];exact hX i (by rw[Pat.lineAt];exact hi)
   .obtain⟨a1,a2,a3,a4,a5,a6⟩:=(e_.2 (Pat.line_wf _ hs hn)).small F;exact⟨w,h,s,rfl,a1,a3,by lia,by lia,a5,by lia,λw' h' s' F'=>hR (by rw[Pat.lineAt];exact hn) w' h' s' (F.tur F')⟩
def Du(hL:3<=n)(T:V.Tm "Rehue" "family" "Rehue.family" ij ik)(uS:V.a "Rehue" "form")(uG:∀ x,x∈(["Motif","Over","Shifted","Mirror","Turn","Rehue"]:List y')->V.Q n x "family" cq (ofX (bP j x))):V.Q (n+1) "Rehue" "family" ik (ofX (bP (j+1) "Rehue")):=by
 refine Txm.okM T Ck (λds M R RX h=>?_) (λf cdv A outer s H E J hr hx=>⟨_,((aE (aM (dF (hn:=by omega) uG hx hr (aK uS (ai (aa 0))))))),λds M R RX b9 h=>?_⟩)
 .obtain⟨_,_,_,rfl,_⟩:=h;rfl
 .obtain⟨p,k,v,rfl,hv,hs,hd,hc,e_,hX,hR⟩:=h;cases p with
  |mot L a b c d=>exact absurd (show("Motif":y')="Rehue" from hc) (by decide+kernel)
  |over p q=>exact absurd (show("Over":y')="Rehue" from hc) (by decide+kernel)
  |sh a b p=>exact absurd (show("Shifted":y')="Rehue" from hc) (by decide+kernel)
  |mir p=>exact absurd (show("Mirror":y')="Rehue" from hc) (by decide+kernel)
  |tur p=>exact absurd (show("Turn":y')="Rehue" from hc) (by decide+kernel)
  |hue f g p=>
   obtain⟨u,rfl,hu⟩:=hv;obtain⟨fs,rfl,hf,_⟩:=hu.objm;rw[Pat.depth] at hd;refine⟨_,⟨rfl,rfl⟩,_,rfl,p.cls,p.cls_mem,fs,⟨rfl,rfl⟩,hf,p,_,_,rfl,hu,hs.2.2,by lia,rfl,e_,λi hi=>?_,λhn w h s F=>?_⟩
   .rw[b9];exact hX i (by rw[Pat.lineAt];exact hi)
   .exact hR (by rw[Pat.lineAt];exact hn) w h s (F.hue f g)
def Dv(Nr:V.Tm "Motif" "family" "Motif.family" hU cq)(Nt:V.Tm "Over" "family" "Over.family" hV hZ)(Nu:V.Tm "Shifted" "family" "Shifted.family" ia ib)(Nv:V.Tm "Mirror" "family" "Mirror.family" ic ie)(Nw:V.Tm "Turn" "family" "Turn.family" ig ii)(Nx:V.Tm "Rehue" "family" "Rehue.family" ij ik)(uJ:V.a "Motif" "shifts")(HE:V.a "Motif" "place")(uAA:iU V)(JR:iV V)(uP:V.a "Over" "above")(uR:V.a "Over" "below")(uN:V.a "Shifted" "form")(JT:iW V)(uQ:V.a "Mirror" "form")(JU:iX V)(uO:V.a "Turn" "form")(uS:V.a "Rehue" "form"):∀ j x,x∈(["Motif","Over","Shifted","Mirror","Turn","Rehue"]:List y')->V.Q (3+j) x "family" cq (ofX (bP j x)):=by
 intro j;induction j with
 |zero=>
  intro x hx;simp only[Ea,E6,or_false] at hx;rcases hx with rfl|rfl|rfl|rfl|rfl|rfl
  .exact CalMth.never Nr (λds M R RX=>fb)
  .exact CalMth.never Nt (λds M R RX=>fb)
  .exact CalMth.never Nu (λds M R RX=>fb)
  .exact CalMth.never Nv (λds M R RX=>fb)
  .exact CalMth.never Nw (λds M R RX=>fb)
  .exact CalMth.never Nx (λds M R RX=>fb)
 |succ j JV=>
  intro x hx;simp only[Ea,E6,or_false] at hx;rcases hx with rfl|rfl|rfl|rfl|rfl|rfl
  .exact ok_Motif_family (n:=3+j) (j:=j) (by omega) Nr uJ HE uAA
  .exact Dq (n:=3+j) (j:=j) (by omega) Nt JR uP uR JV
  .exact Dr (n:=3+j) (j:=j) (by omega) Nu uN JV
  .exact Ds (n:=3+j) (j:=j) (by omega) Nv JT uQ JV
  .exact Dt (n:=3+j) (j:=j) (by omega) Nw JU uO JV
  .exact Du (n:=3+j) (j:=j) (by omega) Nx uS JV
abbrev sT(V:Bx):Prop:=V.MM 18 "form_from" cz (df 6)
abbrev sU(V:Bx):Prop:=∀ x,x∈(["Motif","Over","Shifted","Mirror","Turn","Rehue"]:List y')->V.Q 9 x "family" cq (ofX (bP 6 x))
abbrev nP(V:Bx):Prop:=V.X 19 "read" mD sJ
def Dw(T:V.T "read" mC mD)(uC:V.m "len")(uH:sT V)(Ma:V.gi "MOST" 720)(uF:V.a "Reading" "place")(Mb:nM V)(Mc:nN V)(uG:sU V)(uY:iK V)(Md:V.n "TooGreat"):nP V:=by
 refine CalMM.nilX (Tx.okM T sc_read (λds M R RX h=>?_) (λf cdv A outer s H E J hr hx=>⟨_,((aB (bf 1 sc_read.nd (yw Mb hr (aD (ad (aa 0) ae))))
   (aB (bf 2 sc_read.nd (bc uH hx hr (aD (ad (aa 1) (ad ac ae)))))
   (aB (bZ (qO (aK uF (ai (aa 1))) (ai (cN uC (ad (aa 0) ae)))) (aE (jN uY hr hx rfl (aR (aK uF (ai (aa 1))) bq))) bS)
   (aB (bf 3 sc_read.nd (dF uG hx hr (ai (aa 2))))
   (aB (bZ (bY (pY (au (af (aa 3) ac) (af (aa 3) ac)) (fH Ma))) (aE (yD Md hx rfl (aD (ad ay ae)))) bS)
   (aE (aM (ai (jB Mc hr (ad (aa 0) (ad (aa 3) (ad (aa 2) ae))))))))))))),λds M R RX b9 h=>?_⟩))
 .obtain⟨_,R0,F_,h,_⟩:=h;rcases h with⟨_,_,rfl,_⟩|⟨_,rfl,_⟩<;>rfl
 .obtain⟨rfl,R0,F_,h,hR,hX⟩:=h;obtain⟨t,ht,O0,w9⟩:∃ t:y',ds=[.str t]/\t.length<=100000/\((∃ k:Nat,cX t=be k/\F_ "WrongSign" [("place",.int k)])\/∃ p:Pat,t=p.text/\p.Syn/\p.depth<=5/\p.Cal/\(∀ k:Nat,p.lineAt 0=be k->F_ "OneLine" [("place",.int k)])/\(p.lineAt 0=o_->¬ p.Fits->F_ "TooGreat" [])/\(p.lineAt 0=o_->p.Fits->∀ d,ca p d->R0 d)):=by
   rcases h with⟨t,k,e,h1,h2,h3⟩|⟨p,e,h1,h2,h3⟩
   .exact⟨t,e,h1,.inl ⟨k,h2,h3⟩⟩
   .exact⟨p.text,e,by have:=Pat.syn_short h1 h2;lia,.inr ⟨p,rfl,h1,h2,h3⟩⟩
  subst ht;have d9:At t 0 (cs t):=⟨rfl,EA _,O0⟩;refine⟨λd M'=>∃ a,d= .ptr a/\M'=RdM a t 0,⟨t,rfl,λa _=>⟨a,rfl,rfl⟩⟩,?_⟩;rintro _ _ ⟨a,rfl,rfl⟩;k_places;refine⟨λv M'=>∃ p l',p.Syn/\p.depth<=5/\cs t=p.tl++l'/\FormOf p 0 v/\M'=RdM a t p.tl.length,⟨a,t,0,cs t,0,rfl,rfl,d9,rfl,by decide,λp l' h1 h2 h3 v h4=>⟨p,l',h1,by lia,h3,h4,by rw[FI]⟩,λi hi M'=>?_⟩,?_⟩
  .rw[b9];have hw:cX t=be i:=hi [];rcases w9 with⟨k,h1,h2⟩|⟨p,rfl,h1,h2,_⟩
   .rw[hw] at h1;cases h1;exact hX _ _ _ h2
   .rw[sf h1 h2] at hw;cases hw
  rintro v _ ⟨p,l',hp,L4,hl,hv,rfl⟩;k_places;have hw:cX t=walk [] l' p.tl.length:=by
   unfold cX;rw[hl,cx hp 0 [] l' 0 (by lia),FI]
  have b7:t.length=p.tl.length+l'.length:=by rw[<- bt,hl,Eg]
  refine⟨_,aN,_,cZ,by lia,ite2 (λc=>?_) (λc=>?_)⟩
  .have c':=of_decide_eq_true c;refine⟨_,aN,_,cZ,by show(1:Nat)<=1000;decide,(p.tl.length:Int),rfl,?_⟩;rw[b9];have v8:cX t=be p.tl.length:=by
    rw[hw];cases l' with
    |nil=>simp at b7;lia
    |cons c l=>simp[walk,step,aH,aJ]
   rcases w9 with⟨k,h1,h2⟩|⟨q,rfl,h1,h2,_⟩
   .rw[v8] at h1;cases h1;exact hX _ _ _ h2
   .rw[sf h1 h2] at v8;cases v8
  have c':¬ ((p.tl.length:Int)<(t.length:Int)):=λz=>c (decide_eq_true z);have O1:l'=[]:=FR (by lia);subst O1;rcases w9 with⟨k,h1,h2⟩|⟨q,rfl,h1,h2,e_,Me,Ii,JW⟩
  .rw[hw] at h1;cases h1
  obtain⟨rfl,_⟩:=Bw (p:=q) (q:=p) (x:=[]) (y:=[]) h1 hp (by rw[<- cY,hl];simp);obtain⟨fs,rfl,hf,_⟩:=hv.objm;refine⟨λd M'=>∃ w h s,q.lineAt 0=o_/\q.Fam w h s/\d= .tup [.int w,.int h,.int s],⟨q.cls,q.cls_mem,fs,⟨rfl,rfl⟩,hf,q,0,_,rfl,hv,hp,by lia,rfl,e_,λi hi=>?_,λhn w h s F=>⟨w,h,s,hn,F,rfl⟩⟩,?_⟩
  .rw[b9];exact hX _ _ _ (Me i hi)
  rintro _ M' ⟨w,h,s,hn,F,rfl⟩;k_places;have e8:=Pat.line_wf 0 hp hn;have Nm:=Pat.cal_w e8 e_ F;have OA:=F.f.w0;refine⟨_,rfl,_,rfl,.inl ⟨by lia,by lia⟩,ite2 (λc=>?_) (λc=>?_)⟩
  .have c2:=of_decide_eq_true c;refine⟨by show(1:Nat)<=1000;decide,?_⟩;rw[b9];refine hX _ _ _ (Ii hn λ⟨w',h',s',F',hb⟩=>?_);obtain⟨rfl,rfl,_⟩:=F.uniq F';lia
  .have c2:¬ (720<w*h):=λz=>c (decide_eq_true z);refine⟨_,_,_,_,_,_,rfl,hR _ _ (JW hn ⟨w,h,s,F,by lia⟩ _ ⟨w,h,s,_,rfl,rfl,eZ (by decide+kernel),⟨F,⟨0,_,kh (by decide+kernel) (by decide+kernel),hv⟩,by
    have:=FormOf.nl hv;unfold noL at this;simp[noLF,noL,noLs,this]⟩⟩)⟩
abbrev nQ(V:Bx):Prop:=V.D 1 "_law_coordinate" mG Au
def Dx(T:V.T "_law_coordinate" mF mG):nQ V:=by
 refine Tx.okDW T Cl (λds R h=>?_) (λf cdv A outer s H E J hr=>⟨_,((ah (bu (dZ (aw (aa 0) ac) ac) (ar (aA (aS (aw (aV (aa 0) ac) ac) ac))) bn)
   (ah (bu (bx (aw (aa 0) ac) ac) (ar (aA (aS (aw (au (aV (aa 0) ac) ac) (ao (au ac (cv ac ac)) ac)) (cv ac ac)))) bn)
   (ar (aA (af (bo (ad (bV (cv ac ac)) (ad (aS ac (cv ac ac)) (ad (aS (cv ac ac) ac) (ad (cv ac ac) ae))))) (aw (aV (aa 0) ac) ac))))))),λds R h=>?_⟩)
 .obtain⟨_,rfl,_⟩:=h;rfl
 .obtain⟨v,rfl,hR⟩:=h;have Ij:((10:Int) ^ Ft 12)=1000000000000:=by decide
  refine⟨by decide,ite2 (λ_=>?_) (λ_=>?_)⟩
  .exact⟨⟨by decide,by decide⟩,by decide,hR _ (by lia) (by lia)⟩
  refine⟨by decide,ite2 (λ_=>?_) (λ_=>?_)⟩
  .refine⟨⟨by decide,by decide⟩,.inr ⟨by decide,by decide⟩,⟨by decide,by decide,by decide⟩,.inl ⟨by decide,by decide⟩,by decide,⟨by decide,by decide,by decide⟩,hR _ ?_ ?_⟩
   .rw[Ij];have:=cm (a:=v / 4*3360676521) (show(0:Int)<2*1000000000000+1 by decide);lia
   .rw[Ij];have:=cn (a:=v / 4*3360676521) (show(0:Int)<2*1000000000000+1 by decide);lia
  obtain⟨c,ec,h1,h2⟩:=Av (v / 4);exact⟨⟨by decide,by decide,by decide⟩,⟨by decide,by decide,by decide⟩,⟨by decide,by decide,by decide⟩,⟨by decide,by decide,by decide⟩,by simp,⟨by decide,by decide⟩,by decide,_,ec,hR c h1 h2⟩
abbrev nR(V:Bx):Prop:=V.D 2 "_law_leaf_shows" mI Ar
def Dy(T:V.T "_law_leaf_shows" mH mI)(uA:V.m "range")(uC:V.m "len")(uD:V.m "int")(ID:iJ V):nR V:=by
 refine Tx.okDW T sc__law_leaf_shows (λds R h=>?_) (λf cdv A outer s H E J hr=>⟨_,((ah (am 3 sc__law_leaf_shows.nd (af (aa 0) ac))
   (ah (am 4 sc__law_leaf_shows.nd (ao (ao (au (af (aa 3) ac) (aa 1)) (au (af (aa 3) ac) (aa 2))) (af (aa 3) ac)))
   (ah (am 5 sc__law_leaf_shows.nd (ao (ao (au (af (aa 3) ac) (aa 1)) (au (af (aa 3) ac) (aa 2))) (af (aa 3) ac)))
   (ah (cC 6 PassesOwn.never rfl sc__law_leaf_shows.nd uA (cN uC (ad (af (aa 0) ac) ae)) (ar (cC 7 PassesOwn.never rfl sc__law_leaf_shows.nd uA (cN uC (ad (af (af (aa 0) ac) (aa 6)) ae)) (ar (bu (fC (wX (cO (af (af (af (aa 0) ac) (aa 6)) (aa 7)) ay) (wW (dA (az ID hr (ad (af (aa 0) ac) (ad (af (aa 0) ac) (ad (aS (aa 4) (aa 7)) (ad (aS (aa 5) (aa 6)) ae))))))))) (ar (aA (af (af (aa 0) ac) (gC uD (ad (af (af (af (aa 0) ac) (aa 6)) (aa 7)) ae))))) bn)))))
   (ar (aA ac))))))),λds R h=>?_⟩)
 .obtain⟨_,_,_,rfl,_⟩:=h;rfl
 .obtain⟨l,x,y,rfl,ok,hR⟩:=h;obtain⟨hm,wd,OO,HC⟩:=id ok.rows;refine⟨λd=>d= .tup [.int l.w0,.int l.w1,.int l.w2,.int l.w3,.int l.w4,.int l.w5],⟨_,rfl,rfl⟩,?_⟩;rintro _ rfl;k_places;refine⟨λd=>d= .int (l.w0*x+l.w1*y+l.w4),⟨_,rfl,.inl (n64 ok.w0),_,rfl,.inl (n64 ok.w1),_,rfl,rfl⟩,?_⟩;rintro _ rfl;k_places;refine⟨λd=>d= .int (l.w2*x+l.w3*y+l.w5),⟨_,rfl,.inl (n64 ok.w2),_,rfl,.inl (n64 ok.w3),_,rfl,rfl⟩,?_⟩;rintro _ rfl;k_places;have HJ:R (.int (match l.hit x y with|some c=>cell l.hues ((c:Int) - 48)|none=>0)):=hR;unfold Leaf.hit at HJ;generalize l.w0*x+l.w1*y+l.w4=U at HJ ⊢;generalize l.w2*x+l.w3*y+l.w5=V at HJ ⊢;generalize ef:(λi j=>onB l.a l.b l.c l.d (U - i) (V - j))=f at HJ;have e0:∀ i j,f i j=onB l.a l.b l.c l.d (U - i) (V - j):=λi j=>by rw[<- ef]
  have b7:((l.rows.map D.str).length:Int).toNat=l.rows.length:=by simp
  refine⟨_,rfl,⟨by lia,by simp;lia⟩,λk z=>∃ o1 o2:Option D,z=[be l.D,be (.int x),be (.int y),be (.tup [.int l.w0,.int l.w1,.int l.w2,.int l.w3,.int l.w4,.int l.w5]),be (.int U),be (.int V),o1,o2]/\bH f 0 l.rows=bH f k (l.rows.drop k),⟨_,_,rfl,rfl⟩,?_,?_⟩
  .rintro j v z hj ⟨o1,o2,rfl,hs⟩;k_places;obtain⟨Iw,rfl⟩:=cS hj;rw[b7] at Iw;have JX:l.rows[j]?=be l.rows[j]:=Es Iw;have w_:l.rows.drop j=l.rows[j]::l.rows.drop (j+1):=Fw Iw;obtain⟨n9,v8⟩:=HC l.rows[j] (EK Iw);generalize l.rows[j]=row at JX w_ n9 v8;have Ik:=at_str JX;have j7:=bt row;refine⟨_,rfl,_,Ik,by lia,⟨by lia,by lia⟩,λi z=>∃ o2:Option D,z=[be l.D,be (.int x),be (.int y),be (.tup [.int l.w0,.int l.w1,.int l.w2,.int l.w3,.int l.w4,.int l.w5]),be (.int U),be (.int V),be (.int j),o2]/\scanRow (λi=>f i j) 0 (cs row)=scanRow (λi=>f i j) i ((cs row).drop i),⟨_,rfl,rfl⟩,?_,?_⟩
   .rintro i v z hi ⟨o2,rfl,II⟩;k_places;obtain⟨v3,rfl⟩:=cS hi;have Mf:i<(cs row).length:=by lia
    have Ht:(cs row).drop i=(cs row)[i]::(cs row).drop (i+1):=Fw Mf;have JY:=v8 (cs row)[i] (EK Mf);have Mg:atI (cs row) (i:Int)=be (cs row)[i]:=ce (Es Mf);generalize (cs row)[i]=c at Ht JY Mg;refine⟨_,rfl,_,Ik,c,⟨by lia,Mg⟩,ite2 (λq=>?_) (λq=>?_)⟩
    .have t9:¬ c=46:=by
      intro z;have:(⟨#[c]⟩:y')=".":=one_sign.mpr z;simp[this] at q
     refine⟨_,rfl,_,rfl,l.a,l.b,l.c,l.d,U - i,V - j,rfl,ok.a.lt,ok.b.lt,ok.c.lt,ok.d.lt,ok.ne,?_⟩;refine ite2 (λq2=>?_) (λq2=>?_)
     .have d6:f i j=true:=by rw[e0];exact q2
      have O2:49<=c/\c<=54:=by unfold aG at JY;lia
      refine⟨_,rfl,_,rfl,_,Ik,c,⟨by lia,Mg⟩,_,⟨digit_of O2,by show 1<=640;decide⟩,_,cw (by lia) (by rw[ok.many];lia),?_⟩;rw[hs,w_,bH,II,Ht,scanRow,if_pos ⟨t9,d6⟩] at HJ;exact HJ
     .have d6:¬ f i j=true:=by rw[e0];exact q2
      refine⟨_,rfl,?_⟩;rw[II,Ht,scanRow,if_neg (λz=>d6 z.2)]
    .have t9:c=46:=by
      rcases Classical.em (c=46) with z|z
      .exact z
      .exact absurd (by
        have:¬ (⟨#[c]⟩:y')=".":=λw=>z (one_sign.mp w);simp[this]) q
     refine⟨_,rfl,?_⟩;rw[II,Ht,scanRow,if_neg (λz=>z.1 t9)]
   .rintro z ⟨o2,rfl,II⟩;k_places;refine⟨_,_,rfl,?_⟩;have hn:((row.length:Int).toNat)=(cs row).length:=by lia
    rw[cT,hn,Gy (D7 _),scanRow] at II;rw[hs,w_,bH,II]
  .rintro z ⟨o1,o2,rfl,hs⟩;k_places;rw[cT,b7,Gy (D7 _),bH] at hs;rw[hs] at HJ;exact HJ
abbrev nS(V:Bx):Prop:=V.D 3 "_law_shows" mK As
def Dz(T:V.T "_law_shows" mJ mK)(Mh:nR V):nS V:=by
 refine Tx.okDW T sc__law_shows (λds R h=>?_) (λf cdv A outer s H E J hr=>⟨_,((ah (gB 3 PassesOwn.never rfl sc__law_shows.nd (aa 0) (ah (am 4 sc__law_shows.nd (az Mh hr (ad (aa 3) (ad (aa 1) (ad (aa 2) ae)))))
    (ar (bu (cO (aa 4) ac) (ar (aA (aa 4))) bn))))
   (ar (aA ac)))),λds R h=>?_⟩)
 .obtain⟨_,_,_,rfl,_⟩:=h;rfl
 .obtain⟨ls,x,y,rfl,ok,hR⟩:=h;refine⟨λk z=>∃ o1 o2:Option D,z=[be (.lst (ls.map Leaf.D)),be (.int x),be (.int y),o1,o2]/\aU ls x y=aU (ls.drop k) x y,⟨_,_,rfl,rfl⟩,?_,?_⟩
  .rintro k v z hk ⟨o1,o2,rfl,hs⟩;k_places;rw[Eo] at hk;have n4:k<ls.length:=by
    rcases Fl k ls.length with q|q
    .exact q
    .rw[E3 q] at hk;cases hk
   rw[Es n4] at hk;cases hk;have ed:ls.drop k=ls[k]::ls.drop (k+1):=Fw n4;have Ny:=ok ls[k] (EK n4);generalize ls[k]=l at ed Ny;refine⟨λd=>d= .int (l.shows x y),⟨l,x,y,rfl,Ny,rfl⟩,?_⟩;rintro _ rfl;k_places;refine ite2 (λq=>?_) (λq=>?_)
   .have q':¬ l.shows x y=0:=by simpa using q
    rw[hs,ed,aU,if_pos q'] at hR;exact hR
   .have q':l.shows x y=0:=by simpa using q
    refine⟨_,_,rfl,?_⟩;rw[hs,ed,aU,if_neg (λz=>z q')]
  .rintro z ⟨o1,o2,rfl,hs⟩;k_places;rw[Ef,Gy (D7 _),aU] at hs;rw[hs] at hR;exact hR
def DB:SpD:=λds R=>∃ (p:Pat) (left top:Int) (m n:Nat),ds=[.lst (p.leaves.map Leaf.D),.int left,.int top,.int m,.int n]/\p.Ok/\m<=100/\n<=100/\-1000000000000<=left/\left<=1000000000000/\-1000000000000<=top/\top<=1000000000000/\R (.lst ((countsL p left top m n).map D.int))
abbrev nU(V:Bx):Prop:=V.D 4 "_law_due" mM DB
def DC(T:V.T "_law_due" mL mM)(uA:V.m "range")(Mi:nS V):nU V:=by
 refine Tx.okDW T sc__law_due (λds R h=>?_) (λf cdv A outer s H E J hr=>⟨_,((ah (fE 5 sc__law_due.nd (ad ac (ad ac (ad ac (ad ac (ad ac (ad ac (ad ac ae))))))))
   (ah (jC 6 PassesOwn.never rfl sc__law_due.nd uA (aa 2) (ao (aa 2) (aa 4)) (ar (jC 7 PassesOwn.never rfl sc__law_due.nd uA (aa 1) (ao (aa 1) (aa 3)) (ar (zy 5 (az Mi hr (ad (aa 0) (ad (aa 7) (ad (aa 6) ae)))) ac)))))
   (eA 5 (ar (aA (aa 5))))))),λds R h=>?_⟩)
 .obtain⟨_,_,_,_,_,rfl,_⟩:=h;rfl
 .obtain⟨p,left,top,m,n,rfl,ok,hm,hn,l1,l2,t1,t2,hR⟩:=h;have dp:=ok.deep;have en:(top+(n:Int) - top).toNat=n:=by lia
  have em:(left+(m:Int) - left).toNat=m:=by lia
  refine⟨by show(7:Nat)<=1000;decide,?_⟩;refine⟨⟨by lia,by lia,by lia,by lia⟩,λk z=>∃ o1 o2,z=[be (.lst (p.leaves.map Leaf.D)),be (.int left),be (.int top),be (.int m),be (.int n),be (.own ((due7 p left top m k 0).map D.int)),o1,o2],⟨_,_,rfl⟩,?_,?_⟩
  .rintro k v z hk ⟨o1,o2,rfl⟩;k_places;obtain⟨Hu,rfl⟩:=range2_int hk;refine⟨⟨by lia,by lia,by lia,by lia⟩,λi z=>∃ o2,z=[be (.lst (p.leaves.map Leaf.D)),be (.int left),be (.int top),be (.int m),be (.int n),be (.own ((due7 p left top m k i).map D.int)),be (.int (top+k)),o2],⟨_,rfl⟩,?_,?_⟩
   .rintro i v z hi ⟨o2,rfl⟩;k_places;obtain⟨v_,rfl⟩:=range2_int hi;obtain⟨u,u7,eu,e3,e4⟩:=Cy ok left top m k i;refine⟨p.leaves,left+i,top+k,rfl,Pat.leaf_ok ok.wf (by lia),?_⟩;rw[Pat.show_leaves ok.wf (by lia),eu];refine⟨_,by lia,by rw[Eo,FJ,e3];rfl,?_⟩;rw[FJ];refine⟨be (.int (left+i)),?_⟩;rw[<- e4];rfl
   .rintro z ⟨o2,rfl⟩;k_places;refine⟨be (.int (top+k)),o2,?_⟩;have e:((D9 (left+(m:Int) - left).toNat).map λ(k:Nat)=>D.int (left+(k:Int))).length=m:=by simp[em]
    rw[e,Cz]
  .rintro z ⟨o1,o2,rfl⟩;k_places;have e:((D9 (top+(n:Int) - top).toNat).map λ(k:Nat)=>D.int (top+(k:Int))).length=n:=by simp[en]
   rw[e,CA];exact hR
abbrev iY(V:Bx):Prop:=V.X 1 "refuse_far" mO BB
def DD(T:V.T "refuse_far" mN mO)(uM:V.m "max")(uL:V.m "abs")(Mj:V.gi "FAR" 1000000000000)(Ml:V.n "TooFar"):iY V:=by
 refine Tx.okXW T Cm (λds R RX h=>?_) (λf cdv A outer s H E J hr hx=>⟨_,((ar (bu (pY (eI rfl uM (ad (dY uL (ad (aa 0) ae)) (ad (dY uL (ad (aa 1) ae)) ae))) (fH Mj)) (ar (xM Ml hx rfl (ad ay ae))) bn))),λds R RX b9 h=>?_⟩)
 .obtain⟨_,_,rfl,_⟩:=h;rfl
 .obtain⟨x,y,rfl,h1,h2⟩:=h;refine ite2 (λc=>?_) (λc=>?_)
  .have c':=of_decide_eq_true c;refine⟨by show(1:Nat)<=1000;decide,?_⟩;rw[b9];refine h2 λ⟨⟨a1,a2⟩,a3,a4⟩=>?_;split at c'<;>split at c'<;>split at c'<;>lia
  .have c':¬ _:=λz=>c (decide_eq_true z);refine h1 ?_;unfold aZ;split at c'<;>split at c'<;>split at c'<;>lia
def ok_Motif_shows(hL:1<=n)(T:V.Tm "Motif" "shows" "Motif.shows" il cr)(uV:fk V)(HF:V.a "Motif" "hues")(uJ:V.a "Motif" "shifts"):V.Q (n+1) "Motif" "shows" cr (ofX (bQ (j+1) "Motif")):=by
 refine Txm.okM T Cn (λds M R RX h=>?_) (λf cdv A outer s H E J hr hx=>⟨_,((aE (aM (zm (pC hr) (aK HF (ai (aa 0))) (aR (bc (hn:=by omega) (CalD.toM uV) hx hr (aR (aK uJ (ai (aa 0))) (aR (ai (aa 1)) (aR (ai (aa 2)) bq)))) (aR (ai ac) bq)))))),λds M R RX b9 h=>?_⟩)
 .obtain⟨_,_,_,_,_,rfl,_⟩:=h;rfl
 .obtain⟨p,k,v,X,Y,rfl,hv,e8,hd,hc,hR⟩:=h;cases p with
  |over p q=>exact absurd (show("Over":y')="Motif" from hc) (by decide+kernel)
  |sh a b p=>exact absurd (show("Shifted":y')="Motif" from hc) (by decide+kernel)
  |mir p=>exact absurd (show("Mirror":y')="Motif" from hc) (by decide+kernel)
  |tur p=>exact absurd (show("Turn":y')="Motif" from hc) (by decide+kernel)
  |hue f g p=>exact absurd (show("Rehue":y')="Motif" from hc) (by decide+kernel)
  |mot L a b c d=>
   obtain⟨sh,hu,rfl,h0,h1⟩:=hv;obtain⟨hL,ha,hb,Hx,j3,hn⟩:=e8;obtain⟨w,h,s,F,rfl,rfl⟩:=h1 hn;unfold B12 at ha hb Hx j3;obtain⟨b1,b2,b3⟩:=F.bd (N:=288) (by
    have m1:=bz (a:=a) (d:=d) (A:=12) (B:=12) (by lia) (by lia);have m2:=bz (a:=b) (d:=c) (A:=12) (B:=12) (by lia) (by lia);lia)
   refine⟨_,⟨rfl,rfl⟩,_,Bo,_,⟨rfl,rfl⟩,_,kg,w,h,s,X,Y,rfl,F.1,F.2.1,by lia,F.2.2.1,by lia,?_⟩;have e:=motif_shows hL F hn X Y;rw[Pat.show] at hR;rw[<- e] at hR;exact hR
def DF(hL:1<=n)(T:V.Tm "Over" "shows" "Over.shows" im io)(uP:V.a "Over" "above")(uR:V.a "Over" "below")(uE:∀ x,x∈(["Motif","Over","Shifted","Mirror","Turn","Rehue"]:List y')->V.Q n x "shows" cr (ofX (bQ j x))):V.Q (n+1) "Over" "shows" io (ofX (bQ (j+1) "Over")):=by
 refine Txm.okM T sc_Over_shows (λds M R RX h=>?_) (λf cdv A outer s H E J hr hx=>⟨_,((aB (bf 3 sc_Over_shows.nd (aY (hn:=by omega) uE hx hr (aK uP (ai (aa 0))) (aD (ad (aa 1) (ad (aa 2) ae)))))
   (aE (aM (fK (bY (bx (aa 3) ac)) (aY (hn:=by omega) uE hx hr (aK uR (ai (aa 0))) (aD (ad (aa 1) (ad (aa 2) ae)))) (ai (aa 3))))))),λds M R RX b9 h=>?_⟩)
 .obtain⟨_,_,_,_,_,rfl,_⟩:=h;rfl
 .obtain⟨p,k,v,X,Y,rfl,hv,e8,hd,hc,hR⟩:=h;cases p with
  |mot L a b c d=>exact absurd (show("Motif":y')="Over" from hc) (by decide+kernel)
  |sh a b p=>exact absurd (show("Shifted":y')="Over" from hc) (by decide+kernel)
  |mir p=>exact absurd (show("Mirror":y')="Over" from hc) (by decide+kernel)
  |tur p=>exact absurd (show("Turn":y')="Over" from hc) (by decide+kernel)
  |hue f g p=>exact absurd (show("Rehue":y')="Over" from hc) (by decide+kernel)
  |over p q=>
   obtain⟨u,u',rfl,hu,JS⟩:=hv;obtain⟨fs,rfl,_,hf⟩:=hu.objm;obtain⟨gs,rfl,_,hg⟩:=JS.objm;rw[Pat.depth] at hd;refine⟨λd M'=>d= .int (p.show X Y)/\M'=M,⟨_,⟨rfl,rfl⟩,_,rfl,p.cls,p.cls_mem,fs,⟨rfl,rfl⟩,hf,p,_,_,X,Y,rfl,hu,e8.1,by lia,rfl,rfl,rfl⟩,?_⟩;rintro _ _ ⟨rfl,rfl⟩;k_places;rw[Pat.show] at hR;show if decide (p.show X Y=0)=true then _ else _
   refine ite2 (λe=>?_) (λe=>?_)
   .have e':=of_decide_eq_true e;rw[if_neg (λz=>z e')] at hR;exact⟨_,⟨rfl,rfl⟩,_,eZ (by decide+kernel),q.cls,q.cls_mem,gs,⟨rfl,rfl⟩,hg,q,_,_,X,Y,rfl,JS,e8.2,by lia,rfl,hR⟩
   .have e':p.show X Y≠0:=λz=>e (decide_eq_true z);rw[if_pos e'] at hR;exact hR
def DG(hL:1<=n)(T:V.Tm "Shifted" "shows" "Shifted.shows" ir iu)(uN:V.a "Shifted" "form")(HG:V.a "Shifted" "y")(uZ:V.a "Shifted" "x")(uE:∀ x,x∈(["Motif","Over","Shifted","Mirror","Turn","Rehue"]:List y')->V.Q n x "shows" cr (ofX (bQ j x))):V.Q (n+1) "Shifted" "shows" iu (ofX (bQ (j+1) "Shifted")):=by
 refine Txm.okM T Co (λds M R RX h=>?_) (λf cdv A outer s H E J hr hx=>⟨_,((aE (aM (aY (hn:=by omega) uE hx hr (aK uN (ai (aa 0))) (aR (jK (ai (aa 1)) (aK uZ (ai (aa 0)))) (aR (jK (ai (aa 2)) (aK HG (ai (aa 0)))) bq)))))),λds M R RX b9 h=>?_⟩)
 .obtain⟨_,_,_,_,_,rfl,_⟩:=h;rfl
 .obtain⟨p,k,v,X,Y,rfl,hv,e8,hd,hc,hR⟩:=h;cases p with
  |mot L a b c d=>exact absurd (show("Motif":y')="Shifted" from hc) (by decide+kernel)
  |over p q=>exact absurd (show("Over":y')="Shifted" from hc) (by decide+kernel)
  |mir p=>exact absurd (show("Mirror":y')="Shifted" from hc) (by decide+kernel)
  |tur p=>exact absurd (show("Turn":y')="Shifted" from hc) (by decide+kernel)
  |hue f g p=>exact absurd (show("Rehue":y')="Shifted" from hc) (by decide+kernel)
  |sh a b p=>
   obtain⟨u,rfl,hu⟩:=hv;obtain⟨fs,rfl,_,hf⟩:=hu.objm;rw[Pat.depth] at hd;exact⟨_,⟨rfl,rfl⟩,_,rfl,p.cls,p.cls_mem,fs,⟨rfl,rfl⟩,hf,_,⟨rfl,rfl⟩,_,eZ (by decide+kernel),_,⟨rfl,rfl⟩,_,kh (by decide+kernel) (by decide+kernel),p,_,_,X - a,Y - b,rfl,hu,e8.2.2,by lia,rfl,hR⟩
def DH(hL:1<=n)(T:V.Tm "Mirror" "shows" "Mirror.shows" iw iy)(uQ:V.a "Mirror" "form")(uE:∀ x,x∈(["Motif","Over","Shifted","Mirror","Turn","Rehue"]:List y')->V.Q n x "shows" cr (ofX (bQ j x))):V.Q (n+1) "Mirror" "shows" iy (ofX (bQ (j+1) "Mirror")):=by
 refine Txm.okM T Cp (λds M R RX h=>?_) (λf cdv A outer s H E J hr hx=>⟨_,((aE (aM (aY (hn:=by omega) uE hx hr (aK uQ (ai (aa 0))) (aD (ad (bV (aa 1)) (ad (aa 2) ae))))))),λds M R RX b9 h=>?_⟩)
 .obtain⟨_,_,_,_,_,rfl,_⟩:=h;rfl
 .obtain⟨p,k,v,X,Y,rfl,hv,e8,hd,hc,hR⟩:=h;cases p with
  |mot L a b c d=>exact absurd (show("Motif":y')="Mirror" from hc) (by decide+kernel)
  |over p q=>exact absurd (show("Over":y')="Mirror" from hc) (by decide+kernel)
  |sh a b p=>exact absurd (show("Shifted":y')="Mirror" from hc) (by decide+kernel)
  |tur p=>exact absurd (show("Turn":y')="Mirror" from hc) (by decide+kernel)
  |hue f g p=>exact absurd (show("Rehue":y')="Mirror" from hc) (by decide+kernel)
  |mir p=>
   obtain⟨u,rfl,hu⟩:=hv;obtain⟨fs,rfl,_,hf⟩:=hu.objm;rw[Pat.depth] at hd;exact⟨_,⟨rfl,rfl⟩,_,rfl,p.cls,p.cls_mem,fs,⟨rfl,rfl⟩,hf,p,_,_,-X,Y,rfl,hu,e8,by lia,rfl,hR⟩
def DJ(hL:1<=n)(T:V.Tm "Turn" "shows" "Turn.shows" iz iA)(uO:V.a "Turn" "form")(uE:∀ x,x∈(["Motif","Over","Shifted","Mirror","Turn","Rehue"]:List y')->V.Q n x "shows" cr (ofX (bQ j x))):V.Q (n+1) "Turn" "shows" iA (ofX (bQ (j+1) "Turn")):=by
 refine Txm.okM T Cq (λds M R RX h=>?_) (λf cdv A outer s H E J hr hx=>⟨_,((aE (aM (aY (hn:=by omega) uE hx hr (aK uO (ai (aa 0))) (aD (ad (aa 2) (ad (bV (aa 1)) ae))))))),λds M R RX b9 h=>?_⟩)
 .obtain⟨_,_,_,_,_,rfl,_⟩:=h;rfl
 .obtain⟨p,k,v,X,Y,rfl,hv,e8,hd,hc,hR⟩:=h;cases p with
  |mot L a b c d=>exact absurd (show("Motif":y')="Turn" from hc) (by decide+kernel)
  |over p q=>exact absurd (show("Over":y')="Turn" from hc) (by decide+kernel)
  |sh a b p=>exact absurd (show("Shifted":y')="Turn" from hc) (by decide+kernel)
  |mir p=>exact absurd (show("Mirror":y')="Turn" from hc) (by decide+kernel)
  |hue f g p=>exact absurd (show("Rehue":y')="Turn" from hc) (by decide+kernel)
  |tur p=>
   obtain⟨u,rfl,hu⟩:=hv;obtain⟨fs,rfl,_,hf⟩:=hu.objm;rw[Pat.depth] at hd;exact⟨_,⟨rfl,rfl⟩,_,rfl,p.cls,p.cls_mem,fs,⟨rfl,rfl⟩,hf,p,_,_,Y,-X,rfl,hu,e8,by lia,rfl,hR⟩
def DK(hL:1<=n)(T:V.Tm "Rehue" "shows" "Rehue.shows" iB iC)(uS:V.a "Rehue" "form")(HH:V.a "Rehue" "old")(HI:V.a "Rehue" "new")(uE:∀ x,x∈(["Motif","Over","Shifted","Mirror","Turn","Rehue"]:List y')->V.Q n x "shows" cr (ofX (bQ j x))):V.Q (n+1) "Rehue" "shows" iC (ofX (bQ (j+1) "Rehue")):=by
 refine Txm.okM T sc_Rehue_shows (λds M R RX h=>?_) (λf cdv A outer s H E J hr hx=>⟨_,((aB (bf 3 sc_Rehue_shows.nd (aY (hn:=by omega) uE hx hr (aK uS (ai (aa 0))) (aD (ad (aa 1) (ad (aa 2) ae)))))
   (aE (aM (fK (gM (ai (aa 3)) (aK HH (ai (aa 0)))) (aK HI (ai (aa 0))) (ai (aa 3))))))),λds M R RX b9 h=>?_⟩)
 .obtain⟨_,_,_,_,_,rfl,_⟩:=h;rfl
 .obtain⟨p,k,v,X,Y,rfl,hv,e8,hd,hc,hR⟩:=h;cases p with
  |mot L a b c d=>exact absurd (show("Motif":y')="Rehue" from hc) (by decide+kernel)
  |over p q=>exact absurd (show("Over":y')="Rehue" from hc) (by decide+kernel)
  |sh a b p=>exact absurd (show("Shifted":y')="Rehue" from hc) (by decide+kernel)
  |mir p=>exact absurd (show("Mirror":y')="Rehue" from hc) (by decide+kernel)
  |tur p=>exact absurd (show("Turn":y')="Rehue" from hc) (by decide+kernel)
  |hue f g p=>
   obtain⟨u,rfl,hu⟩:=hv;obtain⟨fs,rfl,_,hf⟩:=hu.objm;rw[Pat.depth] at hd;refine⟨λd M'=>d= .int (p.show X Y)/\M'=M,⟨_,⟨rfl,rfl⟩,_,rfl,p.cls,p.cls_mem,fs,⟨rfl,rfl⟩,hf,p,_,_,X,Y,rfl,hu,e8.2.2,by lia,rfl,rfl,rfl⟩,?_⟩;rintro _ _ ⟨rfl,rfl⟩;k_places;rw[Pat.show] at hR;unfold bB at hR;refine⟨_,⟨rfl,rfl⟩,_,eZ (by decide+kernel),ite2 (λe=>?_) (λe=>?_)⟩
   .rw[if_pos (of_decide_eq_true e)] at hR;exact⟨_,⟨rfl,rfl⟩,_,kh (by decide+kernel) (by decide+kernel),hR⟩
   .rw[if_neg (λz=>e (decide_eq_true z))] at hR;exact hR
def DL(Nz:V.Tm "Motif" "shows" "Motif.shows" il cr)(NA:V.Tm "Over" "shows" "Over.shows" im io)(NB:V.Tm "Shifted" "shows" "Shifted.shows" ir iu)(NC:V.Tm "Mirror" "shows" "Mirror.shows" iw iy)(ND:V.Tm "Turn" "shows" "Turn.shows" iz iA)(NE:V.Tm "Rehue" "shows" "Rehue.shows" iB iC)(uV:fk V)(HF:V.a "Motif" "hues")(uJ:V.a "Motif" "shifts")(uP:V.a "Over" "above")(uR:V.a "Over" "below")(uN:V.a "Shifted" "form")(HG:V.a "Shifted" "y")(uZ:V.a "Shifted" "x")(uQ:V.a "Mirror" "form")(uO:V.a "Turn" "form")(uS:V.a "Rehue" "form")(HH:V.a "Rehue" "old")(HI:V.a "Rehue" "new"):∀ j x,x∈(["Motif","Over","Shifted","Mirror","Turn","Rehue"]:List y')->V.Q (1+j) x "shows" cr (ofX (bQ j x)):=by
 intro j;induction j with
 |zero=>
  intro x hx;simp only[Ea,E6,or_false] at hx;rcases hx with rfl|rfl|rfl|rfl|rfl|rfl
  .exact CalMth.never Nz (λds M R RX=>fg)
  .exact CalMth.never NA (λds M R RX=>fg)
  .exact CalMth.never NB (λds M R RX=>fg)
  .exact CalMth.never NC (λds M R RX=>fg)
  .exact CalMth.never ND (λds M R RX=>fg)
  .exact CalMth.never NE (λds M R RX=>fg)
 |succ j JZ=>
  intro x hx;simp only[Ea,E6,or_false] at hx;rcases hx with rfl|rfl|rfl|rfl|rfl|rfl
  .exact ok_Motif_shows (n:=1+j) (j:=j) (by omega) Nz uV HF uJ
  .exact DF (n:=1+j) (j:=j) (by omega) NA uP uR JZ
  .exact DG (n:=1+j) (j:=j) (by omega) NB uN HG uZ JZ
  .exact DH (n:=1+j) (j:=j) (by omega) NC uQ JZ
  .exact DJ (n:=1+j) (j:=j) (by omega) ND uO JZ
  .exact DK (n:=1+j) (j:=j) (by omega) NE uS HH HI JZ
abbrev sV(V:Bx):Prop:=∀ x,x∈(["Motif","Over","Shifted","Mirror","Turn","Rehue"]:List y')->V.Q 7 x "shows" cr (ofX (bQ 6 x))
abbrev nV(V:Bx):Prop:=V.X 8 "cell_at" mR BC
def DM(T:V.T "cell_at" mQ mR)(Il:iY V)(IH:V.a "Pattern" "form")(uE:sV V):nV V:=by
 refine CalMM.nilX (Tx.okM T Cr (λds M R RX h=>?_) (λf cdv A outer s H E J hr hx=>⟨_,((aB (ck (bc (CalX.toM Il) hx hr (aD (ad (aa 1) (ad (aa 2) ae)))))
   (aE (aM (aY uE hx hr (aK IH (ai (aa 0))) (aD (ad (aa 1) (ad (aa 2) ae)))))))),λds M R RX b9 h=>?_⟩))
 .obtain⟨_,R0,F_,⟨_,_,_,_,rfl,_⟩,_⟩:=h;rfl
 .obtain⟨rfl,R0,F_,⟨p,d,x,y,rfl,⟨w,h,s,fs,rfl,e1,e2,hp⟩,ok,h1,h2⟩,hR,hX⟩:=h;obtain⟨k,v,e3,hv⟩:=hp.form;obtain⟨gs,rfl,_,hg⟩:=hv.objm;have PC:=ok.deep;refine⟨x,y,rfl,λhn=>?_,λhn=>?_⟩
  .exact⟨_,⟨rfl,rfl⟩,_,e3,p.cls,p.cls_mem,gs,⟨rfl,rfl⟩,hg,p,k,_,x,y,rfl,hv,ok.wf,by lia,rfl,hR _ _ (h1 hn)⟩
  .rw[b9];exact hX _ _ _ (h2 hn)
abbrev nW(V:Bx):Prop:=V.D 9 "row_from" mU BD
def DN(T:V.T "row_from" iD mU)(uA:V.m "range")(Mm:nV V)(uK:V.gs "SIGNS" ".123456"):nW V:=by
 refine Tx.okDW T Cs (λds R h=>?_) (λf cdv A outer s H E J hr=>⟨_,((ar (aA (qi (qr rfl (compScope (by change dD _ (ag iD) ["pattern","x","y","many"] _=true;decide+kernel)) uA (aa 3) (λcl s0 H0 fp=>(af (eK uK) (az (CalX.no Mm) hr (ad (aa 0) (ad (ao (aa 1) (aa 4)) (ad (aa 2) ae))))))))))),λds R h=>?_⟩)
 .obtain⟨_,_,_,_,_,rfl,_⟩:=h;rfl
 .obtain⟨p,d,x,y,n,rfl,hd,ok,hn,O3,Jb,hy,hR⟩:=h;obtain⟨w,h,s,fs,rfl,_⟩:=id hd;refine⟨⟨by lia,by lia⟩,by rw[cT];lia,λk ys=>ys=(D9 k).map λ(i:Nat)=>D.str ⟨#[bj (p.show (x+(i:Int)) y)]⟩,rfl,?_,?_⟩
  .rintro k v ys hk hl rfl;obtain⟨Hu,rfl⟩:=cS hk;obtain⟨b0,b6⟩:=Pat.show_le ok.wf (by have:=ok.deep;lia) (x+(k:Int)) y;unfold aZ at O3 Jb;refine⟨p,.obj "Pattern" fs,x+(k:Int),y,rfl,hd,ok,λ_=>?_,λz=>z ⟨⟨by lia,by lia⟩,hy⟩⟩;refine⟨_,⟨by decide,Bs b0 b6⟩,?_⟩;show _=FO _ (D9 (k+1));rw[FQ,EQ];rfl
  .rintro ys hl rfl;rw[cT,FJ];have e1:((D9 n).map λ(i:Nat)=>D.str ⟨#[bj (p.show (x+(i:Int)) y)]⟩)=((D9 n).map λ(i:Nat)=>(⟨#[bj (p.show (x+(i:Int)) y)]⟩:y')).map D.str:=by rw[Fu];rfl
   rw[e1];refine⟨_,jU _,?_,?_⟩
   .have e2:(((D9 n).map λ(i:Nat)=>(⟨#[bj (p.show (x+(i:Int)) y)]⟩:y')).map (·.length)).sum=n*1:=by
     rw[rH (w:=1) (λl hl=>by obtain⟨i,_,rfl⟩:=EB.mp hl;rfl),Ef,Gs]
    rw[e2,show("":y').length=0 from rfl];simp;lia
   .rw[show Txt.join "" ((D9 n).map λ(i:Nat)=>(⟨#[bj (p.show (x+(i:Int)) y)]⟩:y'))=aX p x y n from(StrLaws.glued_eq_join _ _).trans (Bt (λi=>bj (p.show (x+(i:Int)) y)) n)];exact hR
abbrev nX(V:Bx):Prop:=V.D 10 "field_rows" mV BK
def DO(T:V.T "field_rows" iE mV)(uA:V.m "range")(Mn:nW V)(uW:V.a "Pattern" "shifts"):nX V:=by
 refine Tx.okDW T Ct (λds R h=>?_) (λf cdv A outer s H E J hr=>⟨_,((ar (aA (qr rfl (compScope (by change dD _ (ag iE) ["pattern"] _=true;decide+kernel)) uA (af (jA uW (aa 0)) ac) (λcl s0 H0 fp=>(az Mn hr (ad (aa 0) (ad ac (ad (aa 1) (ad (af (jA uW (aa 0)) ac) ae)))))))))),λds R h=>?_⟩)
 .obtain⟨_,_,rfl,_⟩:=h;rfl
 .obtain⟨p,d,rfl,hd,ok,hR⟩:=h;obtain⟨w,h,s,fs,rfl,e1,e2,hp⟩:=id hd;have F:=hp.toFam;have sm:=ok.fits.small F;have wh:w*h<=720:=by
   obtain⟨w',h',s',f',hb⟩:=ok.fits;obtain⟨rfl,rfl,_⟩:=F.uniq f';exact hb
  refine⟨rfl,_,e2,_,rfl,⟨by lia,by lia⟩,by rw[cT];lia,λk ys=>ys=(D9 k).map λ(y:Nat)=>D.str (aX p 0 (y:Int) w.toNat),rfl,?_,?_⟩
  .rintro k v ys hk hl rfl;obtain⟨Hu,rfl⟩:=cS hk;refine⟨rfl,_,e2,_,rfl,p,.obj "Pattern" fs,0,k,w.toNat,by rw[EE (by lia)],hd,ok,by lia,⟨by lia,by lia⟩,⟨by lia,by lia⟩,⟨by lia,by lia⟩,?_⟩;show _=FO _ (D9 (k+1));rw[FQ,EQ];rfl
  .rintro ys hl rfl;rw[cT];exact hR w h s F wh sm.2.1 sm.2.2.2.1
abbrev C_round_row(V:Bx):Prop:=V.D 2 "round_row" mY BL
def DP(T:V.T "round_row" mW mY)(uV:fk V):C_round_row V:=by
 refine Tx.okDW T sc_round_row (λds R h=>?_) (λf cdv A outer s H E J hr=>⟨_,((ah (am 4 sc_round_row.nd (az uV hr (ad (aa 0) (ad (aa 2) (ad (aa 3) ae)))))
   (ah (am 5 sc_round_row.nd (af (aa 1) (af (aa 4) ac)))
   (ar (aA (ao (jG (aa 5) (jF (af (aa 4) ac)) jE) (jG (aa 5) jE (jF (af (aa 4) ac))))))))),λds R h=>?_⟩)
 .obtain⟨_,_,_,_,_,_,rfl,_⟩:=h;rfl
 .obtain⟨p,w,h,s,x,y,rfl,F,w7,h7,hR⟩:=h;have f:=F.f;have y0:=Fp y (show h≠0 by have:=f.h0;lia);have y1:=Fq y f.h0;refine⟨λd=>d= .tup [.int (hmX w h s x y),.int (y % h)],⟨w,h,s,x,y,rfl,f.w0,f.h0,by lia,f.s0,by have:=f.sw;lia,rfl⟩,?_⟩;rintro _ rfl;k_places;refine⟨λd=>d= .str (aX p 0 (y % h) w.toNat),⟨_,rfl,_,?_,rfl⟩,?_⟩
  .have e:y % h=(((y % h).toNat:Nat):Int):=by lia
   rw[e];exact ce (by rw[Eo,Ff (by lia)];simp)
  rintro _ rfl;k_places;have l:=ki p 0 (y % h) w.toNat;refine⟨_,rfl,by lia,_,rfl,by lia,?_⟩;have e:=BJ f.w0 f.h0 (λ_ _ q=>F.keeps q) x y;refine⟨?_,?_⟩
  .rw[<- bt,<- bt,<- Eg,<- bG,e,fT];simp;lia
  .rw[e];exact hR
abbrev nY(V:Bx):Prop:=V.D 1 "count_sign" ng BT
def DQ(T:V.T "count_sign" mZ ng)(uC:V.m "len"):nY V:=by
 refine Tx.okDW T Cu (λds R h=>?_) (λf cdv A outer s H E J hr=>⟨_,((ar (aA (ao (au (aV (aa 2) (cN uC (ad (aa 0) ae))) (rk (aa 0) (ad (aa 1) ae))) (rk (jG (aa 0) jE (jF (aw (aa 2) (cN uC (ad (aa 0) ae))))) (ad (aa 1) ae)))))),λds R h=>?_⟩)
 .obtain⟨_,_,_,_,_,_,rfl,_⟩:=h;rfl
 .obtain⟨p,x,y,v,m,w,rfl,ok,v0,v6,w0,w7,m0,m1,kw,hR⟩:=h;have l:=ki p x y w;have q0:0<=m / (w:Int):=Gw m0 (by lia);have q1:m / (w:Int)<=m:=Gx _ m0;have r0:=Fp m (show(w:Int)≠0 by lia);have r1:=Fq m (show 0<(w:Int) by lia);have er:m % (w:Int)=(((m % (w:Int)).toNat:Nat):Int):=by lia
  have e2:Txt.slice (aX p x y w) o_ (be (m % (w:Int)))=aX p x y (m % (w:Int)).toNat:=by
   rw[er,BS p x y (by lia)];rfl
  refine⟨by lia,⟨by rw[l];lia,by rw[l];lia⟩,.inl ⟨by rw[l];lia,by rw[l];lia⟩,by lia,by rw[l];lia,by lia,?_⟩;show R (.int (m / ((aX p x y w).length:Int)*occC (aX p x y w) (bj v)+occC (Txt.slice (aX p x y w) o_ (be (m % ((aX p x y w).length:Int)))) (bj v)));rw[l,e2,sN ok x y v0 v6,sN ok x y v0 v6];have Iv:∀ k:Nat,(λk:Nat=>p.show (x+k) y) (k+w)=(λk:Nat=>p.show (x+k) y) k:=λk=>by
   have:=kw (x+k) y;rw[EU] at this;show p.show (x+((k+w:Nat):Int)) y=p.show (x+(k:Int)) y;rw[<- this,Fe,FH]
  have:=BP (f:=λk:Nat=>p.show (x+k) y) w0 Iv v m.toNat;have d1:m / (w:Int)=((m.toNat / w:Nat):Int):=by rw[Int.natCast_ediv,EE m0]
  have d2:(m % (w:Int)).toNat=m.toNat % w:=by
   have:m % (w:Int)=((m.toNat % w:Nat):Int):=by rw[Hg,EE m0]
   lia
  rw[d1,d2,this];exact hR
abbrev nZ(V:Bx):Prop:=V.X 11 "count_all" nh B0
def DR(T:V.T "count_all" iF nh)(uM:V.m "max")(uA:V.m "range")(Im:V.m "min")(Ig:V.m "enumerate")(Il:iY V)(Mo:nX V)(Mp:C_round_row V)(Mq:nY V)(uK:V.gs "SIGNS" ".123456")(uW:V.a "Pattern" "shifts"):nZ V:=by
  refine Tx.okXW T sc_count_all (λds R RX h=>?_) (λf cdv A outer s H E J hr hx=>⟨_,((ah (qc (qB Il hx hr (ad (aa 1) (ad (aa 2) ae))))
      (ah (qc (qB Il hx hr (ad (aa 3) (ad (aa 4) ae))))
      (ah (am 5 sc_count_all.nd (jA uW (aa 0)))
      (ah (am 6 sc_count_all.nd (az Mo hr (ad (aa 0) ae)))
      (ah (am 7 sc_count_all.nd (eI rfl uM (ad (ao (aS (aa 3) (aa 1)) ac) (ad ac ae))))
      (ah (am 8 sc_count_all.nd (au (af (aa 5) ac) (af (aa 5) ac)))
      (ah (zq 9 rfl (compScope (by change dD _ (ag iF) ["pattern","left","top","right","bottom","family","rows","many","again","counts","y","times","row","hue","sign"] _=true;decide+kernel)) sc_count_all.nd (eK uK) (λcl s0 H0 fp=>ac))
      (ah (jC 10 PassesOwn.leaving rfl sc_count_all.nd uA (aa 2) (ju rfl Im (ad (ao (aa 4) ac) (ad (ao (aa 2) (aa 8)) ae))) (ah (am 11 sc_count_all.nd (ao (aV (aS (aa 4) (aa 10)) (aa 8)) ac))
        (ah (am 12 sc_count_all.nd (az Mp hr (ad (aa 5) (ad (aa 6) (ad (aa 1) (ad (aa 10) ae))))))
        (ar (zv PassesOwn.leaving rfl Ig (eK uK) (dg_cons 13 sc_count_all.nd (dg_cons 14 sc_count_all.nd dB)) (ar (qA 9 (ao (jv 9 (aa 13)) (au (aa 11) (az Mq hr (ad (aa 12) (ad (aa 14) (ad (aa 7) ae)))))) (aa 13))))))))
      (eA 9 (ar (aA (aa 9))))))))))))),λds R RX b9 h=>?_⟩)
  . obtain⟨_,_,_,_,_,_,rfl,_⟩:=h;rfl
  . obtain⟨p,d,left,top,right,a_,rfl,hd,ok,hR,hX⟩:=h;obtain⟨w,h,s,fs,rfl,e1,e2,hp⟩:=id hd;have F:=hp.toFam;have sm:=ok.fits.small F;refine⟨left,top,rfl,λn1=>?_,λn1=>by rw[b9];exact hX λz=>n1 ⟨z.1,z.2.1⟩⟩;refine⟨right,a_,rfl,λn2=>?_,λn2=>by rw[b9];exact hX λz=>n2 ⟨z.2.2.1,z.2.2.2⟩⟩;have hR:=hR ⟨n1.1,n1.2,n2.1,n2.2⟩;unfold aZ at n1 n2;refine⟨λd=>d= .tup [.int w,.int h,.int s],⟨rfl,_,e2,rfl⟩,?_⟩;rintro _ rfl;k_places;refine⟨λd=>d=fU p w h/\w*h<=720,⟨p,_,rfl,hd,ok,λw' h' s' F' hb _ _=>by obtain⟨rfl,rfl,rfl⟩:=F.uniq F';exact⟨rfl,hb⟩⟩,?_⟩;rintro _ ⟨rfl,hb⟩;k_places;refine⟨λd=>d= .int ((right - left+1).toNat:Nat),congrArg D.int (BZ _),?_⟩;rintro _ rfl;k_places;have O4:0<w*h:=Ep F.f.w0 F.f.h0;refine⟨λd=>d= .int (w*h),⟨_,rfl,_,rfl,.inl ⟨by lia,by lia⟩,rfl⟩,?_⟩;rintro _ rfl;k_places;generalize hm:(right - left+1).toNat=m at*;generalize hn:(a_ - top+1).toNat=n at*;generalize hN:(w*h).toNat=N at*;refine⟨by decide+kernel,by decide+kernel,λk ys=>ys=EN k (D.int 0),rfl,?_,?_⟩
    . rintro k v ys hk hl rfl;show _=EN (k+1) _;rw[List.replicate_succ']
    rintro ys hl rfl;have wN:w*h=(N:Int):=by lia
    have v_:=BW (top:=top) hn wN;have PD:=sP n1.1 n2.1 hm;have PF:=sP n1.2 n2.2 hn;refine⟨BX ⟨n1.2.1,n1.2.2⟩ ⟨n2.2.1,n2.2.2⟩ O4 hb,λk z=>∃ HK Ib Ic t_ u5,z=[be (.obj "Pattern" fs),be (.int left),be (.int top),be (.int right),be (.int a_),be (.tup [.int w,.int h,.int s]),be (fU p w h),be (.int m),be (.int (w*h)),be (.own ((D9 7).map λ(v:Nat)=>D.int (bU p left top m n N k v))),HK,Ib,Ic,t_,u5],⟨o_,o_,o_,o_,o_,?_⟩,?_,?_⟩
    . have e7:(bR (".123456":y')).length=7:=by decide+kernel
      rw[e7];rfl
    . rintro k v z hk ⟨HK,Ib,Ic,t_,u5,rfl⟩;k_places;obtain⟨Hu,rfl⟩:=range2_int hk;rw[v_] at Hu;refine⟨λd=>d= .int (((n:Int) - 1 - k) / N+1),⟨⟨by lia,by lia⟩,?_⟩,?_⟩
      . rw[wN];congr 3;exact BY hn Hu
      rintro _ rfl;k_places;refine⟨λd=>d= .str (aX p left (top+k) w.toNat),⟨p,w,h,s,left,top+k,rfl,F,sm.2.1,sm.2.2.2.1,rfl⟩,?_⟩;rintro _ rfl;k_places;refine⟨by decide+kernel,λi z=>∃ t_ u5,z=[be (.obj "Pattern" fs),be (.int left),be (.int top),be (.int right),be (.int a_),be (.tup [.int w,.int h,.int s]),be (fU p w h),be (.int m),be (.int (w*h)),be (.own ((D9 7).map λ(v:Nat)=>D.int (if v<i then bU p left top m n N (k+1) v else bU p left top m n N k v))),be (.int (top+k)),be (.int (((n:Int) - 1 - k) / N+1)),be (.str (aX p left (top+k) w.toNat)),t_,u5],⟨_,_,rfl⟩,?_,?_⟩
      . rintro i v z hi ⟨t_,u5,rfl⟩;k_places;rw[BV] at hi;have i7:i<7:=by simpa using(Em.mp hi).1
        have ev:v= .str ⟨#[bj (i:Int)]⟩:=by
          rw[Eo,Ff i7] at hi;exact(Option.some.inj hi).symm
        subst ev;have ci:=kj (λk'=>p.show (left+k') (top+k)) i m;have tq:0<=((n:Int) - 1 - k) / N/\((n:Int) - 1 - k) / N<=(n:Int) - 1 - k:=⟨Gw (by lia) (by lia),Gx _ (by lia)⟩;refine⟨_,ce (by rw[Eo,Ff i7];rfl),p,left,top+k,i,m,w.toNat,rfl,ok,by lia,by lia,by lia,by lia,by lia,by lia,by rw[EE (by lia)];exact F.across,?_⟩;refine⟨.inl ⟨by lia,by lia⟩,i,?_,?_⟩
        . unfold ixN;rw[if_pos (by lia),if_pos (by simp;lia)];simp
        refine⟨be (.int i),be (.str ⟨#[bj (i:Int)]⟩),?_⟩;rw[FJ,if_neg (E7 i)];have e:bU p left top m n N k i+(((n:Int) - 1 - k) / N+1)*cntN (λk'=>p.show (left+k') (top+k)) i m=bU p left top m n N (k+1) i:=rfl;rw[e];have q:=sO (n:=7) (i:=i) (λ(v:Nat)=>D.int (if v<i then bU p left top m n N (k+1) v else bU p left top m n N k v)) (λ(v:Nat)=>D.int (if v<i+1 then bU p left top m n N (k+1) v else bU p left top m n N k v)) (λv hv ne=>by
          by_cases c:v<i
          . rw[if_pos c,if_pos (by lia)]
          . rw[if_neg c,if_neg (by lia)])
        rw[if_pos (show i<i+1 by lia)] at q;rw[q];rfl
      . rintro z ⟨t_,u5,rfl⟩;k_places;refine⟨be (.int (top+k)),be (.int (((n:Int) - 1 - k) / N+1)),be (.str (aX p left (top+k) w.toNat)),t_,u5,?_⟩;have:∀ v∈D9 7,D.int (if v<(bR (".123456":y')).length then bU p left top m n N (k+1) v else bU p left top m n N k v)=D.int (bU p left top m n N (k+1) v):=λv hv=>by
          rw[if_pos (by  have e7:(bR (".123456":y')).length=7:=by decide+kernel
                         rw[e7];simpa using hv)]
        rw[FD this]
    . rintro z ⟨HK,Ib,Ic,t_,u5,rfl⟩;k_places;have e:((D9 ((if top+w*h<a_+1 then top+w*h else a_+1) - top).toNat).map λ(k:Nat)=>D.int (top+(k:Int))).length=min n N:=by simp[v_]
      rw[e];have fold:∀ v:Nat,bU p left top m n N (min n N) v=aT p v left top m n:=λv=>BU (by lia) (by rw[<- wN];exact F.down) v left top m n;simp only[fold];have e2:((D9 7).map λ(v:Nat)=>D.int (aT p v left top m n))=(countsL p left top m n).map D.int:=by unfold countsL;rw[Fu];rfl
      rw[e2];exact hR
abbrev oa(V:Bx):Prop:=V.D 1 "_law_whole" nn zR
def DU(T:V.T "_law_whole" nj nn)(Io:V.m "isinstance")(Mr:V.m "bool")(uD:V.m "int"):oa V:=by
 refine Tx.okDW T Cw (λds R h=>?_) (λf cdv A outer s H E J hr=>⟨_,((ar (aA (gA (jr Io uD (aa 0) PyProof.Rows.boot_int xh) (gz (xa (jr Io Mr (aa 0) PyProof.Rows.boot_bool kit_bool))))))),λds R h=>?_⟩)
 .obtain⟨i,rfl,_⟩:=h;rfl
 .obtain⟨i,rfl,hR⟩:=h;exact hR
def DV:SpD:=λds R=>∃ xs:List Int,ds=[.lst (xs.map D.int),.lst (xs.map D.int)]/\xs.length=7/\R (.bl true)
abbrev oe(V:Bx):Prop:=V.D 2 "_law_seven" nt DV
def DY(T:V.T "_law_seven" nq nt)(uC:V.m "len")(Io:V.m "isinstance")(Iy:V.m "list")(uA:V.m "range")(Ms:oa V):oe V:=by
 refine Tx.okDW T sc__law_seven (λds R h=>?_) (λf cdv A outer s H E J hr=>⟨_,((ah (bu (fC (gx (gy (dA (jr Io Iy (aa 0) PyProof.Rows.boot_list kit_list))) (gw (cO (cN uC (ad (aa 0) ae)) ac)))) (ar (aA fA)) bn)
   (ah (cC 2 PassesOwn.never rfl sc__law_seven.nd uA ac (ar (bu (fC (gx (gy (dA (az Ms hr (ad (af (aa 0) (aa 2)) ae)))) (gw (cO (af (aa 0) (aa 2)) (af (aa 1) (aa 2)))))) (ar (aA fA)) bn)))
   (ar (aA fA))))),λds R h=>?_⟩)
 .obtain⟨_,rfl,_⟩:=h;rfl
 .obtain⟨xs,rfl,x7,hR⟩:=h;refine ite2 (λc=>absurd c (by simp[x7])) λ_=>?_;refine⟨⟨by decide,by decide⟩,λk z=>∃ o,z=[be (.lst (xs.map D.int)),be (.lst (xs.map D.int)),o],⟨_,rfl⟩,?_,?_⟩
  .rintro k v z hk ⟨o,rfl⟩;k_places;obtain⟨Hu,rfl⟩:=cS hk;have k7:k<7:=Hu;have ak:atI (xs.map D.int) (k:Int)=be (.int (xs[k]'(by omega))):=ce (by rw[Eo,Es (by omega)];rfl);exact⟨_,ak,_,rfl,_,ak,_,ak,ite2 (λc=>absurd c (by simp)) λ_=>⟨_,rfl⟩⟩
  .rintro z ⟨o,rfl⟩;k_places;exact hR
def DZ{fa:KF}{fd:PY}(F:Fun V.K "law" "law" fY fa fd)(uA:V.m "range")(Im:V.m "min")(uM:V.m "max")(Mt:V.m "sum")(Ks:nG V)(Mu:nP V)(Kt:nQ V)(uU:iG V)(Mw:nU V)(Mx:nZ V)(Mz:oe V):FnOk V.P V.w V.K V.mg V.base (Exc.CX1 V.P V.w) 20 fa fd nu (lSp V.K eF):=by
 refine Fun.okDW F sc_law (λds R h=>?_) (λcdv A outer s H E J hr=>⟨_,((ah (am 1 sc_law.nd (bo (ad (az Ks hr (ad (aa 0) (ad ac ae))) (ad (az Ks hr (ad (aa 0) (ad ac ae))) ae))))
   (ah (qt 2 rfl (compScope (by change dD _ (ag fY) ["_law_script","_law_parts","_law_made","_law_asked","_law_k","_law_left","_law_top","_law_wide","_law_high","_law_due_here","_law_found"] _=true;decide+kernel)) sc_law.nd (aa 1) (λcl s0 H0 fp=>(az (CalX.no Mu) hr (ad (af (aa 11) ac) ae))))
   (ah (fE 3 sc_law.nd ae)
   (ah (cC 4 PassesOwn.never rfl sc_law.nd uA ac (ah (am 5 sc_law.nd (ju rfl Im (ad (az Kt hr (ad (az uU hr (ad (aa 0) (ad (au ac (aa 4)) ae))) ae)) (ad (aS (cv ac ac) ac) ae))))
    (ah (am 6 sc_law.nd (ju rfl Im (ad (az Kt hr (ad (az uU hr (ad (aa 0) (ad (ao (au ac (aa 4)) ac) ae))) ae)) (ad (aS (cv ac ac) ac) ae))))
    (ah (am 5 sc_law.nd (eI rfl uM (ad (aa 5) (ad (aS ac (cv ac ac)) ae))))
    (ah (am 6 sc_law.nd (eI rfl uM (ad (aa 6) (ad (aS ac (cv ac ac)) ae))))
    (ah (am 7 sc_law.nd (aw (az uU hr (ad (aa 0) (ad (ao (au ac (aa 4)) ac) ae))) ac))
    (ah (am 8 sc_law.nd (aw (az uU hr (ad (aa 0) (ad (ao (au ac (aa 4)) ac) ae))) ac))
    (ar (eE 3 (bo (ad (aa 5) (ad (aa 6) (ad (aa 7) (ad (aa 8) (ad (az Mw hr (ad (af (af (aa 1) (aa 4)) ac) (ad (aa 5) (ad (aa 6) (ad (aa 7) (ad (aa 8) ae)))))) ae)))))))))))))))
   (ah (gB 4 PassesOwn.never rfl sc_law.nd (bo (ad ac (ad ac (ad ac (ad ac (ad ac ae)))))) (ah (qj rfl (jv 3 (aa 4)) (dg_cons 5 sc_law.nd (dg_cons 6 sc_law.nd (dg_cons 7 sc_law.nd (dg_cons 8 sc_law.nd (dg_cons 9 sc_law.nd dB))))))
    (ah (zD 10 (CalX.no Mx) hr sc_law.nd (ad (af (aa 2) (aa 4)) (ad (aa 5) (ad (aa 6) (ad (aS (ao (aa 5) (aa 7)) ac) (ad (aS (ao (aa 6) (aa 8)) ac) ae))))))
    (ah (bu (zF 10 (fC (gx (gy (dA (az Mz hr (ad (aa 10) (ad (aa 9) ae))))) (gw (cO (zJ rfl Mt (ad (aa 10) ae)) (au (aa 7) (aa 8))))))) (ar (aA fA)) bn)
    (ah (qA 10 (ao (jv 10 ac) ac) ac)
    (ar (eE 10 ac)))))))
   (ar (aA fA)))))))),λds R h=>?_⟩)
 .obtain⟨ns,rfl,_⟩:=h;rfl
 .obtain⟨ns,rfl,hl,hR⟩:=h;refine⟨λx=>∃ p q:Pat,x= .lst [p.D,q.D]/\p.Ok/\q.Ok,⟨ns,8,rfl,by decide,λp Ku=>⟨ns,28,rfl,by decide,λq gV=>⟨by show(2:Nat)<=1000;decide,p,q,rfl,Ku,gV⟩⟩⟩,?_⟩;rintro _ ⟨p,q,rfl,Ku,gV⟩;k_places;refine⟨λx=>∃ fs gs,x= .lst [.obj "Pattern" fs,.obj "Pattern" gs]/\ca p (.obj "Pattern" fs)/\ca q (.obj "Pattern" gs),⟨by show(2:Nat)<=100000;decide,λk ys=>ys.length=k/\(∀ d,ys[0]?=be d->ca p d)/\(∀ d,ys[1]?=be d->ca q d),⟨rfl,(λd z=>nomatch z),λd z=>nomatch z⟩,?_,?_⟩,?_⟩
  .rintro k v ys hk hl ⟨e1,e2,e3⟩;have k2:k<2:=(Em.mp hk).1;rcases(by lia:k=0\/k=1) with rfl|rfl
   .cases hk;have:ys=[]:=FR e1;subst this;exact⟨_,rfl,sK Ku λd hd=>⟨rfl,(λd' z=>by cases z;exact hd),λd' z=>nomatch z⟩⟩
   .cases hk;obtain⟨d0,rfl⟩:∃ d,ys=[d]:=by
     rcases ys with _|⟨d,_|⟨e,r⟩⟩
     .cases e1
     .exact⟨d,rfl⟩
     .simp at e1
    exact⟨_,rfl,sK gV λd hd=>⟨rfl,(λd' z=>e2 d' z),λd' z=>by cases z;exact hd⟩⟩
  .rintro ys hl ⟨e1,e2,e3⟩;obtain⟨d0,d1,rfl⟩:∃ d0 d1,ys=[d0,d1]:=by
    rcases ys with _|⟨d,_|⟨e,_|⟨f,r⟩⟩⟩
    .cases e1
    .cases e1
    .exact⟨d,e,rfl⟩
    .simp at e1
   have i0:=e2 d0 rfl;have i1:=e3 d1 rfl;obtain⟨w,h,s,fs,rfl,r1⟩:=id i0;obtain⟨w',h',s',gs,rfl,r2⟩:=id i1;exact⟨fs,gs,rfl,i0,i1⟩
  rintro _ ⟨fs,gs,rfl,ip,iq⟩;k_places;refine⟨by show(0:Nat)<=1000;decide,?_⟩;have Ij:((10:Int) ^ Ft 12)=1000000000000:=by decide
  have J0:∀ k:Nat,k<2->∃ (P:Pat) (hs:List (y' × D)),atI [p.D,q.D] (k:Int)=be P.D/\atI [D.obj "Pattern" fs,.obj "Pattern" gs] (k:Int)=be (.obj "Pattern" hs)/\P.Ok/\ca P (.obj "Pattern" hs)/\P=(if k=0 then p else q):=λk hk=>by
   rcases(by lia:k=0\/k=1) with rfl|rfl
   .exact⟨p,fs,rfl,rfl,Ku,ip,rfl⟩
   .exact⟨q,gs,rfl,rfl,gV,iq,rfl⟩
  refine⟨⟨by decide,by decide⟩,λk z=>∃ (ys:List D) (o4 o5 o6 o7 o8:Option D),z=[be (.rol (ns.map D.int)),be (.lst [p.D,q.D]),be (.lst [.obj "Pattern" fs,.obj "Pattern" gs]),be (.own ys),o4,o5,o6,o7,o8,o_,o_]/\ys.length=k/\∀ (i:Nat) d,ys[i]?=be d->AskOk (if i=0 then p else q) d,⟨[],_,_,_,_,_,rfl,rfl,λi d z=>nomatch z⟩,?_,?_⟩
  .rintro k v z hk ⟨ys,o4,o5,o6,o7,o8,rfl,yl,ya⟩;k_places;obtain⟨Hu,rfl⟩:=cS hk;obtain⟨P,hs,a1,a2,Kv,iP,eP⟩:=J0 k Hu;refine⟨λx=>∃ v:Int,x= .int v/\-1000000000000<=v/\v<=999999999991,⟨.inl ⟨by lia,by lia⟩,ns,_,rfl,by lia,_,rfl,λc h1 h2=>⟨by decide,?_⟩⟩,?_⟩
   .rw[Ij];refine⟨_,rfl,?_⟩;split<;>lia
   rintro _ ⟨l,rfl,l1,l2⟩;k_places;refine⟨λx=>∃ v:Int,x= .int v/\-1000000000000<=v/\v<=999999999991,⟨.inl ⟨by lia,by lia⟩,ns,_,rfl,by lia,_,rfl,λc h1 h2=>⟨by decide,?_⟩⟩,?_⟩
   .rw[Ij];refine⟨_,rfl,?_⟩;split<;>lia
   rintro _ ⟨t,rfl,t1,t2⟩;k_places;refine⟨λx=>∃ v:Int,x= .int v/\-999999999999<=v/\v<=999999999991,⟨by decide,?_⟩,?_⟩
   .rw[Ij];refine⟨_,rfl,?_⟩;split<;>lia
   rintro _ ⟨l',rfl,O5,O6⟩;k_places;refine⟨λx=>∃ v:Int,x= .int v/\-999999999999<=v/\v<=999999999991,⟨by decide,?_⟩,?_⟩
   .rw[Ij];refine⟨_,rfl,?_⟩;split<;>lia
   rintro _ ⟨t',rfl,O7,O8⟩;k_places;refine⟨λx=>∃ m:Nat,x= .int m/\m<=9,⟨.inl ⟨by lia,by lia⟩,ns,_,rfl,by lia,by decide,(cell ns (4*(k:Int)+2) % 10).toNat,by rw[EE (by lia)],by lia⟩,?_⟩;rintro _ ⟨m,rfl,hm⟩;k_places;refine⟨λx=>∃ m:Nat,x= .int m/\m<=9,⟨.inl ⟨by lia,by lia⟩,ns,_,rfl,by lia,by decide,(cell ns (4*(k:Int)+3) % 10).toNat,by rw[EE (by lia)],by lia⟩,?_⟩;rintro _ ⟨n,rfl,hn⟩;k_places;refine⟨_,a1,_,rfl,P,l',t',m,n,rfl,Kv,by lia,by lia,by lia,by lia,by lia,by lia,by show(5:Nat)<=1000;decide,by rw[yl];lia,?_⟩;refine⟨_,_,_,_,_,_,rfl,by simp[yl],λi d hi=>?_⟩;by_cases v_:i<ys.length
   .rw[EO v_] at hi;exact ya i d hi
   .have:i=k:=by
     have:=(Em.mp hi).1;simp at this;lia
    subst this;rw[EY (by lia),yl,Nat.sub_self] at hi;cases hi;rw[<- eP];exact⟨l',t',m,n,rfl,hm,hn,⟨O5,O6⟩,⟨O7,O8⟩⟩
  rintro z ⟨ys,o4,o5,o6,o7,o8,rfl,yl,ya⟩;k_places;rw[cT] at yl;have yl:ys.length=2:=yl;refine⟨by show(5:Nat)<=1000;decide,λk z=>∃ o4 o5 o6 o7 o8 o9 HK:Option D,z=[be (.rol (ns.map D.int)),be (.lst [p.D,q.D]),be (.lst [.obj "Pattern" fs,.obj "Pattern" gs]),be (.own ys),o4,o5,o6,o7,o8,o9,HK],⟨_,_,_,_,_,_,_,rfl⟩,?_,?_⟩
  .rintro k v z hk ⟨o4,o5,o6,o7,o8,o9,HK,rfl⟩;k_places;obtain⟨j,rfl,j2⟩:∃ j:Nat,v= .int j/\j<2:=by
    have k5:k<5:=(Em.mp hk).1;rcases(by lia:k=0\/k=1\/k=2\/k=3\/k=4) with rfl|rfl|rfl|rfl|rfl<;>cases hk
    .exact⟨0,rfl,by decide⟩
    .exact⟨1,rfl,by decide⟩
    .exact⟨0,rfl,by decide⟩
    .exact⟨0,rfl,by decide⟩
    .exact⟨1,rfl,by decide⟩
   obtain⟨P,hs,a1,a2,Kv,iP,eP⟩:=J0 j j2;have aj:ys[j]?=be ys[j]:=Es (by lia);obtain⟨l,t,m,n,ed,hm,hn,⟨l1,l2⟩,t1,t2⟩:=ya j _ aj;rw[ed,<- eP] at aj;refine⟨_,ce aj,rfl,?_⟩;show dSeq _ _ _ [be (.rol (ns.map D.int)),be (.lst [p.D,q.D]),be (.lst [.obj "Pattern" fs,.obj "Pattern" gs]),be (.own ys),be (.int (j:Int)),be (.int l),be (.int t),be (.int m),be (.int n),be (.lst ((countsL P l t m n).map D.int)),HK];obtain⟨w',h',s',_,e0,c1,c2,c3⟩:=id iP;cases e0;obtain⟨sm,bd⟩:=CC Kv l t m n;have b1:=bz (a:=(m:Int)) (d:=(n:Int)) (A:=9) (B:=9) (by lia) (by lia);have em:(l+(m:Int) - 1 - l+1).toNat=m:=by lia
   have en:(t+(n:Int) - 1 - t+1).toNat=n:=by lia
   refine⟨_,a2,by simp[noLs,noL,c3.nl],P,_,l,t,_,_,rfl,iP,Kv,λ_=>?_,λz=>z ⟨⟨by lia,by lia⟩,⟨by lia,by lia⟩,⟨by lia,by lia⟩,⟨by lia,by lia⟩⟩⟩;rw[em,en];refine⟨by simp[atom],?_⟩;show dSeq _ _ _ [be (.rol (ns.map D.int)),be (.lst [p.D,q.D]),be (.lst [.obj "Pattern" fs,.obj "Pattern" gs]),be (.own ys),be (.int (j:Int)),be (.int l),be (.int t),be (.int m),be (.int n),be (.lst ((countsL P l t m n).map D.int)),be (.own ((countsL P l t m n).map D.int))];refine⟨countsL P l t m n,rfl,rfl,countsL P l t m n,rfl,by show(7:Nat)<=1000;decide,λa ha=>?_,.inl ⟨by lia,by lia⟩,ite2 (λc=>?_) λ_=>?_⟩
   .have:=bd a ha;lia
   .rw[sm] at c;simp at c
   refine⟨_,rfl,0,rfl,?_⟩;refine⟨by rw[EZ,Ef];show(7:Nat)<=100000;decide,?_⟩;exact⟨_,_,_,_,_,_,_,rfl⟩
  .rintro z ⟨o4,o5,o6,o7,o8,o9,HK,rfl⟩;k_places;exact hR
end
local macro_rules | `(tactic| walk_at "b1") => `(tactic| exact zo λ_ _ _ _ _ _ _ => rfl)
local macro_rules | `(tactic| walk_at "b2") => `(tactic| exact bind2 λ_ _ _ _ _ _ _ _ => rfl)
local macro_rules | `(tactic| walk_at "b3") => `(tactic| exact bind3 λ_ _ _ _ _ _ _ _ _ => rfl)
local macro_rules | `(tactic| walk_at "b4") => `(tactic| exact bind4 λ_ _ _ _ _ _ _ _ _ _ => rfl)
local macro_rules | `(tactic| walk_at "b5") => `(tactic| exact bind5 λ_ _ _ _ _ _ _ _ _ _ _ => rfl)
structure TopIn(K:D6):Prop where
 uDW:FnIn K "_law_at" km
 uFJ:FnIn K "_law_draws" kq
 uHC:FnIn K "_law_lines" ku
 uEO:FnIn K "_law_shift_pair" ky
 uEF:FnIn K "_law_motif_text" kA
 uHL:FnIn K "_law_motif" kC
 uHM:FnIn K "_law_wrapped" gW
 uFD:FnIn K "_law_gcd" kF
 uHP:FnIn K "_law_on" kH
 uHT:FnIn K "_law_leaf_family" kJ
 uDT:FnIn K "_law_in_family" kL
 uDU:FnIn K "_law_both" kN
 uHR:FnIn K "_law_family" kP
 uEG:FnIn K "_law_over" kR
 uEI:FnIn K "_law_pattern" kT
 uGB:FnIn K "line_from" ll
 uGF:FnIn K "lines_from" lp
 uEY:FnIn K "number_from" lr
 uEJ:FnIn K "shift_from" lv
 uGJ:FnIn K "levelled" lx
 uHW:FnIn K "spread" lz
 uES:FnIn K "home" lD
 uGY:FnIn K "hues_by_home" lG
 uHE:FnIn K "motif_from" lL
 uGD:FnIn K "over_from" gX
 uHI:FnIn K "shifted_from" gY
 uIA:FnIn K "rehue_from" gZ
 uDX:FnIn K "form_from" hJ
 uHS:FnIn K "measure" mn
 uDZ:FnIn K "met" mq
 uGP:FnIn K "mirrored" mx
 uFU:FnIn K "turned" mz
 uFQ:FnIn K "read" mC
 uFB:FnIn K "_law_coordinate" mF
 uFP:FnIn K "_law_leaf_shows" mH
 uGR:FnIn K "_law_shows" mJ
 uFV:FnIn K "_law_due" mL
 uEX:FnIn K "refuse_far" mN
 uHA:FnIn K "cell_at" mQ
 uDY:FnIn K "row_from" iD
 uED:FnIn K "field_rows" iE
 uGS:FnIn K "round_row" mW
 uEV:FnIn K "count_sign" mZ
 uFY:FnIn K "count_all" iF
 uDV:FnIn K "_law_whole" nj
 uHH:FnIn K "_law_seven" nq
 uGO:FnIn K "law" fY
 uHU:NnIn K "len"
 uHV:NnIn K "range"
 uGN:NnIn K "int"
 uFI:NnIn K "str"
 uGI:NnIn K "list"
 uFA:NnIn K "abs"
 uGV:NnIn K "max"
 uGQ:NnIn K "enumerate"
 uHX:NnIn K "min"
 uEU:NnIn K "isinstance"
 uEC:NnIn K "bool"
 uEZ:NnIn K "sum"
 uBN:ClIn K "Reading"
 uBH:ClIn K "Motif"
 uCJ:ClIn K "Mirror"
 uCY:ClIn K "Turn"
 uBO:ClIn K "Over"
 uAZ:ClIn K "Shifted"
 uBA:ClIn K "Rehue"
 uBW:ClIn K "Pattern"
 uHQ:InIn K "Motif" "Motif.__init__" lJ
 uFL:InIn K "Mirror" "Mirror.__init__" lN
 uHN:InIn K "Turn" "Turn.__init__" lQ
 uEN:InIn K "Over" "Over.__init__" lU
 uGT:InIn K "Shifted" "Shifted.__init__" lW
 uHK:InIn K "Rehue" "Rehue.__init__" lZ
 uEH:InIn K "Reading" "Reading.__init__" me
 uEA:InIn K "Pattern" "Pattern.__init__" mi
 uFM:MtIn K "Reading" "may_take" "Reading.may_take" kY
 uEP:MtIn K "Reading" "take" "Reading.take" lf
 uFW:MtIn K "Motif" "family" "Motif.family" hU
 uGH:MtIn K "Over" "family" "Over.family" hV
 uFG:MtIn K "Shifted" "family" "Shifted.family" ia
 uFT:MtIn K "Mirror" "family" "Mirror.family" ic
 uGL:MtIn K "Turn" "family" "Turn.family" ig
 uGC:MtIn K "Rehue" "family" "Rehue.family" ij
 uHJ:MtIn K "Motif" "shows" "Motif.shows" il
 uFH:MtIn K "Over" "shows" "Over.shows" im
 uEL:MtIn K "Shifted" "shows" "Shifted.shows" ir
 uFC:MtIn K "Mirror" "shows" "Mirror.shows" iw
 uFN:MtIn K "Turn" "shows" "Turn.shows" iz
 uGU:MtIn K "Rehue" "shows" "Rehue.shows" iB
 uFR:NoIn K "Reading" "text"
 uFE:NoIn K "Reading" "place"
 uGK:NoIn K "Motif" "place"
 uGA:NoIn K "Motif" "shifts"
 uGE:NoIn K "Motif" "hues"
 uGZ:NoIn K "Mirror" "form"
 uHG:NoIn K "Turn" "form"
 uHZ:NoIn K "Over" "above"
 uGW:NoIn K "Over" "below"
 uFX:NoIn K "Shifted" "form"
 uGX:NoIn K "Shifted" "x"
 uHB:NoIn K "Shifted" "y"
 uET:NoIn K "Rehue" "form"
 uFF:NoIn K "Rehue" "old"
 uEQ:NoIn K "Rehue" "new"
 uEW:NoIn K "Pattern" "text"
 uEK:NoIn K "Pattern" "shifts"
 uFS:NoIn K "Pattern" "form"
 uEB:CsIn K "SIGNS" ".123456"
 uHD:CiIn K "LONGEST" 8
 uHF:CiIn K "DEEP" 5
 uER:CiIn K "MOST" 720
 uFK:CiIn K "FAR" 1000000000000
 eb:EbIn K
 uY:E1In K "WrongSign" "WrongSign.__init__" kW
 uAM:EaIn K "WrongSign"
 uEM:NoIn K "WrongSign" "place"
 uAA:E1In K "OneLine" "OneLine.__init__" ml
 uAT:EaIn K "OneLine"
 uGM:NoIn K "OneLine" "place"
 uHO:E0In K "TooGreat"
 uEE:E0In K "TooFar"
 uHY:EiIn K "MotifError"
def D0{V:Bx}{h:Heap}(t:TopIn V.K)(X:V.K.In h)(G:h.Ns Pi V.mg){fa:KF}{fd:PY}(F:Fun V.K "law" "law" fY fa fd):FnOk V.P V.w V.K V.mg V.base (Exc.CX1 V.P V.w) 20 fa fd nu (lSp V.K eF):=by
 have uC:=mg_none_of X G t.uHU;have uA:=mg_none_of X G t.uHV;have uD:=mg_none_of X G t.uGN;have uT:=mg_none_of X G t.uFI;have Iy:=mg_none_of X G t.uGI;have uL:=mg_none_of X G t.uFA;have uM:=mg_none_of X G t.uGV;have Ig:=mg_none_of X G t.uGQ;have Im:=mg_none_of X G t.uHX;have Io:=mg_none_of X G t.uEU;have Mr:=mg_none_of X G t.uEC;have Mt:=mg_none_of X G t.uEZ;have HD:=t.uBN.a t.uFR;have uF:=t.uBN.a t.uFE;have HE:=t.uBH.a t.uGK;have uJ:=t.uBH.a t.uGA;have HF:=t.uBH.a t.uGE;have uQ:=t.uCJ.a t.uGZ;have uO:=t.uCY.a t.uHG;have uP:=t.uBO.a t.uHZ;have uR:=t.uBO.a t.uGW;have uN:=t.uAZ.a t.uFX;have uZ:=t.uAZ.a t.uGX;have HG:=t.uAZ.a t.uHB;have uS:=t.uBA.a t.uET;have HH:=t.uBA.a t.uFF;have HI:=t.uBA.a t.uEQ;have L8:=t.uBW.a t.uEW;have uW:=t.uBW.a t.uEK;have IH:=t.uBW.a t.uFS;have uK:=t.uEB.g X G;have Kp:=t.uHD.g X G;have JM:=t.uHF.g X G;have Ma:=t.uER.g X G;have Mj:=t.uFK.g X G;have uAM:=t.uY.a t.eb t.uAM X G;have LR:=t.uEM.all;have uAT:=t.uAA.a t.eb t.uAT X G;have L9:=t.uGM.all;have Md:=t.uHO.k t.eb X G;have Ml:=t.uEE.k t.eb X G;have IE:=t.uHY.b X G;have uU:iG V:=CD (t.uDW.tx X G (by walk_at "b2")) uC;have Ix:iH V:=CF (t.uFJ.tx X G (by walk_at "b3")) uA uU;have LB:nv V:=CG (t.uHC.tx X G (by walk_at "b1")) uA uC;have LC:nw V:=CH (t.uEO.tx X G (by walk_at "b1")) uD;have LD:ny V:=CI (t.uEF.tx X G (by walk_at "b3")) uT;have Kl:nz V:=CJ (t.uHL.tx X G (by walk_at "b2")) Ix LB LC LD;have Km:nA V:=CK (t.uHM.tx X G (by walk_at "b2")) uT Iy uD;have IC:iI V:=CL (t.uFD.tx X G (by walk_at "b2")) uL;have ID:iJ V:=CM (t.uHP.tx X G (by walk_at "b4"));have Ki:nB V:=CN (t.uHT.tx X G (by walk_at "b1")) uL IC ID;have LK:nC V:=CO (t.uDT.tx X G (by walk_at "b3"));have LO:nD V:=CP (t.uDU.tx X G (by walk_at "b2")) IC LK;have LP:nE V:=CQ (t.uHR.tx X G (by walk_at "b1")) Ki LO;have Kn:nF V:=CS (t.uEG.tx X G (by walk_at "b2")) uM LP;have Ks:nG V:=CT (t.uEI.tx X G (by walk_at "b2")) uA Ix Kl Km Kn;have uY:iK V:=CU (t.uY.txe t.eb X G (by walk_at "b2")) IE uAM LR;have uI:dg V:=CV (t.uFM.txm t.uBN (by walk_at "b2")) uC HD uF;have uB:cA V:=CW (t.uEP.txm t.uBN (by walk_at "b2")) uF uI uY;have Ko:nH V:=CY (t.uGB.tx X G (by walk_at "b3")) uA uK uB uI;have LY:nI V:=CZ (t.uGF.tx X G (by walk_at "b1")) uC Ko Kp uI;have Kr:nJ V:=C0 (t.uEY.tx X G (by walk_at "b1")) uD uI uB;have uX:fZ V:=C1 (t.uEJ.tx X G (by walk_at "b1")) Kr uB;have IF:iL V:=C3 (t.uGJ.tx X G (by walk_at "b2"));have IG:iM V:=C4 (t.uHW.tx X G (by walk_at "b2")) uL IF;have uV:fk V:=C5 (t.uES.tx X G (by walk_at "b3"));have LX:nK V:=C6 (t.uGY.tx X G (by walk_at "b2")) Ig uV uK;have LZ:nL V:=C7 (t.uHQ.txi X G (by walk_at "b5")) IG LX HE uJ HF;have JL:iN V:=C8 (t.uHE.tx X G (by walk_at "b1")) LY uX uF LZ uB;have JN:iO V:=C9 (t.uFL.txi X G (by walk_at "b2")) uQ;have JO:iQ V:=Da (t.uHN.txi X G (by walk_at "b2")) uO;have JI:iR V:=Db (t.uEN.txi X G (by walk_at "b3")) uP uR;have JJ:iS V:=Dc (t.uGT.txi X G (by walk_at "b4")) uN uZ HG;have JK:iT V:=Dd (t.uHK.txi X G (by walk_at "b4")) uS HH HI;have uH:sT V:=Di (t.uGD.tx X G (by walk_at "b2")) (t.uHI.tx X G (by walk_at "b2")) (t.uIA.tx X G (by walk_at "b2")) (t.uDX.tx X G (by walk_at "b2")) JI uB uX JJ uD JK JL JM JN JO uI 6;have Mb:nM V:=Dj (t.uEH.txi X G (by walk_at "b2")) HD uF;have Mc:nN V:=Dk (t.uEA.txi X G (by walk_at "b4")) L8 uW IH;have uAA:iU V:=Dl (t.uAA.txe t.eb X G (by walk_at "b2")) IE uAT L9;have JQ:nO V:=Dm (t.uHS.tx X G (by walk_at "b2")) IF;have JR:iV V:=Dn (t.uDZ.tx X G (by walk_at "b2")) JQ;have JT:iW V:=Do (t.uGP.tx X G (by walk_at "b1"));have JU:iX V:=Dp (t.uFU.tx X G (by walk_at "b1")) IG;have uG:sU V:=Dv (t.uFW.txm t.uBH (by walk_at "b1")) (t.uGH.txm t.uBO (by walk_at "b1")) (t.uFG.txm t.uAZ (by walk_at "b1")) (t.uFT.txm t.uCJ (by walk_at "b1")) (t.uGL.txm t.uCY (by walk_at "b1")) (t.uGC.txm t.uBA (by walk_at "b1")) uJ HE uAA JR uP uR uN JT uQ JU uO uS 6;have Mu:nP V:=Dw (t.uFQ.tx X G (by walk_at "b1")) uC uH Ma uF Mb Mc uG uY Md;have Kt:nQ V:=Dx (t.uFB.tx X G (by walk_at "b1"));have Mh:nR V:=Dy (t.uFP.tx X G (by walk_at "b3")) uA uC uD ID;have Mi:nS V:=Dz (t.uGR.tx X G (by walk_at "b3")) Mh;have Mw:nU V:=DC (t.uFV.tx X G (by walk_at "b5")) uA Mi;have Il:iY V:=DD (t.uEX.tx X G (by walk_at "b2")) uM uL Mj Ml;have uE:sV V:=DL (t.uHJ.txm t.uBH (by walk_at "b3")) (t.uFH.txm t.uBO (by walk_at "b3")) (t.uEL.txm t.uAZ (by walk_at "b3")) (t.uFC.txm t.uCJ (by walk_at "b3")) (t.uFN.txm t.uCY (by walk_at "b3")) (t.uGU.txm t.uBA (by walk_at "b3")) uV HF uJ uP uR uN HG uZ uQ uO uS HH HI 6;have Mm:nV V:=DM (t.uHA.tx X G (by walk_at "b3")) Il IH uE;have Mn:nW V:=DN (t.uDY.tx X G (by walk_at "b4")) uA Mm uK;have Mo:nX V:=DO (t.uED.tx X G (by walk_at "b1")) uA Mn uW;have Mp:C_round_row V:=DP (t.uGS.tx X G (by walk_at "b4")) uV;have Mq:nY V:=DQ (t.uEV.tx X G (by walk_at "b3")) uC;have Mx:nZ V:=DR (t.uFY.tx X G (by walk_at "b5")) uM uA Im Ig Il Mo Mp Mq uK uW;have Ms:oa V:=DU (t.uDV.tx X G (by walk_at "b1")) Io Mr uD;have Mz:oe V:=DY (t.uHH.tx X G (by walk_at "b2")) uC Io Iy uA Ms;exact DZ F uA Im uM Mt Ks Mu Kt uU Mw Mx Mz
def all_mk{l:F8}{w:PP}{K:D6}{h:Heap}{mg:y'->Option KB}{fa:KF}(X:K.In h)(G:h.Ns Pi mg)(Jr:mg "law"=be (.ref fa))(t:TopIn K):
  ∃ fd:PY,(∀ (s:KM) (v:KB),QM s fd ⟨[v],[]⟩ [("_law_script",v)])/\∀ base:Heap,K.In base->base.Ns Pi mg->FnOk l.prog w K mg base (Exc.CX1 l.prog w) 20 fa fd ["_law_script"] (lSp K eF):=by
 obtain⟨fd,b,F⟩:=t.uGO.law X G Jr (λ_ _ _ _ _ _ _=>rfl);exact⟨fd,b,λbase _ _=>D0 (V:=⟨l.prog,w,K,mg,base⟩) t X G F⟩
def law_walk{l:F8}{q:PH}{j6:List y'}{XP:(y'->Option KB)->Heap->Prop}{YP:PP->Heap->Prop}{d:DefRec}{K:Params->D6}(hn:l.most=be 63)(IU:d.params.defaults=[])
  (hY:∀ (w:PP) (h:Heap),YP w h->(K w.params).In h)
  (F:∀ (w:PP) (mg:y'->Option KB) (fa:KF) (h:Heap),(K w.params).In h->h.Ns Pi mg->mg d.name=be (.ref fa)->
   ∃ fd:PY,(∀ (s:KM) (u:KB),QM s fd ⟨[u],[]⟩ [("_law_script",u)])/\∀ base:Heap,(K w.params).In base->base.Ns Pi mg->FnOk l.prog w (K w.params) mg base (Exc.CX1 l.prog w) 20 fa fd ["_law_script"] (lSp (K w.params) eF)):
  GH q j6 XP YP l.row.toRowW d [] (λf vs=>PySem.call f vs):=
 L2.walk_of (n:=63) (k:=20) (x:="_law_script") (CX:=λw=>Exc.CX1 l.prog w) (sp:=λw=>lSp (K w.params) eF) hn (by decide) IU ⟨rfl,by decide,by decide⟩ hY F (λ_ _ a ns hl _ hS=>xo hl hS) λ_ _ _ _ _ h=>by obtain⟨_,_,_,_,_,_,_,_,_,_,_,_,_,_,_,z⟩:=h;exact z
end My
open PySem PySem.W PyProof.Rows
set_option maxRecDepth 100000 in
set_option maxHeartbeats 0 in
theorem PySem.Challenge.cw_motiffield_k26_counts_all_holds : PySem.Challenge.rw_motiffield_k26_counts_all.Holds := by
  w_on; o_law; k_head; (case hw => w_witness2)
  k_fill
  refine My.law_walk (l := PySem.Challenge.rw_motiffield_k26_counts_all) rfl rfl (λw h Y => kIn_of Y) ?F
  case F =>
    intro w mg fa h KX G l8;refine My.all_mk KX G l8 ?_;constructor
    all_goals first | ((with_reducible refine' My.fnIn_mk ?a ?l ?c ?k); (case a => k_is); (case l => k_is); (case c => k_is); (case k => k_is)) | ((with_reducible refine' My.nnIn_mk ?a); (case a => k_is)) | ((with_reducible refine' My.noIn_mk ?a ?b); (case a => k_is); (case b => k_is)) | ((with_reducible refine' My.mtIn_mk ?a ?b ?i ?l ?c ?k); (case a => k_is); (case b => k_is); (case i => k_is); (case l => k_is); (case c => k_is); (case k => k_is)) | ((with_reducible refine' My.inIn_mk ?a ?mk ?b ?i ?kp ?l ?c ?k); (case a => k_is); (case mk => k_is); (case b => k_is); (case i => k_is); (case kp => k_is); (case l => k_is); (case c => k_is); (case k => k_is)) | ((with_reducible refine' My.clIn_mk ?a ?pg ?hd ?po ?sa ?ha ?hn ?ht ?hm); (case a => k_is); (case pg => k_is); (case hd => k_is); (case po => k_is); (case sa => k_is); (case ha => k_is); (case hn => k_is); (case ht => k_is); (case hm => k_is)) | ((with_reducible refine' My.ciIn_mk ?a); (case a => k_is)) | ((with_reducible refine' My.csIn_mk ?a); (case a => k_is)) | ((with_reducible refine' My.ebIn_mk ?a ?kp ?o ?nk ?al ?ni); (case a => k_is); (case kp => k_is); (case o => k_is); (case nk => k_is); (case al => rfl); (case ni => k_is)) | ((with_reducible refine' My.e0In_mk ?b ?a ?kp ?o ?nk ?al ?ni); (case b => k_is); (case a => k_is); (case kp => k_is); (case o => k_is); (case nk => k_is); (case al => rfl); (case ni => k_is)) | ((with_reducible refine' My.e1In_mk ?b ?a ?kp ?o ?j ?i ?l ?c ?k); (case b => k_is); (case a => k_is); (case kp => k_is); (case o => k_is); (case j => k_is); (case i => k_is); (case l => k_is); (case c => k_is); (case k => k_is)) | ((with_reducible refine' My.eaIn_mk ?a ?b); (case a => k_is); (case b => k_is)) | ((with_reducible refine' My.eiIn_mk ?a ?b ?c ?d); (case a => k_is); (case b => k_is); (case c => k_is); (case d => k_is))
end
